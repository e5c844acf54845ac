/-
  slices.Index at vectors, prefer.Least and the document's Least.
-/
import Derived.Test.YtkjdnmlaehjmgaaPreB
namespace Go.Proofs.Ytkjdnmlaehjmgaa
open Go.RowKit
namespace Pre
open Oct

/-- The document's place so far. -/
def atZ (l : List Vc) (n : Nat) (z : Int) : Prop := (n = 0 ∧ z = -1) ∨ ∃ k : Nat, z = k ∧ Fto l n k

end Pre
end Go.Proofs.Ytkjdnmlaehjmgaa
