/-
  What Receive answers.
-/
import Derived.Test.YtkjdnmlaehjmgaaRspC
namespace Go.Proofs.Ytkjdnmlaehjmgaa
open Go.RowKit
namespace Rsp
open Pre Crd

theorem sort_is (c : Cd) (b : Bd) : sortI c b = 0 ∨ sortI c b = 1 ∨ sortI c b = 2 ∨ sortI c b = 3 ∨ sortI c b = 4 := by
  unfold sortI sortD
  repeat' split
  all_goals simp

end Rsp
end Go.Proofs.Ytkjdnmlaehjmgaa
