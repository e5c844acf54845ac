/-
  What attr.Read reads of any text.
-/
import Derived.Test.YtaeeonohakkgbaaDoorAttC
namespace Go.Proofs.YtaeeonohakkgbaaDoor
open Go.RowKit
namespace Att
open Oct

/-- What stands first in a text that is not empty. -/
def headE (t : ByteArray) : Int × At := if h : 2 ≤ t.size then (if t[0].toNat < 1 ∨ t[1].toNat < 2 then ((3 : Int), ((0 : Int), (⟨#[]⟩ : ByteArray))) else if t.size < t[1].toNat then ((2 : Int), ((0 : Int), (⟨#[]⟩ : ByteArray))) else ((0 : Int), ((t[0].toNat : Int), t.extract 2 t[1].toNat))) else ((2 : Int), ((0 : Int), (⟨#[]⟩ : ByteArray)))

end Att
end Go.Proofs.YtaeeonohakkgbaaDoor
