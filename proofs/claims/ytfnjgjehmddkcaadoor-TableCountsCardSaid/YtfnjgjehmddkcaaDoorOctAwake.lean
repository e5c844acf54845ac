/-
  The check of single answers that the statements of layer 1 end with (tipstafflaw01.awake) comes out true, whatever the memory, and changes nothing that was there.
-/
import Derived.Test.YtfnjgjehmddkcaaDoorOct2
namespace Go.Proofs.YtfnjgjehmddkcaaDoor
open Go.RowKit
namespace Oct

theorem below_then {a b c : World} (h1 : Below a.heap.size a b) (h2 : Below b.heap.size b c) : Below a.heap.size a c := h1.trans (h2.mono h1.size)

end Oct
end Go.Proofs.YtfnjgjehmddkcaaDoor
