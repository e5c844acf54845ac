/-
  What rapid, times, good, role and disputed answer.
-/
import Derived.Test.YtkjdnmlaehjmgaaRspNum
import Derived.Lib.MinMax
import Derived.IntWalk
namespace Go.Proofs.Ytkjdnmlaehjmgaa
open Go.RowKit
namespace Rsp
open Pre Crd

end Rsp
end Go.Proofs.Ytkjdnmlaehjmgaa
