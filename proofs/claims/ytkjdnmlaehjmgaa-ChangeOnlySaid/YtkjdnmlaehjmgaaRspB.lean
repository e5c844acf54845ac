/-
  What repeats, replaces, sortDesignated and Sort answer.
-/
import Derived.Test.YtkjdnmlaehjmgaaRspA
import Derived.Test.YtkjdnmlaehjmgaaCrdEq
import Derived.Deep.RegionHeld3
namespace Go.Proofs.Ytkjdnmlaehjmgaa
open Go.RowKit
namespace Rsp
open Pre Crd

end Rsp
end Go.Proofs.Ytkjdnmlaehjmgaa
