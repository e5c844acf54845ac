/-
  What anew answers.
-/
import Derived.Test.YtkjdnmlaehjmgaaRspB
namespace Go.Proofs.Ytkjdnmlaehjmgaa
open Go.RowKit
namespace Rsp
open Pre Crd

end Rsp
end Go.Proofs.Ytkjdnmlaehjmgaa
