/-
  What Message and Protocol answer.
-/
import Derived.Test.YtkjdnmlaehjmgaaRspD
namespace Go.Proofs.Ytkjdnmlaehjmgaa
open Go.RowKit
namespace Rsp
open Pre Crd

end Rsp
end Go.Proofs.Ytkjdnmlaehjmgaa
