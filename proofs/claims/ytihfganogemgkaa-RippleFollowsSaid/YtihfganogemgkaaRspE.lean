/-
  What Message and Protocol answer.
-/
import Derived.Test.YtihfganogemgkaaRspD
namespace Go.Proofs.Ytihfganogemgkaa
open Go.RowKit
namespace Rsp
open Pre Crd

end Rsp
end Go.Proofs.Ytihfganogemgkaa
