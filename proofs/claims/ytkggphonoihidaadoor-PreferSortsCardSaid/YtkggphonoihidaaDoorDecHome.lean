/-
  In every memory of the program's shape that holds the listed tables: Itoa's table of powers stands as Go's text lays it.
-/
import Derived.Test.YtkggphonoihidaaDoorDecA
import Derived.Test.YtkggphonoihidaaDoorRows
namespace Go.Proofs.YtkggphonoihidaaDoor
open Go.RowKit
namespace Dec
set_option maxRecDepth 100000

theorem home_of {W : World} {laid : List (String × DataW Unit)} (_hs : W.ShapedOpen Tryd.prog) (hL : laidMetH Tryd.prog laid W) (hpl : (laid.all fun x => x.2.handleName?.isNone) = true)
    (hm : ("internal/strconv.uint64pow10", Rows.laid_internal_strconv_uint64pow10) ∈ laid) : Home W := home_laid hL hpl hm rfl

end Dec
end Go.Proofs.YtkggphonoihidaaDoor
