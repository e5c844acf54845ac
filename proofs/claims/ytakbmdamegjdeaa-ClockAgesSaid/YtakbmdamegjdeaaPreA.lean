/-
  Vectors as values and in memory; cmp.Compare, cmp.Or of four; prefer.order.
-/
import Derived.Test.YtakbmdamegjdeaaFre
import Derived.Test.YtakbmdamegjdeaaOct
import Derived.Test.YtakbmdamegjdeaaPreNum
import Derived.Deep.RegionHeld3
namespace Go.Proofs.Ytakbmdamegjdeaa
open Go.RowKit
namespace Pre
open Oct

/-- A vector as a value, its four cells, its object. -/
abbrev vv (x : Vc) : Value := .agg #[.int .u64 x.r, .int .u64 x.c, .int .u64 x.b, .int .i64 x.p]
def enc (x : Vc) : List Value := [.int .u64 x.r, .int .u64 x.c, .int .u64 x.b, .int .i64 x.p]
abbrev vo (x : Vc) : Obj := .cells #[.int .u64 x.r, .int .u64 x.c, .int .u64 x.b, .int .i64 x.p] 24

theorem ret_bool {a b : Bool} (h : a = b) : Ending.returned (.bool a) = .returned (.bool b) := by rw [h]

end Pre
end Go.Proofs.Ytakbmdamegjdeaa
