/-
  prefer.Own, Via, Designated, Older, and the document's.
-/
import Derived.Test.YtakbmdamegjdeaaPreC
import Derived.Lib.MinMax
namespace Go.Proofs.Ytakbmdamegjdeaa
open Go.RowKit
namespace Pre
open Oct

/-- Times as a value, its four cells, its object. -/
structure Tm where
  a : Int
  m : Int
  h : Int
  d : Int
  deriving DecidableEq

abbrev tmv (x : Tm) : Value := .agg #[.int .i64 x.a, .int .i64 x.m, .int .i64 x.h, .int .i64 x.d]
def tenc (x : Tm) : List Value := [.int .i64 x.a, .int .i64 x.m, .int .i64 x.h, .int .i64 x.d]
abbrev tmo (x : Tm) : Obj := .cells #[.int .i64 x.a, .int .i64 x.m, .int .i64 x.h, .int .i64 x.d] 26

def olderA (a : Int) : Int := if a < 255 then a + 1 else a

end Pre
end Go.Proofs.Ytakbmdamegjdeaa
