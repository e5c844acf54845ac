/-
  prefer.Own, Via, Designated, Older, and the document's.
-/
import Derived.Test.YtmjkhgmdoilpeaaPreC
import Derived.Lib.MinMax
namespace Go.Proofs.Ytmjkhgmdoilpeaa
open Go.RowKit
namespace Pre
open Oct

/-- Times as a value, its four cells, its object. -/
structure Tm where
  a : Int
  m : Int
  h : Int
  d : Int
  deriving DecidableEq

abbrev tmv (x : Tm) : Value := .agg #[.int .i64 x.a, .int .i64 x.m, .int .i64 x.h, .int .i64 x.d]
def tenc (x : Tm) : List Value := [.int .i64 x.a, .int .i64 x.m, .int .i64 x.h, .int .i64 x.d]
abbrev tmo (x : Tm) : Obj := .cells #[.int .i64 x.a, .int .i64 x.m, .int .i64 x.h, .int .i64 x.d] 26

def olderA (a : Int) : Int := if a < 255 then a + 1 else a

set_option maxRecDepth 20000 in
set_option maxHeartbeats 4000000 in
theorem own_any (k : Nat) (w : World) : Calls Try.prog 21 #[.int .u64 k] w fun e w' => e = .returned (vv ⟨k, 0, k, 0⟩) ∧ Below w.heap.size w w' := by
  have B0 := Lib.hid (Bx.box_below w (vo ⟨k, 0, k, 0⟩))
  go_enter Try.func21, Try.ntmps21
  go_wp2
  refine bodyPost_ret (v := vv ⟨k, 0, k, 0⟩) ?_ rfl ⟨rfl, B0.out⟩
  simp [results, Try.results21, go_sem]

set_option maxRecDepth 20000 in
set_option maxHeartbeats 4000000 in
theorem des_any (x : Vc) (k : Nat) (p : Int) (w : World) : Calls Try.prog 20 #[vv x, .int .u64 k, .int .i64 p] w fun e w' => e = .returned (vv ⟨x.r, x.c, k, p⟩) ∧ Below w.heap.size w w' := by
  have B0 := Lib.hid (Bx.bel_box (Bx.box_below w (vo x)) (vo ⟨x.r, x.c, k, p⟩))
  obtain ⟨x1, x2, x3, x4⟩ := x
  go_enter Try.func20, Try.ntmps20
  go_wp2
  refine bodyPost_ret (v := vv ⟨x1, x2, k, p⟩) ?_ rfl ⟨rfl, B0.out⟩
  simp [results, Try.results20, go_sem]

set_option maxRecDepth 20000 in
set_option maxHeartbeats 4000000 in
theorem older_any (x : Tm) (hx : -9223372036854775808 ≤ x.a) (w : World) : Calls Try.prog 18 #[tmv x] w fun e w' => e = .returned (tmv ⟨olderA x.a, x.m, x.h, x.d⟩) ∧ Below w.heap.size w w' := by
  obtain ⟨x1, x2, x3, x4⟩ := x
  simp only at hx ⊢
  by_cases h : x1 < 255
  · have hw : IntKind.i64.wrap (x1 + 1) = x1 + 1 := by rw [IntKind.wrap_i64]; omega
    have e : olderA x1 = x1 + 1 := if_pos h
    rw [e]
    clear e
    have B2 := Lib.hid (Bx.bel_box (Bx.box_below w (tmo ⟨x1 + 1, x2, x3, x4⟩)) (tmo ⟨x1 + 1, x2, x3, x4⟩))
    go_enter Try.func18, Try.ntmps18
    go_wp2
    refine bodyPost_ret (v := tmv ⟨x1 + 1, x2, x3, x4⟩) ?_ rfl ⟨rfl, B2.out⟩
    simp [results, Try.results18, go_sem]
  · have e : olderA x1 = x1 := if_neg h
    rw [e]
    clear e
    have B2 := Lib.hid (Bx.bel_box (Bx.box_below w (tmo ⟨x1, x2, x3, x4⟩)) (tmo ⟨x1, x2, x3, x4⟩))
    go_enter Try.func18, Try.ntmps18
    go_wp2
    refine bodyPost_ret (v := tmv ⟨x1, x2, x3, x4⟩) ?_ rfl ⟨rfl, B2.out⟩
    simp [results, Try.results18, go_sem]

end Pre
end Go.Proofs.Ytmjkhgmdoilpeaa
