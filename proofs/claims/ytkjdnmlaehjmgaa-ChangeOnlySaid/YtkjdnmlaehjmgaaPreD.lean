/-
  prefer.Own, Via, Designated, Older, and the document's.
-/
import Derived.Test.YtkjdnmlaehjmgaaPreC
import Derived.Lib.MinMax
namespace Go.Proofs.Ytkjdnmlaehjmgaa
open Go.RowKit
namespace Pre
open Oct

/-- Times as a value, its four cells, its object. -/
structure Tm where
  a : Int
  m : Int
  h : Int
  d : Int
  deriving DecidableEq

abbrev tmv (x : Tm) : Value := .agg #[.int .i64 x.a, .int .i64 x.m, .int .i64 x.h, .int .i64 x.d]
def tenc (x : Tm) : List Value := [.int .i64 x.a, .int .i64 x.m, .int .i64 x.h, .int .i64 x.d]
abbrev tmo (x : Tm) : Obj := .cells #[.int .i64 x.a, .int .i64 x.m, .int .i64 x.h, .int .i64 x.d] 24

def olderA (a : Int) : Int := if a < 255 then a + 1 else a

set_option maxRecDepth 20000 in
set_option maxHeartbeats 4000000 in
theorem own_any (k : Nat) (w : World) : Calls Try.prog 34 #[.int .u64 k] w fun e w' => e = .returned (vv ⟨k, 0, k, 0⟩) ∧ Below w.heap.size w w' := by
  have B0 := Lib.hid (Bx.box_below w (vo ⟨k, 0, k, 0⟩))
  go_enter Try.func34, Try.ntmps34
  go_wp2
  refine bodyPost_ret (v := vv ⟨k, 0, k, 0⟩) ?_ rfl ⟨rfl, B0.out⟩
  simp [results, Try.results34, go_sem]

set_option maxRecDepth 20000 in
set_option maxHeartbeats 4000000 in
theorem des_any (x : Vc) (k : Nat) (p : Int) (w : World) : Calls Try.prog 37 #[vv x, .int .u64 k, .int .i64 p] w fun e w' => e = .returned (vv ⟨x.r, x.c, k, p⟩) ∧ Below w.heap.size w w' := by
  have B0 := Lib.hid (Bx.bel_box (Bx.box_below w (vo x)) (vo ⟨x.r, x.c, k, p⟩))
  obtain ⟨x1, x2, x3, x4⟩ := x
  go_enter Try.func37, Try.ntmps37
  go_wp2
  refine bodyPost_ret (v := vv ⟨x1, x2, k, p⟩) ?_ rfl ⟨rfl, B0.out⟩
  simp [results, Try.results37, go_sem]

set_option maxRecDepth 20000 in
set_option maxHeartbeats 4000000 in
theorem via_any (x : Vc) (k : Nat) (w : World) : Calls Try.prog 39 #[vv x, .int .u64 k] w fun e w' => e = .returned (vv ⟨x.r, viaN x.c k, x.b, x.p⟩) ∧ Below w.heap.size w w' := by
  have B0 := Lib.hid (Bx.bel_box (Bx.box_below w (vo ⟨x.r, viaN x.c k, x.b, x.p⟩)) (vo ⟨x.r, viaN x.c k, x.b, x.p⟩))
  obtain ⟨x1, x2, x3, x4⟩ := x
  simp only at B0 ⊢
  have HV := Lib.hid (show viaN x2 k = min (min x2 4294967295 + min k 4294967295) 4294967295 from rfl)
  generalize viaN x2 k = v at *
  have HV2 : (x2 < 4294967295 ∧ k ≤ 4294967295 ∧ x2 + k ≤ 4294967295 ∧ x2 + k = v) ∨ ((x2 < 4294967295 ∧ k ≤ 4294967295 ∧ 4294967295 < x2 + k) ∨ (x2 < 4294967295 ∧ 0 < x2 ∧ 4294967295 < k) ∨ (x2 = 0 ∧ 4294967295 < k) ∨ (4294967295 ≤ x2 ∧ k ≤ 4294967295) ∨ (4294967295 ≤ x2 ∧ 4294967295 < k)) ∧ v = 4294967295 := by have := HV.out; omega
  clear HV
  rcases HV2 with ⟨h1, h2, h3, h4⟩ | ⟨⟨h1, h2, h3⟩ | ⟨h1, h2, h3⟩ | ⟨rfl, h2⟩ | ⟨h1, h2⟩ | ⟨h1, h2⟩, rfl⟩
  · have m1 : min (x2 : Int) 4294967295 = x2 := by omega
    have m2 : min (k : Int) 4294967295 = k := by omega
    have m3 : (x2 : Int) + k = v := by omega
    have m4 : min (v : Int) 4294967295 = v := by omega
    have m5 : IntKind.u64.wrap (v : Int) = v := by rw [IntKind.wrap_u64]; omega
    have m6 : IntKind.u64.wrap (4294967295 - (x2 : Int)) = 4294967295 - (x2 : Int) := by rw [IntKind.wrap_u64]; omega
    have n1 : ¬ 4294967295 ≤ (x2 : Int) := by omega
    have n2 : ¬ 4294967295 - (x2 : Int) < k := by omega
    clear h1 h2 h3 h4
    go_enter Try.func39, Try.ntmps39
    go_wp2
    refine bodyPost_ret (v := vv ⟨_, _, _, _⟩) ?_ rfl ⟨rfl, B0.out⟩
    first | (simp [results, Try.results39, go_sem]; done) | (simp [results, Try.results39, go_sem]; omega)
  · have m1 : min (x2 : Int) 4294967295 = x2 := by omega
    have m2 : min (k : Int) 4294967295 = k := by omega
    have m4 : min ((x2 : Int) + k) 4294967295 = 4294967295 := by omega
    have m5 : IntKind.u64.wrap ((x2 : Int) + k) = (x2 : Int) + k := by rw [IntKind.wrap_u64]; omega
    have m6 : IntKind.u64.wrap (4294967295 - (x2 : Int)) = 4294967295 - (x2 : Int) := by rw [IntKind.wrap_u64]; omega
    have n1 : ¬ 4294967295 ≤ (x2 : Int) := by omega
    have n2 : 4294967295 - (x2 : Int) < k := by omega
    clear h1 h2 h3
    go_enter Try.func39, Try.ntmps39
    go_wp2
    refine bodyPost_ret (v := vv ⟨_, _, _, _⟩) ?_ rfl ⟨rfl, B0.out⟩
    first | (simp [results, Try.results39, go_sem]; done) | (simp [results, Try.results39, go_sem]; omega)
  · have m1 : min (x2 : Int) 4294967295 = x2 := by omega
    have m2 : min (k : Int) 4294967295 = 4294967295 := by omega
    have m4 : min ((x2 : Int) + 4294967295) 4294967295 = 4294967295 := by omega
    have m5 : IntKind.u64.wrap ((x2 : Int) + 4294967295) = (x2 : Int) + 4294967295 := by rw [IntKind.wrap_u64]; omega
    have m6 : IntKind.u64.wrap (4294967295 - (x2 : Int)) = 4294967295 - (x2 : Int) := by rw [IntKind.wrap_u64]; omega
    have n1 : ¬ 4294967295 ≤ (x2 : Int) := by omega
    have n2 : 4294967295 - (x2 : Int) < 4294967295 := by omega
    clear h1 h2 h3
    go_enter Try.func39, Try.ntmps39
    go_wp2
    refine bodyPost_ret (v := vv ⟨_, _, _, _⟩) ?_ rfl ⟨rfl, B0.out⟩
    first | (simp [results, Try.results39, go_sem]; done) | (simp [results, Try.results39, go_sem]; omega)
  · have m2 : min (k : Int) 4294967295 = 4294967295 := by omega
    clear h2
    go_enter Try.func39, Try.ntmps39
    go_wp2
    refine bodyPost_ret (v := vv ⟨_, _, _, _⟩) ?_ rfl ⟨rfl, B0.out⟩
    first | (simp [results, Try.results39, go_sem]; done) | (simp [results, Try.results39, go_sem]; omega)
  · have m1 : min (x2 : Int) 4294967295 = 4294967295 := by omega
    have m2 : min (k : Int) 4294967295 = k := by omega
    have m4 : min (4294967295 + (k : Int)) 4294967295 = 4294967295 := by omega
    have m5 : IntKind.u64.wrap (4294967295 + (k : Int)) = 4294967295 + (k : Int) := by rw [IntKind.wrap_u64]; omega
    have n1 : 4294967295 ≤ (x2 : Int) := by omega
    clear h1 h2
    go_enter Try.func39, Try.ntmps39
    go_wp2
    refine bodyPost_ret (v := vv ⟨_, _, _, _⟩) ?_ rfl ⟨rfl, B0.out⟩
    first | (simp [results, Try.results39, go_sem]; done) | (simp [results, Try.results39, go_sem]; omega)
  · have m1 : min (x2 : Int) 4294967295 = 4294967295 := by omega
    have m2 : min (k : Int) 4294967295 = 4294967295 := by omega
    have n1 : 4294967295 ≤ (x2 : Int) := by omega
    clear h1 h2
    go_enter Try.func39, Try.ntmps39
    go_wp2
    refine bodyPost_ret (v := vv ⟨_, _, _, _⟩) ?_ rfl ⟨rfl, B0.out⟩
    first | (simp [results, Try.results39, go_sem]; done) | (simp [results, Try.results39, go_sem]; omega)

end Pre
end Go.Proofs.Ytkjdnmlaehjmgaa
