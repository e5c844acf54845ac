/-
  Vectors as values and in memory; cmp.Compare, cmp.Or of four; prefer.order.
-/
import Derived.Test.YtkjdnmlaehjmgaaFre
import Derived.Test.YtkjdnmlaehjmgaaOct
import Derived.Test.YtkjdnmlaehjmgaaPreNum
import Derived.Deep.RegionHeld3
namespace Go.Proofs.Ytkjdnmlaehjmgaa
open Go.RowKit
namespace Pre
open Oct

/-- A vector as a value, its four cells, its object. -/
abbrev vv (x : Vc) : Value := .agg #[.int .u64 x.r, .int .u64 x.c, .int .u64 x.b, .int .i64 x.p]
def enc (x : Vc) : List Value := [.int .u64 x.r, .int .u64 x.c, .int .u64 x.b, .int .i64 x.p]
abbrev vo (x : Vc) : Obj := .cells #[.int .u64 x.r, .int .u64 x.c, .int .u64 x.b, .int .i64 x.p] 26

theorem ret_bool {a b : Bool} (h : a = b) : Ending.returned (.bool a) = .returned (.bool b) := by rw [h]

set_option maxRecDepth 20000 in
theorem nan_int (x : Int) (w : World) : Calls Try.prog 46 #[.int .i64 x] w fun e w' => e = .returned (.bool false) ∧ w = w' := by
  go_enter Try.func46, Try.ntmps46
  go_wp2
  go_ret
  exact ⟨ret_bool (by simp), rfl⟩

set_option maxRecDepth 20000 in
theorem nan_u64 (x : Int) (w : World) : Calls Try.prog 45 #[.int .u64 x] w fun e w' => e = .returned (.bool false) ∧ w = w' := by
  go_enter Try.func45, Try.ntmps45
  go_wp2
  go_ret
  exact ⟨ret_bool (by simp), rfl⟩

set_option maxRecDepth 20000 in
set_option maxHeartbeats 1000000 in
theorem cmp_int (x y : Int) (w : World) : Calls Try.prog 44 #[.int .i64 x, .int .i64 y] w fun e w' => e = .returned (.int .i64 (cmpZ x y)) ∧ w = w' := by
  have HX := Lib.hid (nan_int x)
  have HY := Lib.hid (nan_int y)
  rcases (show x < y ∨ (¬ x < y ∧ y < x) ∨ (¬ x < y ∧ ¬ y < x) by omega) with h1 | ⟨h1, h2⟩ | ⟨h1, h2⟩
  · have e : cmpZ x y = -1 := by unfold cmpZ; rw [if_pos h1]
    rw [e]
    go_enter Try.func44, Try.ntmps44
    go_wp2_with fail
    refine (HX.out _).mono ?_; rintro e w' ⟨rfl, rfl⟩
    go_wp2_with fail
    refine (HY.out _).mono ?_; rintro e w' ⟨rfl, rfl⟩
    go_wp2
    go_ret
    exact ⟨rfl, rfl⟩
  · have e : cmpZ x y = 1 := by unfold cmpZ; rw [if_neg h1, if_pos h2]
    rw [e]
    go_enter Try.func44, Try.ntmps44
    go_wp2_with fail
    refine (HX.out _).mono ?_; rintro e w' ⟨rfl, rfl⟩
    go_wp2_with fail
    refine (HY.out _).mono ?_; rintro e w' ⟨rfl, rfl⟩
    go_wp2
    go_ret
    exact ⟨rfl, rfl⟩
  · have e : cmpZ x y = 0 := by unfold cmpZ; rw [if_neg h1, if_neg h2]
    rw [e]
    go_enter Try.func44, Try.ntmps44
    go_wp2_with fail
    refine (HX.out _).mono ?_; rintro e w' ⟨rfl, rfl⟩
    go_wp2_with fail
    refine (HY.out _).mono ?_; rintro e w' ⟨rfl, rfl⟩
    go_wp2
    go_ret
    exact ⟨rfl, rfl⟩

set_option maxRecDepth 20000 in
set_option maxHeartbeats 1000000 in
theorem cmp_u64 (x y : Int) (w : World) : Calls Try.prog 43 #[.int .u64 x, .int .u64 y] w fun e w' => e = .returned (.int .i64 (cmpZ x y)) ∧ w = w' := by
  have HX := Lib.hid (nan_u64 x)
  have HY := Lib.hid (nan_u64 y)
  rcases (show x < y ∨ (¬ x < y ∧ y < x) ∨ (¬ x < y ∧ ¬ y < x) by omega) with h1 | ⟨h1, h2⟩ | ⟨h1, h2⟩
  · have e : cmpZ x y = -1 := by unfold cmpZ; rw [if_pos h1]
    rw [e]
    go_enter Try.func43, Try.ntmps43
    go_wp2_with fail
    refine (HX.out _).mono ?_; rintro e w' ⟨rfl, rfl⟩
    go_wp2_with fail
    refine (HY.out _).mono ?_; rintro e w' ⟨rfl, rfl⟩
    go_wp2
    go_ret
    exact ⟨rfl, rfl⟩
  · have e : cmpZ x y = 1 := by unfold cmpZ; rw [if_neg h1, if_pos h2]
    rw [e]
    go_enter Try.func43, Try.ntmps43
    go_wp2_with fail
    refine (HX.out _).mono ?_; rintro e w' ⟨rfl, rfl⟩
    go_wp2_with fail
    refine (HY.out _).mono ?_; rintro e w' ⟨rfl, rfl⟩
    go_wp2
    go_ret
    exact ⟨rfl, rfl⟩
  · have e : cmpZ x y = 0 := by unfold cmpZ; rw [if_neg h1, if_neg h2]
    rw [e]
    go_enter Try.func43, Try.ntmps43
    go_wp2_with fail
    refine (HX.out _).mono ?_; rintro e w' ⟨rfl, rfl⟩
    go_wp2_with fail
    refine (HY.out _).mono ?_; rintro e w' ⟨rfl, rfl⟩
    go_wp2
    go_ret
    exact ⟨rfl, rfl⟩

set_option maxRecDepth 20000 in
set_option maxHeartbeats 1000000 in
theorem or_any (a b c d : Int) (k : Nat) (w : World) (h0 : w.cell? ⟨k, 0, none⟩ = some (.int .i64 a)) (h1 : w.cell? ⟨k, 1, none⟩ = some (.int .i64 b)) (h2 : w.cell? ⟨k, 2, none⟩ = some (.int .i64 c)) (h3 : w.cell? ⟨k, 3, none⟩ = some (.int .i64 d)) :
    Calls Try.prog 42 #[.slice (some ⟨k, 0, none⟩) 4 4] w fun e w' => e = .returned (.int .i64 (orL a b c d)) ∧ w = w' := by
  rcases (show ¬ a = 0 ∨ (a = 0 ∧ ¬ b = 0) ∨ (a = 0 ∧ b = 0 ∧ ¬ c = 0) ∨ (a = 0 ∧ b = 0 ∧ c = 0 ∧ ¬ d = 0) ∨ (a = 0 ∧ b = 0 ∧ c = 0 ∧ d = 0) by omega) with g | ⟨rfl, g⟩ | ⟨rfl, rfl, g⟩ | ⟨rfl, rfl, rfl, g⟩ | ⟨rfl, rfl, rfl, rfl⟩
  · have e : orL a b c d = a := by unfold orL; simp [g]
    rw [e]
    have gb : (a == 0) = false := by simp; omega
    go_enter Try.func42, Try.ntmps42
    go_wp2
    refine wp_loop_rounds 5 ?_
    rw [rounds_succ]; go_wp2
    go_ret
    exact ⟨rfl, rfl⟩
  · have e : orL 0 b c d = b := by unfold orL; simp [g]
    rw [e]
    have gb : (b == 0) = false := by simp; omega
    go_enter Try.func42, Try.ntmps42
    go_wp2
    refine wp_loop_rounds 5 ?_
    rw [rounds_succ]; go_wp2
    rw [rounds_succ]; go_wp2
    go_ret
    exact ⟨rfl, rfl⟩
  · have e : orL 0 0 c d = c := by unfold orL; simp [g]
    rw [e]
    have gb : (c == 0) = false := by simp; omega
    go_enter Try.func42, Try.ntmps42
    go_wp2
    refine wp_loop_rounds 5 ?_
    rw [rounds_succ]; go_wp2
    rw [rounds_succ]; go_wp2
    rw [rounds_succ]; go_wp2
    go_ret
    exact ⟨rfl, rfl⟩
  · have e : orL 0 0 0 d = d := by unfold orL; simp
    rw [e]
    have gb : (d == 0) = false := by simp; omega
    go_enter Try.func42, Try.ntmps42
    go_wp2
    refine wp_loop_rounds 5 ?_
    rw [rounds_succ]; go_wp2
    rw [rounds_succ]; go_wp2
    rw [rounds_succ]; go_wp2
    rw [rounds_succ]; go_wp2
    go_ret
    exact ⟨rfl, rfl⟩
  · show Calls _ _ _ _ fun e w' => e = .returned (.int .i64 0) ∧ w = w'
    go_enter Try.func42, Try.ntmps42
    go_wp2
    refine wp_loop_rounds 5 ?_
    rw [rounds_succ]; go_wp2
    rw [rounds_succ]; go_wp2
    rw [rounds_succ]; go_wp2
    rw [rounds_succ]; go_wp2
    rw [rounds_succ]; go_wp2
    go_ret
    exact ⟨rfl, rfl⟩

set_option maxRecDepth 20000 in
set_option maxHeartbeats 4000000 in
theorem order_any (x y : Vc) (w : World) : Calls Try.prog 41 #[vv x, vv y] w fun e w' => e = .returned (.int .i64 (ordV x y)) ∧ Below w.heap.size w w' := by
  have bel := Lib.hid (Bx.bel_box (Bx.box_below w (vo x)) (vo y))
  have X := ((Bx.Blk.new w (enc x) 26).keep (Bx.box_below _ (vo y))).all4
  have Y := (Bx.Blk.new_at (W := w.alloc (vo x)) (k := w.heap.size + 1) (enc y) 26 (by simp)).all4
  have H1 := Lib.hid (cmp_u64 x.r y.r)
  have H2 := Lib.hid (cmp_u64 x.c y.c)
  have H3 := Lib.hid (cmp_u64 x.b y.b)
  have H4 := Lib.hid (cmp_int x.p y.p)
  unfold ordV
  obtain ⟨x1, x2, x3, x4⟩ := x
  obtain ⟨y1, y2, y3, y4⟩ := y
  simp only at X Y H1 H2 H3 H4 ⊢
  obtain ⟨a0, a1, a2, a3⟩ := X
  obtain ⟨b0, b1, b2, b3⟩ := Y
  generalize cmpZ (x1 : Int) (y1 : Int) = z1 at *
  generalize cmpZ (x2 : Int) (y2 : Int) = z2 at *
  generalize cmpZ (x3 : Int) (y3 : Int) = z3 at *
  generalize cmpZ x4 y4 = z4 at *
  have C := (Bx.Blk.new_at (W := (w.alloc (vo ⟨x1, x2, x3, x4⟩)).alloc (vo ⟨y1, y2, y3, y4⟩)) (k := w.heap.size + 1 + 1) [.int .i64 z1, .int .i64 z2, .int .i64 z3, .int .i64 z4] 3 (by simp)).all4
  have H5 := Lib.hid (or_any z1 z2 z3 z4 (w.heap.size + 1 + 1) ((((w.alloc (vo ⟨x1, x2, x3, x4⟩)).alloc (vo ⟨y1, y2, y3, y4⟩)).alloc (.cells #[.int .i64 z1, .int .i64 z2, .int .i64 z3, .int .i64 z4] 3)).drew) C.1 C.2.1 C.2.2.1 C.2.2.2)
  have B3 := Lib.hid ((Bx.bel_box bel.out (.cells #[.int .i64 z1, .int .i64 z2, .int .i64 z3, .int .i64 z4] 3)).drew)
  clear C
  generalize orL z1 z2 z3 z4 = r at *
  go_enter Try.func41, Try.ntmps41
  go_wp2
  go_region_held3 (fun w' => (w'.cell? ⟨w.heap.size, 0, none⟩ = some (.int .u64 x1) ∧ w'.cell? ⟨w.heap.size, 1, none⟩ = some (.int .u64 x2) ∧ w'.cell? ⟨w.heap.size, 2, none⟩ = some (.int .u64 x3) ∧ w'.cell? ⟨w.heap.size, 3, none⟩ = some (.int .i64 x4)) ∧ (w'.cell? ⟨w.heap.size + 1, 0, none⟩ = some (.int .u64 y1) ∧ w'.cell? ⟨w.heap.size + 1, 1, none⟩ = some (.int .u64 y2) ∧ w'.cell? ⟨w.heap.size + 1, 2, none⟩ = some (.int .u64 y3) ∧ w'.cell? ⟨w.heap.size + 1, 3, none⟩ = some (.int .i64 y4)))
    (first | (go_split_ands; exact ⟨⟨Bx.kept_new (by assumption), Bx.kept_new (by assumption), Bx.kept_new (by assumption), Bx.kept_new (by assumption)⟩, Bx.kept_new (by assumption), Bx.kept_new (by assumption), Bx.kept_new (by assumption), Bx.kept_new (by assumption)⟩) | (go_keep; done))
    (first | (go_at_call 43; with_reducible first | (refine (H1.out _).mono ?_; rintro e w1 ⟨rfl, rfl⟩) | (refine (H2.out _).mono ?_; rintro e w1 ⟨rfl, rfl⟩) | (refine (H3.out _).mono ?_; rintro e w1 ⟨rfl, rfl⟩)) | (go_at_call 44; with_reducible refine (H4.out _).mono ?_; rintro e w1 ⟨rfl, rfl⟩) | (go_at_call 42; with_reducible refine (H5.out).mono ?_; rintro e w1 ⟨rfl, rfl⟩))
  go_wp2
  go_ret
  exact ⟨rfl, B3.out⟩

end Pre
end Go.Proofs.Ytkjdnmlaehjmgaa
