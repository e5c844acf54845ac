/-
  cmp.Compare and cmp.Or at this program's types; table.ahead, and the place behind all that stand ahead (table.behind).
-/
import Derived.Test.YtfnjgjehmddkcaaDoorTabF
namespace Go.Proofs.YtfnjgjehmddkcaaDoor
open Go.RowKit
namespace Tab
open Oct

def cmpZ (x y : Int) : Int := if x < y then -1 else if y < x then 1 else 0
def orZ (a b : Int) : Int := if a ≠ 0 then a else b

theorem cmp_ahd (x y : En) : decide (orZ (cmpZ x.v y.v) (cmpZ x.m y.m) < 0) = ahd x y := by
  unfold ahd orZ cmpZ
  rw [decide_eq_decide]
  repeat' split
  all_goals omega

set_option maxRecDepth 20000 in
theorem nan_int (x : Int) (w : World) : Calls Tryd.prog 64 #[.int .i64 x] w fun e w' => e = .returned (.bool false) ∧ w = w' := by
  go_enter Tryd.func64, Tryd.ntmps64
  go_wp2
  go_ret
  exact ⟨ret_bool (by simp), rfl⟩

set_option maxRecDepth 20000 in
theorem nan_mac (x : Int) (w : World) : Calls Tryd.prog 65 #[.int .u64 x] w fun e w' => e = .returned (.bool false) ∧ w = w' := by
  go_enter Tryd.func65, Tryd.ntmps65
  go_wp2
  go_ret
  exact ⟨ret_bool (by simp), rfl⟩

set_option maxRecDepth 20000 in
set_option maxHeartbeats 1000000 in
theorem cmp_int (x y : Int) (w : World) : Calls Tryd.prog 55 #[.int .i64 x, .int .i64 y] w fun e w' => e = .returned (.int .i64 (cmpZ x y)) ∧ w = w' := by
  have HX := Lib.hid (nan_int x)
  have HY := Lib.hid (nan_int y)
  rcases (show x < y ∨ (¬ x < y ∧ y < x) ∨ (¬ x < y ∧ ¬ y < x) by omega) with h1 | ⟨h1, h2⟩ | ⟨h1, h2⟩
  · have e : cmpZ x y = -1 := by unfold cmpZ; rw [if_pos h1]
    rw [e]
    go_enter Tryd.func55, Tryd.ntmps55
    go_wp2_with fail
    refine (HX.out _).mono ?_; rintro e w' ⟨rfl, rfl⟩
    go_wp2_with fail
    refine (HY.out _).mono ?_; rintro e w' ⟨rfl, rfl⟩
    go_wp2
    go_ret
    exact ⟨rfl, rfl⟩
  · have e : cmpZ x y = 1 := by unfold cmpZ; rw [if_neg h1, if_pos h2]
    rw [e]
    go_enter Tryd.func55, Tryd.ntmps55
    go_wp2_with fail
    refine (HX.out _).mono ?_; rintro e w' ⟨rfl, rfl⟩
    go_wp2_with fail
    refine (HY.out _).mono ?_; rintro e w' ⟨rfl, rfl⟩
    go_wp2
    go_ret
    exact ⟨rfl, rfl⟩
  · have e : cmpZ x y = 0 := by unfold cmpZ; rw [if_neg h1, if_neg h2]
    rw [e]
    go_enter Tryd.func55, Tryd.ntmps55
    go_wp2_with fail
    refine (HX.out _).mono ?_; rintro e w' ⟨rfl, rfl⟩
    go_wp2_with fail
    refine (HY.out _).mono ?_; rintro e w' ⟨rfl, rfl⟩
    go_wp2
    go_ret
    exact ⟨rfl, rfl⟩

set_option maxRecDepth 20000 in
set_option maxHeartbeats 1000000 in
theorem cmp_mac (x y : Int) (w : World) : Calls Tryd.prog 56 #[.int .u64 x, .int .u64 y] w fun e w' => e = .returned (.int .i64 (cmpZ x y)) ∧ w = w' := by
  have HX := Lib.hid (nan_mac x)
  have HY := Lib.hid (nan_mac y)
  rcases (show x < y ∨ (¬ x < y ∧ y < x) ∨ (¬ x < y ∧ ¬ y < x) by omega) with h1 | ⟨h1, h2⟩ | ⟨h1, h2⟩
  · have e : cmpZ x y = -1 := by unfold cmpZ; rw [if_pos h1]
    rw [e]
    go_enter Tryd.func56, Tryd.ntmps56
    go_wp2_with fail
    refine (HX.out _).mono ?_; rintro e w' ⟨rfl, rfl⟩
    go_wp2_with fail
    refine (HY.out _).mono ?_; rintro e w' ⟨rfl, rfl⟩
    go_wp2
    go_ret
    exact ⟨rfl, rfl⟩
  · have e : cmpZ x y = 1 := by unfold cmpZ; rw [if_neg h1, if_pos h2]
    rw [e]
    go_enter Tryd.func56, Tryd.ntmps56
    go_wp2_with fail
    refine (HX.out _).mono ?_; rintro e w' ⟨rfl, rfl⟩
    go_wp2_with fail
    refine (HY.out _).mono ?_; rintro e w' ⟨rfl, rfl⟩
    go_wp2
    go_ret
    exact ⟨rfl, rfl⟩
  · have e : cmpZ x y = 0 := by unfold cmpZ; rw [if_neg h1, if_neg h2]
    rw [e]
    go_enter Tryd.func56, Tryd.ntmps56
    go_wp2_with fail
    refine (HX.out _).mono ?_; rintro e w' ⟨rfl, rfl⟩
    go_wp2_with fail
    refine (HY.out _).mono ?_; rintro e w' ⟨rfl, rfl⟩
    go_wp2
    go_ret
    exact ⟨rfl, rfl⟩

set_option maxRecDepth 20000 in
set_option maxHeartbeats 1000000 in
theorem or_any (a b : Int) (k : Nat) (w : World) (h0 : w.cell? ⟨k, 0, none⟩ = some (.int .i64 a)) (h1 : w.cell? ⟨k, 1, none⟩ = some (.int .i64 b)) :
    Calls Tryd.prog 54 #[.slice (some ⟨k, 0, none⟩) 2 2] w fun e w' => e = .returned (.int .i64 (orZ a b)) ∧ w = w' := by
  rcases (show ¬ a = 0 ∨ (a = 0 ∧ ¬ b = 0) ∨ (a = 0 ∧ b = 0) by omega) with g | ⟨rfl, g⟩ | ⟨rfl, rfl⟩
  · have e : orZ a b = a := if_pos g
    rw [e]
    have gb : (a == 0) = false := by simp; omega
    go_enter Tryd.func54, Tryd.ntmps54
    go_wp2
    refine wp_loop_rounds 3 ?_
    rw [rounds_succ]; go_wp2
    go_ret
    exact ⟨rfl, rfl⟩
  · have e : orZ 0 b = b := if_neg (by omega)
    rw [e]
    have gb : (b == 0) = false := by simp; omega
    go_enter Tryd.func54, Tryd.ntmps54
    go_wp2
    refine wp_loop_rounds 3 ?_
    rw [rounds_succ]; go_wp2
    rw [rounds_succ]; go_wp2
    go_ret
    exact ⟨rfl, rfl⟩
  · go_enter Tryd.func54, Tryd.ntmps54
    go_wp2
    refine wp_loop_rounds 3 ?_
    rw [rounds_succ]; go_wp2
    rw [rounds_succ]; go_wp2
    rw [rounds_succ]; go_wp2
    go_ret
    exact ⟨rfl, rfl⟩

set_option maxRecDepth 20000 in
set_option maxHeartbeats 2000000 in
theorem ahead_any (x y : En) (w : World) : Calls Tryd.prog 32 #[ev x, ev y] w fun e w' => e = .returned (.bool (ahd x y)) ∧ Below w.heap.size w w' := by
  rw [← cmp_ahd]
  have bel := Lib.hid (Bx.bel_box (Bx.box_below w (eo x)) (eo y))
  have X := ((Bx.Blk.new w (enc x) 29).keep (Bx.box_below _ (eo y))).all4
  have Y := (Bx.Blk.new_at (W := w.alloc (eo x)) (k := w.heap.size + 1) (enc y) 29 (by simp)).all4
  have H1 := Lib.hid (cmp_int x.v y.v)
  have H2 := Lib.hid (cmp_mac x.m y.m)
  obtain ⟨x1, x2, x3, x4⟩ := x
  obtain ⟨y1, y2, y3, y4⟩ := y
  simp only at X Y H1 H2 ⊢
  obtain ⟨a0, a1, _, _⟩ := X
  obtain ⟨b0, b1, _, _⟩ := Y
  generalize cmpZ x1 y1 = p at *
  generalize cmpZ (x2 : Int) (y2 : Int) = q at *
  have C := (Bx.Blk.new_at (W := (w.alloc (eo ⟨x1, x2, x3, x4⟩)).alloc (eo ⟨y1, y2, y3, y4⟩)) (k := w.heap.size + 1 + 1) [.int .i64 p, .int .i64 q] 3 (by simp)).all2
  have H3 := Lib.hid (or_any p q (w.heap.size + 1 + 1) ((((w.alloc (eo ⟨x1, x2, x3, x4⟩)).alloc (eo ⟨y1, y2, y3, y4⟩)).alloc (.cells #[.int .i64 p, .int .i64 q] 3)).drew) C.1 C.2)
  have B3 := Lib.hid ((Bx.bel_box bel.out (.cells #[.int .i64 p, .int .i64 q] 3)).drew)
  clear C
  generalize orZ p q = r at *
  go_enter Tryd.func32, Tryd.ntmps32
  go_wp2
  go_region_held3 (fun w' => w'.cell? ⟨w.heap.size, 0, none⟩ = some (.int .i64 x1) ∧ w'.cell? ⟨w.heap.size, 1, none⟩ = some (.int .u64 x2) ∧ w'.cell? ⟨w.heap.size + 1, 0, none⟩ = some (.int .i64 y1) ∧ w'.cell? ⟨w.heap.size + 1, 1, none⟩ = some (.int .u64 y2))
    (first | (go_split_ands; exact ⟨Bx.kept_new (by assumption), Bx.kept_new (by assumption), Bx.kept_new (by assumption), Bx.kept_new (by assumption)⟩) | (go_keep; done))
    (first | (go_at_call 55; with_reducible refine (H1.out _).mono ?_; rintro e w1 ⟨rfl, rfl⟩) | (go_at_call 56; with_reducible refine (H2.out _).mono ?_; rintro e w1 ⟨rfl, rfl⟩) | (go_at_call 54; with_reducible refine (H3.out).mono ?_; rintro e w1 ⟨rfl, rfl⟩))
  go_wp2
  go_ret
  exact ⟨rfl, B3.out⟩

end Tab
end Go.Proofs.YtfnjgjehmddkcaaDoor
