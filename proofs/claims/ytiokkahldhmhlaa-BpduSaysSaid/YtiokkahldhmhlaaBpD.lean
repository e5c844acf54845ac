/-
  What the document's answer of Right says of anything that bridges tell; and that it changes nothing that was there.
-/
import Derived.Test.YtiokkahldhmhlaaBpB
namespace Go.Proofs.Ytiokkahldhmhlaa
open Go.RowKit
namespace Bpd
open Oct Mac Eth Epl

set_option maxHeartbeats 1000000 in
theorem small_ok (a m h d : Int) (k : Nat) (w : World) (c0 : w.cell? ⟨k, 0, none⟩ = some (.int .i64 a)) (c1 : w.cell? ⟨k, 1, none⟩ = some (.int .i64 m)) (c2 : w.cell? ⟨k, 2, none⟩ = some (.int .i64 h)) (c3 : w.cell? ⟨k, 3, none⟩ = some (.int .i64 d)) (l0 : 0 ≤ a) (u0 : a ≤ 255) (l1 : 0 ≤ m) (u1 : m ≤ 255) (l2 : 0 ≤ h) (u2 : h ≤ 255) (l3 : 0 ≤ d) (u3 : d ≤ 255) :
    Calls Try.prog 33 #[.slice (some ⟨k, 0, none⟩) 4 4] w fun e w' => e = .returned (.bool true) ∧ w = w' := by
  go_enter Try.func33, Try.ntmps33
  go_wp2
  refine wp_loop_rounds 5 ?_
  rw [rounds_succ]
  go_wp2
  rw [rounds_succ]
  go_wp2
  rw [rounds_succ]
  go_wp2
  rw [rounds_succ]
  go_wp2
  rw [rounds_succ]
  go_wp2
  go_ret
  exact ⟨rfl, rfl⟩

set_option maxHeartbeats 1000000 in
theorem small_0low (a : Int) (k : Nat) (w : World) (c0 : w.cell? ⟨k, 0, none⟩ = some (.int .i64 a)) (bad : a < 0) :
    Calls Try.prog 33 #[.slice (some ⟨k, 0, none⟩) 4 4] w fun e w' => e = .returned (.bool false) ∧ w = w' := by
  go_enter Try.func33, Try.ntmps33
  go_wp2
  refine wp_loop_rounds 5 ?_
  rw [rounds_succ]
  go_wp2
  go_ret
  exact ⟨rfl, rfl⟩

set_option maxHeartbeats 1000000 in
theorem small_0high (a : Int) (k : Nat) (w : World) (c0 : w.cell? ⟨k, 0, none⟩ = some (.int .i64 a)) (l0 : 0 ≤ a) (bad : 255 < a) :
    Calls Try.prog 33 #[.slice (some ⟨k, 0, none⟩) 4 4] w fun e w' => e = .returned (.bool false) ∧ w = w' := by
  go_enter Try.func33, Try.ntmps33
  go_wp2
  refine wp_loop_rounds 5 ?_
  rw [rounds_succ]
  go_wp2
  go_ret
  exact ⟨rfl, rfl⟩

set_option maxHeartbeats 1000000 in
theorem small_1low (a m : Int) (k : Nat) (w : World) (c0 : w.cell? ⟨k, 0, none⟩ = some (.int .i64 a)) (c1 : w.cell? ⟨k, 1, none⟩ = some (.int .i64 m)) (l0 : 0 ≤ a) (u0 : a ≤ 255) (bad : m < 0) :
    Calls Try.prog 33 #[.slice (some ⟨k, 0, none⟩) 4 4] w fun e w' => e = .returned (.bool false) ∧ w = w' := by
  go_enter Try.func33, Try.ntmps33
  go_wp2
  refine wp_loop_rounds 5 ?_
  rw [rounds_succ]
  go_wp2
  rw [rounds_succ]
  go_wp2
  go_ret
  exact ⟨rfl, rfl⟩

set_option maxHeartbeats 1000000 in
theorem small_1high (a m : Int) (k : Nat) (w : World) (c0 : w.cell? ⟨k, 0, none⟩ = some (.int .i64 a)) (c1 : w.cell? ⟨k, 1, none⟩ = some (.int .i64 m)) (l0 : 0 ≤ a) (u0 : a ≤ 255) (l1 : 0 ≤ m) (bad : 255 < m) :
    Calls Try.prog 33 #[.slice (some ⟨k, 0, none⟩) 4 4] w fun e w' => e = .returned (.bool false) ∧ w = w' := by
  go_enter Try.func33, Try.ntmps33
  go_wp2
  refine wp_loop_rounds 5 ?_
  rw [rounds_succ]
  go_wp2
  rw [rounds_succ]
  go_wp2
  go_ret
  exact ⟨rfl, rfl⟩

set_option maxHeartbeats 1000000 in
theorem small_2low (a m h : Int) (k : Nat) (w : World) (c0 : w.cell? ⟨k, 0, none⟩ = some (.int .i64 a)) (c1 : w.cell? ⟨k, 1, none⟩ = some (.int .i64 m)) (c2 : w.cell? ⟨k, 2, none⟩ = some (.int .i64 h)) (l0 : 0 ≤ a) (u0 : a ≤ 255) (l1 : 0 ≤ m) (u1 : m ≤ 255) (bad : h < 0) :
    Calls Try.prog 33 #[.slice (some ⟨k, 0, none⟩) 4 4] w fun e w' => e = .returned (.bool false) ∧ w = w' := by
  go_enter Try.func33, Try.ntmps33
  go_wp2
  refine wp_loop_rounds 5 ?_
  rw [rounds_succ]
  go_wp2
  rw [rounds_succ]
  go_wp2
  rw [rounds_succ]
  go_wp2
  go_ret
  exact ⟨rfl, rfl⟩

set_option maxHeartbeats 1000000 in
theorem small_2high (a m h : Int) (k : Nat) (w : World) (c0 : w.cell? ⟨k, 0, none⟩ = some (.int .i64 a)) (c1 : w.cell? ⟨k, 1, none⟩ = some (.int .i64 m)) (c2 : w.cell? ⟨k, 2, none⟩ = some (.int .i64 h)) (l0 : 0 ≤ a) (u0 : a ≤ 255) (l1 : 0 ≤ m) (u1 : m ≤ 255) (l2 : 0 ≤ h) (bad : 255 < h) :
    Calls Try.prog 33 #[.slice (some ⟨k, 0, none⟩) 4 4] w fun e w' => e = .returned (.bool false) ∧ w = w' := by
  go_enter Try.func33, Try.ntmps33
  go_wp2
  refine wp_loop_rounds 5 ?_
  rw [rounds_succ]
  go_wp2
  rw [rounds_succ]
  go_wp2
  rw [rounds_succ]
  go_wp2
  go_ret
  exact ⟨rfl, rfl⟩

set_option maxHeartbeats 1000000 in
theorem small_3low (a m h d : Int) (k : Nat) (w : World) (c0 : w.cell? ⟨k, 0, none⟩ = some (.int .i64 a)) (c1 : w.cell? ⟨k, 1, none⟩ = some (.int .i64 m)) (c2 : w.cell? ⟨k, 2, none⟩ = some (.int .i64 h)) (c3 : w.cell? ⟨k, 3, none⟩ = some (.int .i64 d)) (l0 : 0 ≤ a) (u0 : a ≤ 255) (l1 : 0 ≤ m) (u1 : m ≤ 255) (l2 : 0 ≤ h) (u2 : h ≤ 255) (bad : d < 0) :
    Calls Try.prog 33 #[.slice (some ⟨k, 0, none⟩) 4 4] w fun e w' => e = .returned (.bool false) ∧ w = w' := by
  go_enter Try.func33, Try.ntmps33
  go_wp2
  refine wp_loop_rounds 5 ?_
  rw [rounds_succ]
  go_wp2
  rw [rounds_succ]
  go_wp2
  rw [rounds_succ]
  go_wp2
  rw [rounds_succ]
  go_wp2
  go_ret
  exact ⟨rfl, rfl⟩

set_option maxHeartbeats 1000000 in
theorem small_3high (a m h d : Int) (k : Nat) (w : World) (c0 : w.cell? ⟨k, 0, none⟩ = some (.int .i64 a)) (c1 : w.cell? ⟨k, 1, none⟩ = some (.int .i64 m)) (c2 : w.cell? ⟨k, 2, none⟩ = some (.int .i64 h)) (c3 : w.cell? ⟨k, 3, none⟩ = some (.int .i64 d)) (l0 : 0 ≤ a) (u0 : a ≤ 255) (l1 : 0 ≤ m) (u1 : m ≤ 255) (l2 : 0 ≤ h) (u2 : h ≤ 255) (l3 : 0 ≤ d) (bad : 255 < d) :
    Calls Try.prog 33 #[.slice (some ⟨k, 0, none⟩) 4 4] w fun e w' => e = .returned (.bool false) ∧ w = w' := by
  go_enter Try.func33, Try.ntmps33
  go_wp2
  refine wp_loop_rounds 5 ?_
  rw [rounds_succ]
  go_wp2
  rw [rounds_succ]
  go_wp2
  rw [rounds_succ]
  go_wp2
  rw [rounds_succ]
  go_wp2
  go_ret
  exact ⟨rfl, rfl⟩

theorem small_any (a m h d : Int) (k : Nat) (w : World) (hB : Bx.Blk w k [.int .i64 a, .int .i64 m, .int .i64 h, .int .i64 d]) :
    Calls Try.prog 33 #[.slice (some ⟨k, 0, none⟩) 4 4] w fun e w' => e = .returned (.bool (timesB a m h d)) ∧ w = w' := by
  obtain ⟨c0, c1, c2, c3⟩ := hB.all4
  by_cases q0 : a < 0
  · rw [show timesB a m h d = false by unfold timesB; rw [decide_eq_false_iff_not]; omega]
    exact small_0low a k w c0  q0
  have l0 : 0 ≤ a := by omega
  by_cases r0 : 255 < a
  · rw [show timesB a m h d = false by unfold timesB; rw [decide_eq_false_iff_not]; omega]
    exact small_0high a k w c0  l0 r0
  have u0 : a ≤ 255 := by omega
  by_cases q1 : m < 0
  · rw [show timesB a m h d = false by unfold timesB; rw [decide_eq_false_iff_not]; omega]
    exact small_1low a m k w c0 c1 l0 u0 q1
  have l1 : 0 ≤ m := by omega
  by_cases r1 : 255 < m
  · rw [show timesB a m h d = false by unfold timesB; rw [decide_eq_false_iff_not]; omega]
    exact small_1high a m k w c0 c1 l0 u0 l1 r1
  have u1 : m ≤ 255 := by omega
  by_cases q2 : h < 0
  · rw [show timesB a m h d = false by unfold timesB; rw [decide_eq_false_iff_not]; omega]
    exact small_2low a m h k w c0 c1 c2 l0 u0 l1 u1 q2
  have l2 : 0 ≤ h := by omega
  by_cases r2 : 255 < h
  · rw [show timesB a m h d = false by unfold timesB; rw [decide_eq_false_iff_not]; omega]
    exact small_2high a m h k w c0 c1 c2 l0 u0 l1 u1 l2 r2
  have u2 : h ≤ 255 := by omega
  by_cases q3 : d < 0
  · rw [show timesB a m h d = false by unfold timesB; rw [decide_eq_false_iff_not]; omega]
    exact small_3low a m h d k w c0 c1 c2 c3 l0 u0 l1 u1 l2 u2 q3
  have l3 : 0 ≤ d := by omega
  by_cases r3 : 255 < d
  · rw [show timesB a m h d = false by unfold timesB; rw [decide_eq_false_iff_not]; omega]
    exact small_3high a m h d k w c0 c1 c2 c3 l0 u0 l1 u1 l2 u2 l3 r3
  have u3 : d ≤ 255 := by omega
  rw [show timesB a m h d = true by unfold timesB; rw [decide_eq_true_iff]; omega]
  exact small_ok a m h d k w c0 c1 c2 c3 l0 u0 l1 u1 l2 u2 l3 u3

set_option maxHeartbeats 1000000 in
theorem rright_change (b : Bp) (w : World) (h : (b.k == 128) = true) :
    Calls Try.prog 16 #[bp b] w fun e w' => e = .returned (.bool (eqB b changeB)) ∧ Below w.heap.size w w' := by
  have HE : ∀ w, (binOp .eql 26 (.agg #[.int .i64 b.k, .bool b.ch, .bool b.pr, .int .i64 b.ro, .bool b.le, .bool b.fo, .bool b.ag, .bool b.ac, .int .u64 b.r, .int .u64 b.c, .int .u64 b.g, .int .i64 b.p, .int .i64 b.a, .int .i64 b.m, .int .i64 b.h, .int .i64 b.d]) (.agg #[.int .i64 128, .bool false, .bool false, .int .i64 0, .bool false, .bool false, .bool false, .bool false, .int .u64 0, .int .u64 0, .int .u64 0, .int .i64 0, .int .i64 0, .int .i64 0, .int .i64 0, .int .i64 0])).run Try.prog w = .ok (.bool (eqB b changeB)) w := fun w => eq_bp b changeB w
  have bel := Bx.bel_refl w
  have B0 := Lib.hid (Bx.Blk.new w (bpl b) 26)
  replace bel := Bx.bel_box bel (Obj.cells (bpl b).toArray 26)
  have c0_0 := B0.out.at 0 rfl
  go_enter Try.func16, Try.ntmps16
  go_wp2_with (first | ((with_reducible refine load_at ?_ ?_ (w.heap.size) ?_ b ?_ ?_); (· rfl); (· rfl); (· rfl); (· exact B0.out)))
  go_ret
  exact ⟨rfl, bel⟩

set_option maxHeartbeats 1000000 in
theorem rright_none (b : Bp) (C : Int) (w : World) (h : (b.k == 128) = false) (h0 : (b.k == 0) = false) (h2 : (b.k == 2) = false) :
    Calls Try.prog 16 #[.agg #[.int .i64 b.k, .bool b.ch, .bool b.pr, .int .i64 b.ro, .bool b.le, .bool b.fo, .bool b.ag, .bool b.ac, .int .u64 b.r, .int .u64 C, .int .u64 b.g, .int .i64 b.p, .int .i64 b.a, .int .i64 b.m, .int .i64 b.h, .int .i64 b.d]] w fun e w' => e = .returned (.bool false) ∧ Below w.heap.size w w' := by
  go_enter Try.func16, Try.ntmps16
  go_wp2_with fail
  have bel := Bx.bel_refl w
  have B0 := Lib.hid (Bx.Blk.new w [.int .i64 b.k, .bool b.ch, .bool b.pr, .int .i64 b.ro, .bool b.le, .bool b.fo, .bool b.ag, .bool b.ac, .int .u64 b.r, .int .u64 C, .int .u64 b.g, .int .i64 b.p, .int .i64 b.a, .int .i64 b.m, .int .i64 b.h, .int .i64 b.d] 26)
  replace bel := Bx.bel_box bel (Obj.cells #[.int .i64 b.k, .bool b.ch, .bool b.pr, .int .i64 b.ro, .bool b.le, .bool b.fo, .bool b.ag, .bool b.ac, .int .u64 b.r, .int .u64 C, .int .u64 b.g, .int .i64 b.p, .int .i64 b.a, .int .i64 b.m, .int .i64 b.h, .int .i64 b.d] 26)
  obtain ⟨c0_0, c0_1, c0_2, c0_3, c0_4, c0_5, c0_6, c0_7, c0_8, c0_9, c0_10, c0_11, c0_12, c0_13, c0_14, c0_15⟩ := B0.out.all16
  go_ret
  exact ⟨rfl, bel⟩

set_option maxHeartbeats 1000000 in
theorem rright_0pr (b : Bp) (C : Int) (w : World) (h : (b.k == 128) = false) (h0 : (b.k == 0) = true) (e1 : b.pr = true) :
    Calls Try.prog 16 #[.agg #[.int .i64 b.k, .bool b.ch, .bool b.pr, .int .i64 b.ro, .bool b.le, .bool b.fo, .bool b.ag, .bool b.ac, .int .u64 b.r, .int .u64 C, .int .u64 b.g, .int .i64 b.p, .int .i64 b.a, .int .i64 b.m, .int .i64 b.h, .int .i64 b.d]] w fun e w' => e = .returned (.bool false) ∧ Below w.heap.size w w' := by
  go_enter Try.func16, Try.ntmps16
  go_wp2_with fail
  have bel := Bx.bel_refl w
  have B0 := Lib.hid (Bx.Blk.new w [.int .i64 b.k, .bool b.ch, .bool b.pr, .int .i64 b.ro, .bool b.le, .bool b.fo, .bool b.ag, .bool b.ac, .int .u64 b.r, .int .u64 C, .int .u64 b.g, .int .i64 b.p, .int .i64 b.a, .int .i64 b.m, .int .i64 b.h, .int .i64 b.d] 26)
  replace bel := Bx.bel_box bel (Obj.cells #[.int .i64 b.k, .bool b.ch, .bool b.pr, .int .i64 b.ro, .bool b.le, .bool b.fo, .bool b.ag, .bool b.ac, .int .u64 b.r, .int .u64 C, .int .u64 b.g, .int .i64 b.p, .int .i64 b.a, .int .i64 b.m, .int .i64 b.h, .int .i64 b.d] 26)
  obtain ⟨c0_0, c0_1, c0_2, c0_3, c0_4, c0_5, c0_6, c0_7, c0_8, c0_9, c0_10, c0_11, c0_12, c0_13, c0_14, c0_15⟩ := B0.out.all16
  simp only [e1] at bel
  go_ret
  exact ⟨rfl, bel⟩

set_option maxHeartbeats 1000000 in
theorem rright_0ro (b : Bp) (C : Int) (w : World) (h : (b.k == 128) = false) (h0 : (b.k == 0) = true) (e1 : b.pr = false) (e2 : (b.ro != 0) = true) :
    Calls Try.prog 16 #[.agg #[.int .i64 b.k, .bool b.ch, .bool b.pr, .int .i64 b.ro, .bool b.le, .bool b.fo, .bool b.ag, .bool b.ac, .int .u64 b.r, .int .u64 C, .int .u64 b.g, .int .i64 b.p, .int .i64 b.a, .int .i64 b.m, .int .i64 b.h, .int .i64 b.d]] w fun e w' => e = .returned (.bool false) ∧ Below w.heap.size w w' := by
  go_enter Try.func16, Try.ntmps16
  go_wp2_with fail
  have bel := Bx.bel_refl w
  have B0 := Lib.hid (Bx.Blk.new w [.int .i64 b.k, .bool b.ch, .bool b.pr, .int .i64 b.ro, .bool b.le, .bool b.fo, .bool b.ag, .bool b.ac, .int .u64 b.r, .int .u64 C, .int .u64 b.g, .int .i64 b.p, .int .i64 b.a, .int .i64 b.m, .int .i64 b.h, .int .i64 b.d] 26)
  replace bel := Bx.bel_box bel (Obj.cells #[.int .i64 b.k, .bool b.ch, .bool b.pr, .int .i64 b.ro, .bool b.le, .bool b.fo, .bool b.ag, .bool b.ac, .int .u64 b.r, .int .u64 C, .int .u64 b.g, .int .i64 b.p, .int .i64 b.a, .int .i64 b.m, .int .i64 b.h, .int .i64 b.d] 26)
  obtain ⟨c0_0, c0_1, c0_2, c0_3, c0_4, c0_5, c0_6, c0_7, c0_8, c0_9, c0_10, c0_11, c0_12, c0_13, c0_14, c0_15⟩ := B0.out.all16
  simp only [e1] at bel
  go_ret
  exact ⟨rfl, bel⟩

set_option maxHeartbeats 1000000 in
theorem rright_0le (b : Bp) (C : Int) (w : World) (h : (b.k == 128) = false) (h0 : (b.k == 0) = true) (e1 : b.pr = false) (e2 : (b.ro != 0) = false) (e3 : b.le = true) :
    Calls Try.prog 16 #[.agg #[.int .i64 b.k, .bool b.ch, .bool b.pr, .int .i64 b.ro, .bool b.le, .bool b.fo, .bool b.ag, .bool b.ac, .int .u64 b.r, .int .u64 C, .int .u64 b.g, .int .i64 b.p, .int .i64 b.a, .int .i64 b.m, .int .i64 b.h, .int .i64 b.d]] w fun e w' => e = .returned (.bool false) ∧ Below w.heap.size w w' := by
  go_enter Try.func16, Try.ntmps16
  go_wp2_with fail
  have bel := Bx.bel_refl w
  have B0 := Lib.hid (Bx.Blk.new w [.int .i64 b.k, .bool b.ch, .bool b.pr, .int .i64 b.ro, .bool b.le, .bool b.fo, .bool b.ag, .bool b.ac, .int .u64 b.r, .int .u64 C, .int .u64 b.g, .int .i64 b.p, .int .i64 b.a, .int .i64 b.m, .int .i64 b.h, .int .i64 b.d] 26)
  replace bel := Bx.bel_box bel (Obj.cells #[.int .i64 b.k, .bool b.ch, .bool b.pr, .int .i64 b.ro, .bool b.le, .bool b.fo, .bool b.ag, .bool b.ac, .int .u64 b.r, .int .u64 C, .int .u64 b.g, .int .i64 b.p, .int .i64 b.a, .int .i64 b.m, .int .i64 b.h, .int .i64 b.d] 26)
  obtain ⟨c0_0, c0_1, c0_2, c0_3, c0_4, c0_5, c0_6, c0_7, c0_8, c0_9, c0_10, c0_11, c0_12, c0_13, c0_14, c0_15⟩ := B0.out.all16
  simp only [e1, e3] at bel
  go_ret
  exact ⟨rfl, bel⟩

set_option maxHeartbeats 1000000 in
theorem rright_0fo (b : Bp) (C : Int) (w : World) (h : (b.k == 128) = false) (h0 : (b.k == 0) = true) (e1 : b.pr = false) (e2 : (b.ro != 0) = false) (e3 : b.le = false) (e4 : b.fo = true) :
    Calls Try.prog 16 #[.agg #[.int .i64 b.k, .bool b.ch, .bool b.pr, .int .i64 b.ro, .bool b.le, .bool b.fo, .bool b.ag, .bool b.ac, .int .u64 b.r, .int .u64 C, .int .u64 b.g, .int .i64 b.p, .int .i64 b.a, .int .i64 b.m, .int .i64 b.h, .int .i64 b.d]] w fun e w' => e = .returned (.bool false) ∧ Below w.heap.size w w' := by
  go_enter Try.func16, Try.ntmps16
  go_wp2_with fail
  have bel := Bx.bel_refl w
  have B0 := Lib.hid (Bx.Blk.new w [.int .i64 b.k, .bool b.ch, .bool b.pr, .int .i64 b.ro, .bool b.le, .bool b.fo, .bool b.ag, .bool b.ac, .int .u64 b.r, .int .u64 C, .int .u64 b.g, .int .i64 b.p, .int .i64 b.a, .int .i64 b.m, .int .i64 b.h, .int .i64 b.d] 26)
  replace bel := Bx.bel_box bel (Obj.cells #[.int .i64 b.k, .bool b.ch, .bool b.pr, .int .i64 b.ro, .bool b.le, .bool b.fo, .bool b.ag, .bool b.ac, .int .u64 b.r, .int .u64 C, .int .u64 b.g, .int .i64 b.p, .int .i64 b.a, .int .i64 b.m, .int .i64 b.h, .int .i64 b.d] 26)
  obtain ⟨c0_0, c0_1, c0_2, c0_3, c0_4, c0_5, c0_6, c0_7, c0_8, c0_9, c0_10, c0_11, c0_12, c0_13, c0_14, c0_15⟩ := B0.out.all16
  simp only [e1, e3, e4] at bel
  go_ret
  exact ⟨rfl, bel⟩

set_option maxHeartbeats 1000000 in
theorem rright_0ag (b : Bp) (C : Int) (w : World) (h : (b.k == 128) = false) (h0 : (b.k == 0) = true) (e1 : b.pr = false) (e2 : (b.ro != 0) = false) (e3 : b.le = false) (e4 : b.fo = false) (e5 : b.ag = true) :
    Calls Try.prog 16 #[.agg #[.int .i64 b.k, .bool b.ch, .bool b.pr, .int .i64 b.ro, .bool b.le, .bool b.fo, .bool b.ag, .bool b.ac, .int .u64 b.r, .int .u64 C, .int .u64 b.g, .int .i64 b.p, .int .i64 b.a, .int .i64 b.m, .int .i64 b.h, .int .i64 b.d]] w fun e w' => e = .returned (.bool false) ∧ Below w.heap.size w w' := by
  go_enter Try.func16, Try.ntmps16
  go_wp2_with fail
  have bel := Bx.bel_refl w
  have B0 := Lib.hid (Bx.Blk.new w [.int .i64 b.k, .bool b.ch, .bool b.pr, .int .i64 b.ro, .bool b.le, .bool b.fo, .bool b.ag, .bool b.ac, .int .u64 b.r, .int .u64 C, .int .u64 b.g, .int .i64 b.p, .int .i64 b.a, .int .i64 b.m, .int .i64 b.h, .int .i64 b.d] 26)
  replace bel := Bx.bel_box bel (Obj.cells #[.int .i64 b.k, .bool b.ch, .bool b.pr, .int .i64 b.ro, .bool b.le, .bool b.fo, .bool b.ag, .bool b.ac, .int .u64 b.r, .int .u64 C, .int .u64 b.g, .int .i64 b.p, .int .i64 b.a, .int .i64 b.m, .int .i64 b.h, .int .i64 b.d] 26)
  obtain ⟨c0_0, c0_1, c0_2, c0_3, c0_4, c0_5, c0_6, c0_7, c0_8, c0_9, c0_10, c0_11, c0_12, c0_13, c0_14, c0_15⟩ := B0.out.all16
  simp only [e1, e3, e4, e5] at bel
  go_ret
  exact ⟨rfl, bel⟩

set_option maxHeartbeats 1000000 in
theorem rright_2ac (b : Bp) (C : Int) (w : World) (h : (b.k == 128) = false) (h0 : (b.k == 0) = false) (h2 : (b.k == 2) = true) (e1 : b.ac = true) :
    Calls Try.prog 16 #[.agg #[.int .i64 b.k, .bool b.ch, .bool b.pr, .int .i64 b.ro, .bool b.le, .bool b.fo, .bool b.ag, .bool b.ac, .int .u64 b.r, .int .u64 C, .int .u64 b.g, .int .i64 b.p, .int .i64 b.a, .int .i64 b.m, .int .i64 b.h, .int .i64 b.d]] w fun e w' => e = .returned (.bool false) ∧ Below w.heap.size w w' := by
  go_enter Try.func16, Try.ntmps16
  go_wp2_with fail
  have bel := Bx.bel_refl w
  have B0 := Lib.hid (Bx.Blk.new w [.int .i64 b.k, .bool b.ch, .bool b.pr, .int .i64 b.ro, .bool b.le, .bool b.fo, .bool b.ag, .bool b.ac, .int .u64 b.r, .int .u64 C, .int .u64 b.g, .int .i64 b.p, .int .i64 b.a, .int .i64 b.m, .int .i64 b.h, .int .i64 b.d] 26)
  replace bel := Bx.bel_box bel (Obj.cells #[.int .i64 b.k, .bool b.ch, .bool b.pr, .int .i64 b.ro, .bool b.le, .bool b.fo, .bool b.ag, .bool b.ac, .int .u64 b.r, .int .u64 C, .int .u64 b.g, .int .i64 b.p, .int .i64 b.a, .int .i64 b.m, .int .i64 b.h, .int .i64 b.d] 26)
  obtain ⟨c0_0, c0_1, c0_2, c0_3, c0_4, c0_5, c0_6, c0_7, c0_8, c0_9, c0_10, c0_11, c0_12, c0_13, c0_14, c0_15⟩ := B0.out.all16
  simp only [e1] at bel
  go_ret
  exact ⟨rfl, bel⟩

set_option maxHeartbeats 1000000 in
theorem rright_0rl (b : Bp) (C : Int) (w : World) (h : (b.k == 128) = false) (h0 : (b.k == 0) = true) (e1 : b.pr = false) (e2 : (b.ro != 0) = false) (e3 : b.le = false) (e4 : b.fo = false) (e5 : b.ag = false) (f1 : b.ro < 0) :
    Calls Try.prog 16 #[.agg #[.int .i64 b.k, .bool b.ch, .bool b.pr, .int .i64 b.ro, .bool b.le, .bool b.fo, .bool b.ag, .bool b.ac, .int .u64 b.r, .int .u64 C, .int .u64 b.g, .int .i64 b.p, .int .i64 b.a, .int .i64 b.m, .int .i64 b.h, .int .i64 b.d]] w fun e w' => e = .returned (.bool false) ∧ Below w.heap.size w w' := by
  go_enter Try.func16, Try.ntmps16
  go_wp2_with fail
  have bel := Bx.bel_refl w
  have B0 := Lib.hid (Bx.Blk.new w [.int .i64 b.k, .bool b.ch, .bool b.pr, .int .i64 b.ro, .bool b.le, .bool b.fo, .bool b.ag, .bool b.ac, .int .u64 b.r, .int .u64 C, .int .u64 b.g, .int .i64 b.p, .int .i64 b.a, .int .i64 b.m, .int .i64 b.h, .int .i64 b.d] 26)
  replace bel := Bx.bel_box bel (Obj.cells #[.int .i64 b.k, .bool b.ch, .bool b.pr, .int .i64 b.ro, .bool b.le, .bool b.fo, .bool b.ag, .bool b.ac, .int .u64 b.r, .int .u64 C, .int .u64 b.g, .int .i64 b.p, .int .i64 b.a, .int .i64 b.m, .int .i64 b.h, .int .i64 b.d] 26)
  obtain ⟨c0_0, c0_1, c0_2, c0_3, c0_4, c0_5, c0_6, c0_7, c0_8, c0_9, c0_10, c0_11, c0_12, c0_13, c0_14, c0_15⟩ := B0.out.all16
  simp only [e1, e3, e4, e5] at bel
  go_ret
  exact ⟨rfl, bel⟩

set_option maxHeartbeats 1000000 in
theorem rright_0rh (b : Bp) (C : Int) (w : World) (h : (b.k == 128) = false) (h0 : (b.k == 0) = true) (e1 : b.pr = false) (e2 : (b.ro != 0) = false) (e3 : b.le = false) (e4 : b.fo = false) (e5 : b.ag = false) (f1 : 0 ≤ b.ro) (f2 : 3 < b.ro) :
    Calls Try.prog 16 #[.agg #[.int .i64 b.k, .bool b.ch, .bool b.pr, .int .i64 b.ro, .bool b.le, .bool b.fo, .bool b.ag, .bool b.ac, .int .u64 b.r, .int .u64 C, .int .u64 b.g, .int .i64 b.p, .int .i64 b.a, .int .i64 b.m, .int .i64 b.h, .int .i64 b.d]] w fun e w' => e = .returned (.bool false) ∧ Below w.heap.size w w' := by
  go_enter Try.func16, Try.ntmps16
  go_wp2_with fail
  have bel := Bx.bel_refl w
  have B0 := Lib.hid (Bx.Blk.new w [.int .i64 b.k, .bool b.ch, .bool b.pr, .int .i64 b.ro, .bool b.le, .bool b.fo, .bool b.ag, .bool b.ac, .int .u64 b.r, .int .u64 C, .int .u64 b.g, .int .i64 b.p, .int .i64 b.a, .int .i64 b.m, .int .i64 b.h, .int .i64 b.d] 26)
  replace bel := Bx.bel_box bel (Obj.cells #[.int .i64 b.k, .bool b.ch, .bool b.pr, .int .i64 b.ro, .bool b.le, .bool b.fo, .bool b.ag, .bool b.ac, .int .u64 b.r, .int .u64 C, .int .u64 b.g, .int .i64 b.p, .int .i64 b.a, .int .i64 b.m, .int .i64 b.h, .int .i64 b.d] 26)
  obtain ⟨c0_0, c0_1, c0_2, c0_3, c0_4, c0_5, c0_6, c0_7, c0_8, c0_9, c0_10, c0_11, c0_12, c0_13, c0_14, c0_15⟩ := B0.out.all16
  simp only [e1, e3, e4, e5] at bel
  go_ret
  exact ⟨rfl, bel⟩

set_option maxHeartbeats 1000000 in
theorem rright_0c (b : Bp) (C : Int) (w : World) (h : (b.k == 128) = false) (h0 : (b.k == 0) = true) (e1 : b.pr = false) (e2 : (b.ro != 0) = false) (e3 : b.le = false) (e4 : b.fo = false) (e5 : b.ag = false) (f1 : 0 ≤ b.ro) (f2 : b.ro ≤ 3) (f3 : decide (C < 4294967296) = false) :
    Calls Try.prog 16 #[.agg #[.int .i64 b.k, .bool b.ch, .bool b.pr, .int .i64 b.ro, .bool b.le, .bool b.fo, .bool b.ag, .bool b.ac, .int .u64 b.r, .int .u64 C, .int .u64 b.g, .int .i64 b.p, .int .i64 b.a, .int .i64 b.m, .int .i64 b.h, .int .i64 b.d]] w fun e w' => e = .returned (.bool false) ∧ Below w.heap.size w w' := by
  go_enter Try.func16, Try.ntmps16
  go_wp2_with fail
  have bel := Bx.bel_refl w
  have B0 := Lib.hid (Bx.Blk.new w [.int .i64 b.k, .bool b.ch, .bool b.pr, .int .i64 b.ro, .bool b.le, .bool b.fo, .bool b.ag, .bool b.ac, .int .u64 b.r, .int .u64 C, .int .u64 b.g, .int .i64 b.p, .int .i64 b.a, .int .i64 b.m, .int .i64 b.h, .int .i64 b.d] 26)
  replace bel := Bx.bel_box bel (Obj.cells #[.int .i64 b.k, .bool b.ch, .bool b.pr, .int .i64 b.ro, .bool b.le, .bool b.fo, .bool b.ag, .bool b.ac, .int .u64 b.r, .int .u64 C, .int .u64 b.g, .int .i64 b.p, .int .i64 b.a, .int .i64 b.m, .int .i64 b.h, .int .i64 b.d] 26)
  obtain ⟨c0_0, c0_1, c0_2, c0_3, c0_4, c0_5, c0_6, c0_7, c0_8, c0_9, c0_10, c0_11, c0_12, c0_13, c0_14, c0_15⟩ := B0.out.all16
  simp only [e1, e3, e4, e5] at bel
  go_ret
  exact ⟨rfl, bel⟩

set_option maxHeartbeats 1000000 in
theorem rright_0pl (b : Bp) (C : Int) (w : World) (h : (b.k == 128) = false) (h0 : (b.k == 0) = true) (e1 : b.pr = false) (e2 : (b.ro != 0) = false) (e3 : b.le = false) (e4 : b.fo = false) (e5 : b.ag = false) (f1 : 0 ≤ b.ro) (f2 : b.ro ≤ 3) (f3 : decide (C < 4294967296) = true) (f4 : b.p < 0) :
    Calls Try.prog 16 #[.agg #[.int .i64 b.k, .bool b.ch, .bool b.pr, .int .i64 b.ro, .bool b.le, .bool b.fo, .bool b.ag, .bool b.ac, .int .u64 b.r, .int .u64 C, .int .u64 b.g, .int .i64 b.p, .int .i64 b.a, .int .i64 b.m, .int .i64 b.h, .int .i64 b.d]] w fun e w' => e = .returned (.bool false) ∧ Below w.heap.size w w' := by
  go_enter Try.func16, Try.ntmps16
  go_wp2_with fail
  have bel := Bx.bel_refl w
  have B0 := Lib.hid (Bx.Blk.new w [.int .i64 b.k, .bool b.ch, .bool b.pr, .int .i64 b.ro, .bool b.le, .bool b.fo, .bool b.ag, .bool b.ac, .int .u64 b.r, .int .u64 C, .int .u64 b.g, .int .i64 b.p, .int .i64 b.a, .int .i64 b.m, .int .i64 b.h, .int .i64 b.d] 26)
  replace bel := Bx.bel_box bel (Obj.cells #[.int .i64 b.k, .bool b.ch, .bool b.pr, .int .i64 b.ro, .bool b.le, .bool b.fo, .bool b.ag, .bool b.ac, .int .u64 b.r, .int .u64 C, .int .u64 b.g, .int .i64 b.p, .int .i64 b.a, .int .i64 b.m, .int .i64 b.h, .int .i64 b.d] 26)
  obtain ⟨c0_0, c0_1, c0_2, c0_3, c0_4, c0_5, c0_6, c0_7, c0_8, c0_9, c0_10, c0_11, c0_12, c0_13, c0_14, c0_15⟩ := B0.out.all16
  simp only [e1, e3, e4, e5] at bel
  go_ret
  exact ⟨rfl, bel⟩

set_option maxHeartbeats 1000000 in
theorem rright_0ph (b : Bp) (C : Int) (w : World) (h : (b.k == 128) = false) (h0 : (b.k == 0) = true) (e1 : b.pr = false) (e2 : (b.ro != 0) = false) (e3 : b.le = false) (e4 : b.fo = false) (e5 : b.ag = false) (f1 : 0 ≤ b.ro) (f2 : b.ro ≤ 3) (f3 : decide (C < 4294967296) = true) (f4 : 0 ≤ b.p) (f5 : 65535 < b.p) :
    Calls Try.prog 16 #[.agg #[.int .i64 b.k, .bool b.ch, .bool b.pr, .int .i64 b.ro, .bool b.le, .bool b.fo, .bool b.ag, .bool b.ac, .int .u64 b.r, .int .u64 C, .int .u64 b.g, .int .i64 b.p, .int .i64 b.a, .int .i64 b.m, .int .i64 b.h, .int .i64 b.d]] w fun e w' => e = .returned (.bool false) ∧ Below w.heap.size w w' := by
  go_enter Try.func16, Try.ntmps16
  go_wp2_with fail
  have bel := Bx.bel_refl w
  have B0 := Lib.hid (Bx.Blk.new w [.int .i64 b.k, .bool b.ch, .bool b.pr, .int .i64 b.ro, .bool b.le, .bool b.fo, .bool b.ag, .bool b.ac, .int .u64 b.r, .int .u64 C, .int .u64 b.g, .int .i64 b.p, .int .i64 b.a, .int .i64 b.m, .int .i64 b.h, .int .i64 b.d] 26)
  replace bel := Bx.bel_box bel (Obj.cells #[.int .i64 b.k, .bool b.ch, .bool b.pr, .int .i64 b.ro, .bool b.le, .bool b.fo, .bool b.ag, .bool b.ac, .int .u64 b.r, .int .u64 C, .int .u64 b.g, .int .i64 b.p, .int .i64 b.a, .int .i64 b.m, .int .i64 b.h, .int .i64 b.d] 26)
  obtain ⟨c0_0, c0_1, c0_2, c0_3, c0_4, c0_5, c0_6, c0_7, c0_8, c0_9, c0_10, c0_11, c0_12, c0_13, c0_14, c0_15⟩ := B0.out.all16
  simp only [e1, e3, e4, e5] at bel
  go_ret
  exact ⟨rfl, bel⟩

set_option maxHeartbeats 1000000 in
theorem rright_0t (b : Bp) (C : Int) (w : World) (h : (b.k == 128) = false) (h0 : (b.k == 0) = true) (e1 : b.pr = false) (e2 : (b.ro != 0) = false) (e3 : b.le = false) (e4 : b.fo = false) (e5 : b.ag = false) (f1 : 0 ≤ b.ro) (f2 : b.ro ≤ 3) (f3 : decide (C < 4294967296) = true) (f4 : 0 ≤ b.p) (f5 : b.p ≤ 65535) :
    Calls Try.prog 16 #[.agg #[.int .i64 b.k, .bool b.ch, .bool b.pr, .int .i64 b.ro, .bool b.le, .bool b.fo, .bool b.ag, .bool b.ac, .int .u64 b.r, .int .u64 C, .int .u64 b.g, .int .i64 b.p, .int .i64 b.a, .int .i64 b.m, .int .i64 b.h, .int .i64 b.d]] w fun e w' => e = .returned (.bool (timesB b.a b.m b.h b.d)) ∧ Below w.heap.size w w' := by
  go_enter Try.func16, Try.ntmps16
  go_wp2_with fail
  have bel := Bx.bel_refl w
  have B0 := Lib.hid (Bx.Blk.new w [.int .i64 b.k, .bool b.ch, .bool b.pr, .int .i64 b.ro, .bool b.le, .bool b.fo, .bool b.ag, .bool b.ac, .int .u64 b.r, .int .u64 C, .int .u64 b.g, .int .i64 b.p, .int .i64 b.a, .int .i64 b.m, .int .i64 b.h, .int .i64 b.d] 26)
  replace bel := Bx.bel_box bel (Obj.cells #[.int .i64 b.k, .bool b.ch, .bool b.pr, .int .i64 b.ro, .bool b.le, .bool b.fo, .bool b.ag, .bool b.ac, .int .u64 b.r, .int .u64 C, .int .u64 b.g, .int .i64 b.p, .int .i64 b.a, .int .i64 b.m, .int .i64 b.h, .int .i64 b.d] 26)
  replace B0 := Lib.hid (B0.out.more (Obj.cells #[.int .i64 b.a, .int .i64 b.m, .int .i64 b.h, .int .i64 b.d] 3))
  have B1 := Lib.hid (Bx.Blk.new_at (W := (w.alloc (Obj.cells #[.int .i64 b.k, .bool b.ch, .bool b.pr, .int .i64 b.ro, .bool b.le, .bool b.fo, .bool b.ag, .bool b.ac, .int .u64 b.r, .int .u64 C, .int .u64 b.g, .int .i64 b.p, .int .i64 b.a, .int .i64 b.m, .int .i64 b.h, .int .i64 b.d] 26))) (k := w.heap.size + 1) [.int .i64 b.a, .int .i64 b.m, .int .i64 b.h, .int .i64 b.d] 3 (by simp))
  replace bel := Bx.bel_box bel (Obj.cells #[.int .i64 b.a, .int .i64 b.m, .int .i64 b.h, .int .i64 b.d] 3)
  simp only [e1, e3, e4, e5] at B1
  refine (small_any b.a b.m b.h b.d _ _ B1.out).mono ?_; rintro e w' ⟨rfl, rfl⟩
  go_wp2_with fail
  simp only [e1, e3, e4, e5] at bel
  go_ret
  exact ⟨rfl, bel⟩

set_option maxHeartbeats 1000000 in
theorem rright_2rl (b : Bp) (C : Int) (w : World) (h : (b.k == 128) = false) (h0 : (b.k == 0) = false) (h2 : (b.k == 2) = true) (e1 : b.ac = false) (f1 : b.ro < 0) :
    Calls Try.prog 16 #[.agg #[.int .i64 b.k, .bool b.ch, .bool b.pr, .int .i64 b.ro, .bool b.le, .bool b.fo, .bool b.ag, .bool b.ac, .int .u64 b.r, .int .u64 C, .int .u64 b.g, .int .i64 b.p, .int .i64 b.a, .int .i64 b.m, .int .i64 b.h, .int .i64 b.d]] w fun e w' => e = .returned (.bool false) ∧ Below w.heap.size w w' := by
  go_enter Try.func16, Try.ntmps16
  go_wp2_with fail
  have bel := Bx.bel_refl w
  have B0 := Lib.hid (Bx.Blk.new w [.int .i64 b.k, .bool b.ch, .bool b.pr, .int .i64 b.ro, .bool b.le, .bool b.fo, .bool b.ag, .bool b.ac, .int .u64 b.r, .int .u64 C, .int .u64 b.g, .int .i64 b.p, .int .i64 b.a, .int .i64 b.m, .int .i64 b.h, .int .i64 b.d] 26)
  replace bel := Bx.bel_box bel (Obj.cells #[.int .i64 b.k, .bool b.ch, .bool b.pr, .int .i64 b.ro, .bool b.le, .bool b.fo, .bool b.ag, .bool b.ac, .int .u64 b.r, .int .u64 C, .int .u64 b.g, .int .i64 b.p, .int .i64 b.a, .int .i64 b.m, .int .i64 b.h, .int .i64 b.d] 26)
  obtain ⟨c0_0, c0_1, c0_2, c0_3, c0_4, c0_5, c0_6, c0_7, c0_8, c0_9, c0_10, c0_11, c0_12, c0_13, c0_14, c0_15⟩ := B0.out.all16
  simp only [e1] at bel
  go_ret
  exact ⟨rfl, bel⟩

set_option maxHeartbeats 1000000 in
theorem rright_2rh (b : Bp) (C : Int) (w : World) (h : (b.k == 128) = false) (h0 : (b.k == 0) = false) (h2 : (b.k == 2) = true) (e1 : b.ac = false) (f1 : 0 ≤ b.ro) (f2 : 3 < b.ro) :
    Calls Try.prog 16 #[.agg #[.int .i64 b.k, .bool b.ch, .bool b.pr, .int .i64 b.ro, .bool b.le, .bool b.fo, .bool b.ag, .bool b.ac, .int .u64 b.r, .int .u64 C, .int .u64 b.g, .int .i64 b.p, .int .i64 b.a, .int .i64 b.m, .int .i64 b.h, .int .i64 b.d]] w fun e w' => e = .returned (.bool false) ∧ Below w.heap.size w w' := by
  go_enter Try.func16, Try.ntmps16
  go_wp2_with fail
  have bel := Bx.bel_refl w
  have B0 := Lib.hid (Bx.Blk.new w [.int .i64 b.k, .bool b.ch, .bool b.pr, .int .i64 b.ro, .bool b.le, .bool b.fo, .bool b.ag, .bool b.ac, .int .u64 b.r, .int .u64 C, .int .u64 b.g, .int .i64 b.p, .int .i64 b.a, .int .i64 b.m, .int .i64 b.h, .int .i64 b.d] 26)
  replace bel := Bx.bel_box bel (Obj.cells #[.int .i64 b.k, .bool b.ch, .bool b.pr, .int .i64 b.ro, .bool b.le, .bool b.fo, .bool b.ag, .bool b.ac, .int .u64 b.r, .int .u64 C, .int .u64 b.g, .int .i64 b.p, .int .i64 b.a, .int .i64 b.m, .int .i64 b.h, .int .i64 b.d] 26)
  obtain ⟨c0_0, c0_1, c0_2, c0_3, c0_4, c0_5, c0_6, c0_7, c0_8, c0_9, c0_10, c0_11, c0_12, c0_13, c0_14, c0_15⟩ := B0.out.all16
  simp only [e1] at bel
  go_ret
  exact ⟨rfl, bel⟩

set_option maxHeartbeats 1000000 in
theorem rright_2c (b : Bp) (C : Int) (w : World) (h : (b.k == 128) = false) (h0 : (b.k == 0) = false) (h2 : (b.k == 2) = true) (e1 : b.ac = false) (f1 : 0 ≤ b.ro) (f2 : b.ro ≤ 3) (f3 : decide (C < 4294967296) = false) :
    Calls Try.prog 16 #[.agg #[.int .i64 b.k, .bool b.ch, .bool b.pr, .int .i64 b.ro, .bool b.le, .bool b.fo, .bool b.ag, .bool b.ac, .int .u64 b.r, .int .u64 C, .int .u64 b.g, .int .i64 b.p, .int .i64 b.a, .int .i64 b.m, .int .i64 b.h, .int .i64 b.d]] w fun e w' => e = .returned (.bool false) ∧ Below w.heap.size w w' := by
  go_enter Try.func16, Try.ntmps16
  go_wp2_with fail
  have bel := Bx.bel_refl w
  have B0 := Lib.hid (Bx.Blk.new w [.int .i64 b.k, .bool b.ch, .bool b.pr, .int .i64 b.ro, .bool b.le, .bool b.fo, .bool b.ag, .bool b.ac, .int .u64 b.r, .int .u64 C, .int .u64 b.g, .int .i64 b.p, .int .i64 b.a, .int .i64 b.m, .int .i64 b.h, .int .i64 b.d] 26)
  replace bel := Bx.bel_box bel (Obj.cells #[.int .i64 b.k, .bool b.ch, .bool b.pr, .int .i64 b.ro, .bool b.le, .bool b.fo, .bool b.ag, .bool b.ac, .int .u64 b.r, .int .u64 C, .int .u64 b.g, .int .i64 b.p, .int .i64 b.a, .int .i64 b.m, .int .i64 b.h, .int .i64 b.d] 26)
  obtain ⟨c0_0, c0_1, c0_2, c0_3, c0_4, c0_5, c0_6, c0_7, c0_8, c0_9, c0_10, c0_11, c0_12, c0_13, c0_14, c0_15⟩ := B0.out.all16
  simp only [e1] at bel
  go_ret
  exact ⟨rfl, bel⟩

set_option maxHeartbeats 1000000 in
theorem rright_2pl (b : Bp) (C : Int) (w : World) (h : (b.k == 128) = false) (h0 : (b.k == 0) = false) (h2 : (b.k == 2) = true) (e1 : b.ac = false) (f1 : 0 ≤ b.ro) (f2 : b.ro ≤ 3) (f3 : decide (C < 4294967296) = true) (f4 : b.p < 0) :
    Calls Try.prog 16 #[.agg #[.int .i64 b.k, .bool b.ch, .bool b.pr, .int .i64 b.ro, .bool b.le, .bool b.fo, .bool b.ag, .bool b.ac, .int .u64 b.r, .int .u64 C, .int .u64 b.g, .int .i64 b.p, .int .i64 b.a, .int .i64 b.m, .int .i64 b.h, .int .i64 b.d]] w fun e w' => e = .returned (.bool false) ∧ Below w.heap.size w w' := by
  go_enter Try.func16, Try.ntmps16
  go_wp2_with fail
  have bel := Bx.bel_refl w
  have B0 := Lib.hid (Bx.Blk.new w [.int .i64 b.k, .bool b.ch, .bool b.pr, .int .i64 b.ro, .bool b.le, .bool b.fo, .bool b.ag, .bool b.ac, .int .u64 b.r, .int .u64 C, .int .u64 b.g, .int .i64 b.p, .int .i64 b.a, .int .i64 b.m, .int .i64 b.h, .int .i64 b.d] 26)
  replace bel := Bx.bel_box bel (Obj.cells #[.int .i64 b.k, .bool b.ch, .bool b.pr, .int .i64 b.ro, .bool b.le, .bool b.fo, .bool b.ag, .bool b.ac, .int .u64 b.r, .int .u64 C, .int .u64 b.g, .int .i64 b.p, .int .i64 b.a, .int .i64 b.m, .int .i64 b.h, .int .i64 b.d] 26)
  obtain ⟨c0_0, c0_1, c0_2, c0_3, c0_4, c0_5, c0_6, c0_7, c0_8, c0_9, c0_10, c0_11, c0_12, c0_13, c0_14, c0_15⟩ := B0.out.all16
  simp only [e1] at bel
  go_ret
  exact ⟨rfl, bel⟩

set_option maxHeartbeats 1000000 in
theorem rright_2ph (b : Bp) (C : Int) (w : World) (h : (b.k == 128) = false) (h0 : (b.k == 0) = false) (h2 : (b.k == 2) = true) (e1 : b.ac = false) (f1 : 0 ≤ b.ro) (f2 : b.ro ≤ 3) (f3 : decide (C < 4294967296) = true) (f4 : 0 ≤ b.p) (f5 : 65535 < b.p) :
    Calls Try.prog 16 #[.agg #[.int .i64 b.k, .bool b.ch, .bool b.pr, .int .i64 b.ro, .bool b.le, .bool b.fo, .bool b.ag, .bool b.ac, .int .u64 b.r, .int .u64 C, .int .u64 b.g, .int .i64 b.p, .int .i64 b.a, .int .i64 b.m, .int .i64 b.h, .int .i64 b.d]] w fun e w' => e = .returned (.bool false) ∧ Below w.heap.size w w' := by
  go_enter Try.func16, Try.ntmps16
  go_wp2_with fail
  have bel := Bx.bel_refl w
  have B0 := Lib.hid (Bx.Blk.new w [.int .i64 b.k, .bool b.ch, .bool b.pr, .int .i64 b.ro, .bool b.le, .bool b.fo, .bool b.ag, .bool b.ac, .int .u64 b.r, .int .u64 C, .int .u64 b.g, .int .i64 b.p, .int .i64 b.a, .int .i64 b.m, .int .i64 b.h, .int .i64 b.d] 26)
  replace bel := Bx.bel_box bel (Obj.cells #[.int .i64 b.k, .bool b.ch, .bool b.pr, .int .i64 b.ro, .bool b.le, .bool b.fo, .bool b.ag, .bool b.ac, .int .u64 b.r, .int .u64 C, .int .u64 b.g, .int .i64 b.p, .int .i64 b.a, .int .i64 b.m, .int .i64 b.h, .int .i64 b.d] 26)
  obtain ⟨c0_0, c0_1, c0_2, c0_3, c0_4, c0_5, c0_6, c0_7, c0_8, c0_9, c0_10, c0_11, c0_12, c0_13, c0_14, c0_15⟩ := B0.out.all16
  simp only [e1] at bel
  go_ret
  exact ⟨rfl, bel⟩

set_option maxHeartbeats 1000000 in
theorem rright_2t (b : Bp) (C : Int) (w : World) (h : (b.k == 128) = false) (h0 : (b.k == 0) = false) (h2 : (b.k == 2) = true) (e1 : b.ac = false) (f1 : 0 ≤ b.ro) (f2 : b.ro ≤ 3) (f3 : decide (C < 4294967296) = true) (f4 : 0 ≤ b.p) (f5 : b.p ≤ 65535) :
    Calls Try.prog 16 #[.agg #[.int .i64 b.k, .bool b.ch, .bool b.pr, .int .i64 b.ro, .bool b.le, .bool b.fo, .bool b.ag, .bool b.ac, .int .u64 b.r, .int .u64 C, .int .u64 b.g, .int .i64 b.p, .int .i64 b.a, .int .i64 b.m, .int .i64 b.h, .int .i64 b.d]] w fun e w' => e = .returned (.bool (timesB b.a b.m b.h b.d)) ∧ Below w.heap.size w w' := by
  go_enter Try.func16, Try.ntmps16
  go_wp2_with fail
  have bel := Bx.bel_refl w
  have B0 := Lib.hid (Bx.Blk.new w [.int .i64 b.k, .bool b.ch, .bool b.pr, .int .i64 b.ro, .bool b.le, .bool b.fo, .bool b.ag, .bool b.ac, .int .u64 b.r, .int .u64 C, .int .u64 b.g, .int .i64 b.p, .int .i64 b.a, .int .i64 b.m, .int .i64 b.h, .int .i64 b.d] 26)
  replace bel := Bx.bel_box bel (Obj.cells #[.int .i64 b.k, .bool b.ch, .bool b.pr, .int .i64 b.ro, .bool b.le, .bool b.fo, .bool b.ag, .bool b.ac, .int .u64 b.r, .int .u64 C, .int .u64 b.g, .int .i64 b.p, .int .i64 b.a, .int .i64 b.m, .int .i64 b.h, .int .i64 b.d] 26)
  replace B0 := Lib.hid (B0.out.more (Obj.cells #[.int .i64 b.a, .int .i64 b.m, .int .i64 b.h, .int .i64 b.d] 3))
  have B1 := Lib.hid (Bx.Blk.new_at (W := (w.alloc (Obj.cells #[.int .i64 b.k, .bool b.ch, .bool b.pr, .int .i64 b.ro, .bool b.le, .bool b.fo, .bool b.ag, .bool b.ac, .int .u64 b.r, .int .u64 C, .int .u64 b.g, .int .i64 b.p, .int .i64 b.a, .int .i64 b.m, .int .i64 b.h, .int .i64 b.d] 26))) (k := w.heap.size + 1) [.int .i64 b.a, .int .i64 b.m, .int .i64 b.h, .int .i64 b.d] 3 (by simp))
  replace bel := Bx.bel_box bel (Obj.cells #[.int .i64 b.a, .int .i64 b.m, .int .i64 b.h, .int .i64 b.d] 3)
  simp only [e1] at B1
  refine (small_any b.a b.m b.h b.d _ _ B1.out).mono ?_; rintro e w' ⟨rfl, rfl⟩
  go_wp2_with fail
  simp only [e1] at bel
  go_ret
  exact ⟨rfl, bel⟩

theorem rright_any (b : Bp) (w : World) :
    Calls Try.prog 16 #[bp b] w fun e w' => e = .returned (.bool (rightB b)) ∧ Below w.heap.size w w' := by
  by_cases h : b.k = 128
  · rw [show rightB b = eqB b changeB by unfold rightB; rw [if_pos h]]
    exact rright_change b w (by simpa using h)
  have h' : (b.k == 128) = false := by simpa using h
  by_cases hk : b.k = 0
  · have h0 : (b.k == 0) = true := by simpa using hk
    rw [show rightB b = (roleB b.k b.pr b.ro b.le b.fo b.ag b.ac && vecB b.c b.p && timesB b.a b.m b.h b.d) by unfold rightB; rw [if_neg h, if_pos (Or.inl hk)]]
    have hn : ¬ b.k = 2 := by omega
    cases e1 : b.pr with
    | true =>
      rw [show roleB b.k true b.ro b.le b.fo b.ag b.ac = false by unfold roleB; rw [if_neg hn]; simp, Bool.false_and, Bool.false_and]
      exact rright_0pr b b.c w h' h0 e1
    | false =>
    by_cases e2 : b.ro = 0
    case neg =>
      rw [show roleB b.k false b.ro b.le b.fo b.ag b.ac = false by unfold roleB; rw [if_neg hn, decide_eq_false e2]; simp, Bool.false_and, Bool.false_and]
      exact rright_0ro b b.c w h' h0 e1 (by simpa using e2)
    have e2' : (b.ro != 0) = false := by simpa using e2
    cases e3 : b.le with
    | true =>
      rw [show roleB b.k false b.ro true b.fo b.ag b.ac = false by unfold roleB; rw [if_neg hn]; simp, Bool.false_and, Bool.false_and]
      exact rright_0le b b.c w h' h0 e1 e2' e3
    | false =>
    cases e4 : b.fo with
    | true =>
      rw [show roleB b.k false b.ro false true b.ag b.ac = false by unfold roleB; rw [if_neg hn]; simp, Bool.false_and, Bool.false_and]
      exact rright_0fo b b.c w h' h0 e1 e2' e3 e4
    | false =>
    cases e5 : b.ag with
    | true =>
      rw [show roleB b.k false b.ro false false true b.ac = false by unfold roleB; rw [if_neg hn]; simp, Bool.false_and, Bool.false_and]
      exact rright_0ag b b.c w h' h0 e1 e2' e3 e4 e5
    | false =>
    have V : roleB b.k false b.ro false false false b.ac = decide (0 ≤ b.ro ∧ b.ro ≤ 3) := by unfold roleB; rw [if_neg hn, decide_eq_true e2]; simp
    rw [V]
    by_cases f1 : b.ro < 0
    · rw [show decide (0 ≤ b.ro ∧ b.ro ≤ 3) = false by rw [decide_eq_false_iff_not]; omega, Bool.false_and, Bool.false_and]
      exact rright_0rl b b.c w h' h0 e1 e2' e3 e4 e5 f1
    by_cases f2 : 3 < b.ro
    · rw [show decide (0 ≤ b.ro ∧ b.ro ≤ 3) = false by rw [decide_eq_false_iff_not]; omega, Bool.false_and, Bool.false_and]
      exact rright_0rh b b.c w h' h0 e1 e2' e3 e4 e5 (by omega) f2
    rw [show decide (0 ≤ b.ro ∧ b.ro ≤ 3) = true by rw [decide_eq_true_iff]; omega, Bool.true_and]
    by_cases f3 : b.c < 4294967296
    case neg =>
      rw [show vecB b.c b.p = false by unfold vecB; rw [decide_eq_false_iff_not]; omega, Bool.false_and]
      exact rright_0c b b.c w h' h0 e1 e2' e3 e4 e5 (by omega) (by omega) (by rw [decide_eq_false_iff_not]; omega)
    by_cases f4 : b.p < 0
    · rw [show vecB b.c b.p = false by unfold vecB; rw [decide_eq_false_iff_not]; omega, Bool.false_and]
      exact rright_0pl b b.c w h' h0 e1 e2' e3 e4 e5 (by omega) (by omega) (by rw [decide_eq_true_iff]; omega) f4
    by_cases f5 : 65535 < b.p
    · rw [show vecB b.c b.p = false by unfold vecB; rw [decide_eq_false_iff_not]; omega, Bool.false_and]
      exact rright_0ph b b.c w h' h0 e1 e2' e3 e4 e5 (by omega) (by omega) (by rw [decide_eq_true_iff]; omega) (by omega) f5
    rw [show vecB b.c b.p = true by unfold vecB; rw [decide_eq_true_iff]; omega, Bool.true_and]
    exact rright_0t b b.c w h' h0 e1 e2' e3 e4 e5 (by omega) (by omega) (by rw [decide_eq_true_iff]; omega) (by omega) (by omega)
  by_cases hk : b.k = 2
  · have h0 : (b.k == 0) = false := by simp; omega
    have h2 : (b.k == 2) = true := by simpa using hk
    rw [show rightB b = (roleB b.k b.pr b.ro b.le b.fo b.ag b.ac && vecB b.c b.p && timesB b.a b.m b.h b.d) by unfold rightB; rw [if_neg h, if_pos (Or.inr hk)]]
    cases e1 : b.ac with
    | true =>
      rw [show roleB b.k b.pr b.ro b.le b.fo b.ag true = false by unfold roleB; rw [if_pos hk]; simp, Bool.false_and, Bool.false_and]
      exact rright_2ac b b.c w h' h0 h2 e1
    | false =>
    have V : roleB b.k b.pr b.ro b.le b.fo b.ag false = decide (0 ≤ b.ro ∧ b.ro ≤ 3) := by unfold roleB; rw [if_pos hk]; simp
    rw [V]
    by_cases f1 : b.ro < 0
    · rw [show decide (0 ≤ b.ro ∧ b.ro ≤ 3) = false by rw [decide_eq_false_iff_not]; omega, Bool.false_and, Bool.false_and]
      exact rright_2rl b b.c w h' h0 h2 e1 f1
    by_cases f2 : 3 < b.ro
    · rw [show decide (0 ≤ b.ro ∧ b.ro ≤ 3) = false by rw [decide_eq_false_iff_not]; omega, Bool.false_and, Bool.false_and]
      exact rright_2rh b b.c w h' h0 h2 e1 (by omega) f2
    rw [show decide (0 ≤ b.ro ∧ b.ro ≤ 3) = true by rw [decide_eq_true_iff]; omega, Bool.true_and]
    by_cases f3 : b.c < 4294967296
    case neg =>
      rw [show vecB b.c b.p = false by unfold vecB; rw [decide_eq_false_iff_not]; omega, Bool.false_and]
      exact rright_2c b b.c w h' h0 h2 e1 (by omega) (by omega) (by rw [decide_eq_false_iff_not]; omega)
    by_cases f4 : b.p < 0
    · rw [show vecB b.c b.p = false by unfold vecB; rw [decide_eq_false_iff_not]; omega, Bool.false_and]
      exact rright_2pl b b.c w h' h0 h2 e1 (by omega) (by omega) (by rw [decide_eq_true_iff]; omega) f4
    by_cases f5 : 65535 < b.p
    · rw [show vecB b.c b.p = false by unfold vecB; rw [decide_eq_false_iff_not]; omega, Bool.false_and]
      exact rright_2ph b b.c w h' h0 h2 e1 (by omega) (by omega) (by rw [decide_eq_true_iff]; omega) (by omega) f5
    rw [show vecB b.c b.p = true by unfold vecB; rw [decide_eq_true_iff]; omega, Bool.true_and]
    exact rright_2t b b.c w h' h0 h2 e1 (by omega) (by omega) (by rw [decide_eq_true_iff]; omega) (by omega) (by omega)
  rw [show rightB b = false by unfold rightB; rw [if_neg h, if_neg (by omega)]]
  exact rright_none b b.c w h' (by simp; omega) (by simp; omega)

end Bpd
end Go.Proofs.Ytiokkahldhmhlaa
