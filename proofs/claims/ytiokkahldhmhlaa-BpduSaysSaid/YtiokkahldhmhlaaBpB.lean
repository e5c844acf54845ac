/-
  What bpdu.Right says of anything; and that it changes nothing that was there.
-/
import Derived.Test.YtiokkahldhmhlaaBpW
import Derived.Deep.RegionHeld3
import Derived.ChangeKeysEq
namespace Go.Proofs.Ytiokkahldhmhlaa
open Go.RowKit
namespace Bpd
open Oct Mac Eth Epl

theorem part_bool (xs : Array Value) (j : Nat) (v : Bool) (h : xs[j]? = some (.bool v)) (w : World) : (part 4 xs j).run Try.prog w = .ok (.bool v) w := by
  have ha : (isAgg 4).run Try.prog w = .ok false w := by simp [go_sem]
  simp only [part, Sem.run_bind, ha, Result.andThen_ok, h]
  simp

theorem eq_flags (a0 a1 a2 a3 a4 a5 a6 a7 b0 b1 b2 b3 b4 b5 b6 b7 : Bool) (w : World) :
    (binOp .eql 61 (fl a0 a1 a2 a3 a4 a5 a6 a7) (fl b0 b1 b2 b3 b4 b5 b6 b7)).run Try.prog w = .ok (.bool (eqL [a0, a1, a2, a3, a4, a5, a6, a7] [b0, b1, b2, b3, b4, b5, b6, b7])) w := by
  have hn : (Try.prog.info? 4).isSome = true := by kernel_rfl
  obtain ⟨i, hi⟩ := Option.isSome_iff_exists.1 hn
  have hc : Try.prog.cellsOf 4 = 1 := by kernel_rfl
  have hb : Try.prog.underlying 4 = some .bool := by kernel_rfl
  have he : ∀ x y : Bool, (Op.equalIn 9999 4 (.bool x) (.bool y)).run Try.prog w = .ok (x == y) w := fun x y => run_equalIn_bool' w 9998 4 x y hb
  rw [run_eql_struct, run_equalIn_array w 9999 (n := 8) (e := 4) _ _ (by kernel_rfl) hi, hc]
  simp only [List.range, List.range.loop, Op.eqItems, Nat.mul_one, eqL]
  have X := fun j v h => part_bool #[.bool a0, .bool a1, .bool a2, .bool a3, .bool a4, .bool a5, .bool a6, .bool a7] j v h w
  have Y := fun j v h => part_bool #[.bool b0, .bool b1, .bool b2, .bool b3, .bool b4, .bool b5, .bool b6, .bool b7] j v h w
  simp only [Sem.run_bind, Sem.run_ite, Sem.run_pure, X 0 a0 rfl, X 1 a1 rfl, X 2 a2 rfl, X 3 a3 rfl, X 4 a4 rfl, X 5 a5 rfl, X 6 a6 rfl, X 7 a7 rfl, Y 0 b0 rfl, Y 1 b1 rfl, Y 2 b2 rfl, Y 3 b3 rfl, Y 4 b4 rfl, Y 5 b5 rfl, Y 6 b6 rfl, Y 7 b7 rfl, Result.andThen_ok, he]
  by_cases h0 : a0 = b0
  case neg => simp [h0]
  by_cases h1 : a1 = b1
  case neg => simp [h0, h1]
  by_cases h2 : a2 = b2
  case neg => simp [h0, h1, h2]
  by_cases h3 : a3 = b3
  case neg => simp [h0, h1, h2, h3]
  by_cases h4 : a4 = b4
  case neg => simp [h0, h1, h2, h3, h4]
  by_cases h5 : a5 = b5
  case neg => simp [h0, h1, h2, h3, h4, h5]
  by_cases h6 : a6 = b6
  case neg => simp [h0, h1, h2, h3, h4, h5, h6]
  by_cases h7 : a7 = b7
  case neg => simp [h0, h1, h2, h3, h4, h5, h6, h7]
  simp [h0, h1, h2, h3, h4, h5, h6, h7]

theorem eq_bp (x y : Bp) (w : World) :
    (binOp .eql 26 (bp x) (bp y)).run Try.prog w = .ok (.bool (eqB x y)) w := by
  unfold eqB
  rw [run_eql_struct]
  simp [go_sem]
  have n1 : ((x.r : Int) = y.r) ↔ x.r = y.r := by omega
  have n2 : ((x.c : Int) = y.c) ↔ x.c = y.c := by omega
  have n3 : ((x.g : Int) = y.g) ↔ x.g = y.g := by omega
  simp only [n1, n2, n3]
  by_cases e : x = y
  · subst e; simp
  · rw [decide_eq_false e]
    rw [Bp.ext_iff'] at e
    by_cases h0 : x.k = y.k
    case neg => simp [h0]
    by_cases h1 : x.ch = y.ch
    case neg => simp [h0, h1]
    by_cases h2 : x.pr = y.pr
    case neg => simp [h0, h1, h2]
    by_cases h3 : x.ro = y.ro
    case neg => simp [h0, h1, h2, h3]
    by_cases h4 : x.le = y.le
    case neg => simp [h0, h1, h2, h3, h4]
    by_cases h5 : x.fo = y.fo
    case neg => simp [h0, h1, h2, h3, h4, h5]
    by_cases h6 : x.ag = y.ag
    case neg => simp [h0, h1, h2, h3, h4, h5, h6]
    by_cases h7 : x.ac = y.ac
    case neg => simp [h0, h1, h2, h3, h4, h5, h6, h7]
    by_cases h8 : x.r = y.r
    case neg => simp [h0, h1, h2, h3, h4, h5, h6, h7, h8]
    by_cases h9 : x.c = y.c
    case neg => simp [h0, h1, h2, h3, h4, h5, h6, h7, h8, h9]
    by_cases h10 : x.g = y.g
    case neg => simp [h0, h1, h2, h3, h4, h5, h6, h7, h8, h9, h10]
    by_cases h11 : x.p = y.p
    case neg => simp [h0, h1, h2, h3, h4, h5, h6, h7, h8, h9, h10, h11]
    by_cases h12 : x.a = y.a
    case neg => simp [h0, h1, h2, h3, h4, h5, h6, h7, h8, h9, h10, h11, h12]
    by_cases h13 : x.m = y.m
    case neg => simp [h0, h1, h2, h3, h4, h5, h6, h7, h8, h9, h10, h11, h12, h13]
    by_cases h14 : x.h = y.h
    case neg => simp [h0, h1, h2, h3, h4, h5, h6, h7, h8, h9, h10, h11, h12, h13, h14]
    by_cases h15 : x.d = y.d
    case neg => simp [h0, h1, h2, h3, h4, h5, h6, h7, h8, h9, h10, h11, h12, h13, h14, h15]
    exact absurd ⟨h0, h1, h2, h3, h4, h5, h6, h7, h8, h9, h10, h11, h12, h13, h14, h15⟩ e

set_option maxHeartbeats 1000000 in
theorem role_out (b : Bp) (w : World)
    (HW : Hid (∀ w, Calls Try.prog 43 #[.int .i64 b.ro, .int .i64 0, .int .i64 3] w fun e w' => e = .returned (.bool false) ∧ w = w')) :
    Calls Try.prog 30 #[bp b] w fun e w' => e = .returned (.bool false) ∧ Below w.heap.size w w' := by
  have bel := Bx.bel_refl w
  have B0 := Lib.hid (Bx.Blk.new w (bpl b) 26)
  replace bel := Bx.bel_box bel (Obj.cells (bpl b).toArray 26)
  have c0_0 := B0.out.at 0 rfl
  have c0_3 := B0.out.at 3 rfl
  go_enter Try.func30, Try.ntmps30
  go_wp2_with (first | ((with_reducible refine load_at ?_ ?_ (w.heap.size) ?_ b ?_ ?_); (· rfl); (· rfl); (· rfl); (· exact B0.out)))
  refine (HW.out _).mono ?_; rintro e w' ⟨rfl, rfl⟩
  clear c0_0 c0_3
  have c0_0 := B0.out.at 0 rfl
  have c0_3 := B0.out.at 3 rfl
  go_wp2_with (first | ((with_reducible refine load_at ?_ ?_ (w.heap.size) ?_ b ?_ ?_); (· rfl); (· rfl); (· rfl); (· exact B0.out)))
  go_ret
  exact ⟨rfl, bel⟩

set_option maxHeartbeats 1000000 in
theorem role_in (b : Bp) (a0 a1 a2 a3 a4 a5 a6 a7 b0 b1 b2 b3 b4 b5 b6 b7 : Bool) (w : World)
    (HW : Hid (∀ w, Calls Try.prog 43 #[.int .i64 b.ro, .int .i64 0, .int .i64 3] w fun e w' => e = .returned (.bool true) ∧ w = w'))
    (HF : Hid (∀ w, Calls Try.prog 34 #[bp b] w fun e w' => e = .returned (fl a0 a1 a2 a3 a4 a5 a6 a7) ∧ Below w.heap.size w w'))
    (HA : Hid (∀ w, Calls Try.prog 38 #[.int .i64 b.k, fl a0 a1 a2 a3 a4 a5 a6 a7] w fun e w' => e = .returned (fl b0 b1 b2 b3 b4 b5 b6 b7) ∧ Below w.heap.size w w')) :
    Calls Try.prog 30 #[bp b] w fun e w' => e = .returned (.bool (eqL [a0, a1, a2, a3, a4, a5, a6, a7] [b0, b1, b2, b3, b4, b5, b6, b7])) ∧ Below w.heap.size w w' := by
  have bel := Bx.bel_refl w
  have B0 := Lib.hid (Bx.Blk.new w (bpl b) 26)
  replace bel := Bx.bel_box bel (Obj.cells (bpl b).toArray 26)
  have c0_0 := B0.out.at 0 rfl
  have c0_3 := B0.out.at 3 rfl
  go_enter Try.func30, Try.ntmps30
  go_wp2_with (first | ((with_reducible refine load_at ?_ ?_ (w.heap.size) ?_ b ?_ ?_); (· rfl); (· rfl); (· rfl); (· exact B0.out)))
  refine (HW.out _).mono ?_; rintro e w' ⟨rfl, rfl⟩
  clear c0_0 c0_3
  have c0_0 := B0.out.at 0 rfl
  have c0_3 := B0.out.at 3 rfl
  go_wp2_with (first | ((with_reducible refine load_at ?_ ?_ (w.heap.size) ?_ b ?_ ?_); (· rfl); (· rfl); (· rfl); (· exact B0.out)))
  refine (HF.out _).mono ?_; rintro e w2 ⟨rfl, hb2⟩
  replace bel := Bx.then_below bel hb2
  replace B0 := Lib.hid (B0.out.keep hb2)
  clear hb2
  replace B0 := Lib.hid (B0.out.more (Obj.cells #[.bool a0, .bool a1, .bool a2, .bool a3, .bool a4, .bool a5, .bool a6, .bool a7] 61))
  have B1 := Lib.hid (Bx.Blk.new w2 [.bool a0, .bool a1, .bool a2, .bool a3, .bool a4, .bool a5, .bool a6, .bool a7] 61)
  replace bel := Bx.bel_box bel (Obj.cells #[.bool a0, .bool a1, .bool a2, .bool a3, .bool a4, .bool a5, .bool a6, .bool a7] 61)
  clear c0_0 c0_3
  have c0_0 := B0.out.at 0 rfl
  have c0_3 := B0.out.at 3 rfl
  obtain ⟨c1_0, c1_1, c1_2, c1_3, c1_4, c1_5, c1_6, c1_7⟩ := B1.out.all8
  go_wp2_with (first | ((with_reducible refine load_at ?_ ?_ (w.heap.size) ?_ b ?_ ?_); (· rfl); (· rfl); (· rfl); (· exact B0.out)))
  have HE := eq_flags a0 a1 a2 a3 a4 a5 a6 a7 b0 b1 b2 b3 b4 b5 b6 b7
  generalize w2.heap.size = m1 at *
  generalize w2.alloc (Obj.cells #[.bool a0, .bool a1, .bool a2, .bool a3, .bool a4, .bool a5, .bool a6, .bool a7] 61) = W0 at *
  go_region_held3 (fun w' => w'.cell? ⟨w.heap.size, 0, none⟩ = some (.int .i64 b.k) ∧ w'.cell? ⟨w.heap.size, 3, none⟩ = some (.int .i64 b.ro) ∧ w'.cell? ⟨m1, 0, none⟩ = some (.bool a0) ∧ w'.cell? ⟨m1, 1, none⟩ = some (.bool a1) ∧ w'.cell? ⟨m1, 2, none⟩ = some (.bool a2) ∧ w'.cell? ⟨m1, 3, none⟩ = some (.bool a3) ∧ w'.cell? ⟨m1, 4, none⟩ = some (.bool a4) ∧ w'.cell? ⟨m1, 5, none⟩ = some (.bool a5) ∧ w'.cell? ⟨m1, 6, none⟩ = some (.bool a6) ∧ w'.cell? ⟨m1, 7, none⟩ = some (.bool a7))
    (first | go_keep | (go_split_ands; exact ⟨Bx.keep_cell (by assumption) (by assumption), Bx.keep_cell (by assumption) (by assumption), Bx.keep_cell (by assumption) (by assumption), Bx.keep_cell (by assumption) (by assumption), Bx.keep_cell (by assumption) (by assumption), Bx.keep_cell (by assumption) (by assumption), Bx.keep_cell (by assumption) (by assumption), Bx.keep_cell (by assumption) (by assumption), Bx.keep_cell (by assumption) (by assumption), Bx.keep_cell (by assumption) (by assumption)⟩))
    (first | (go_at_call 38; with_reducible refine (HA.out _).mono ?_; rintro e w3 ⟨rfl, hb3⟩))
  replace bel := Bx.bel_drew bel hb3
  clear hb3
  go_wp2_with (first | ((with_reducible refine load_at ?_ ?_ (w.heap.size) ?_ b ?_ ?_); (· rfl); (· rfl); (· rfl); (· exact B0.out)))
  go_ret
  exact ⟨rfl, bel⟩

theorem right_role (b : Bp) (w : World) :
    Calls Try.prog 30 #[bp b] w fun e w' => e = .returned (.bool (roleB b.k b.pr b.ro b.le b.fo b.ag b.ac)) ∧ Below w.heap.size w w' := by
  have HW := fun w => within_any b.ro 0 3 w
  by_cases h : 0 ≤ b.ro ∧ b.ro ≤ 3
  case neg =>
    have e : (decide (0 ≤ b.ro) && decide (b.ro ≤ 3)) = false := by rw [Bool.eq_false_iff]; simp; omega
    rw [e] at HW
    rw [show roleB b.k b.pr b.ro b.le b.fo b.ag b.ac = false by unfold roleB; rw [decide_eq_false h]; rfl]
    exact role_out b w (Lib.hid HW)
  have e : (decide (0 ≤ b.ro) && decide (b.ro ≤ 3)) = true := by simp; omega
  rw [e] at HW
  have hr : b.ro = 0 ∨ b.ro = 1 ∨ b.ro = 2 ∨ b.ro = 3 := by omega
  by_cases hk : b.k = 2
  · have h1 := role_in b _ _ _ _ _ _ _ _ _ _ _ _ _ _ _ _ w (Lib.hid HW) (Lib.hid fun w => flags_of b w) (Lib.hid fun w => by rw [hk]; exact allowed_two _ _ _ _ _ _ _ _ w)
    rw [show roleB b.k b.pr b.ro b.le b.fo b.ag b.ac = eqL [b.ch, b.pr, lowB b.ro, highB b.ro, b.le, b.fo, b.ag, b.ac] [b.ch, b.pr, lowB b.ro, highB b.ro, b.le, b.fo, b.ag, false] by
      unfold roleB eqL; rw [decide_eq_true h, hk]; cases b.ac <;> simp]
    exact h1
  · have h1 := role_in b _ _ _ _ _ _ _ _ _ _ _ _ _ _ _ _ w (Lib.hid HW) (Lib.hid fun w => flags_of b w) (Lib.hid fun w => allowed_not b.k (by simpa using hk) _ _ _ _ _ _ _ _ w)
    rw [show roleB b.k b.pr b.ro b.le b.fo b.ag b.ac = eqL [b.ch, b.pr, lowB b.ro, highB b.ro, b.le, b.fo, b.ag, b.ac] [b.ch, false, false, false, false, false, false, b.ac] by
      unfold roleB eqL; rw [decide_eq_true h, if_neg hk]
      have e0 : decide (b.ro = 0) = (!lowB b.ro && !highB b.ro) := by rcases hr with e | e | e | e <;> rw [e] <;> decide
      rw [e0, Bool.eq_iff_iff]
      simp
      constructor <;> intro hh <;> simp_all]
    exact h1

set_option maxHeartbeats 1000000 in
theorem right_change (b : Bp) (w : World) (h : (b.k == 128) = true) :
    Calls Try.prog 15 #[bp b] w fun e w' => e = .returned (.bool (eqB b changeB)) ∧ Below w.heap.size w w' := by
  have HE : ∀ w, (binOp .eql 26 (.agg #[.int .i64 b.k, .bool b.ch, .bool b.pr, .int .i64 b.ro, .bool b.le, .bool b.fo, .bool b.ag, .bool b.ac, .int .u64 b.r, .int .u64 b.c, .int .u64 b.g, .int .i64 b.p, .int .i64 b.a, .int .i64 b.m, .int .i64 b.h, .int .i64 b.d]) (.agg #[.int .i64 128, .bool false, .bool false, .int .i64 0, .bool false, .bool false, .bool false, .bool false, .int .u64 0, .int .u64 0, .int .u64 0, .int .i64 0, .int .i64 0, .int .i64 0, .int .i64 0, .int .i64 0])).run Try.prog w = .ok (.bool (eqB b changeB)) w := fun w => eq_bp b changeB w
  have bel := Bx.bel_refl w
  have B0 := Lib.hid (Bx.Blk.new w (bpl b) 26)
  replace bel := Bx.bel_box bel (Obj.cells (bpl b).toArray 26)
  have c0_0 := B0.out.at 0 rfl
  have c0_8 := B0.out.at 8 rfl
  have c0_9 := B0.out.at 9 rfl
  have c0_10 := B0.out.at 10 rfl
  have c0_11 := B0.out.at 11 rfl
  go_enter Try.func15, Try.ntmps15
  go_wp2_with (first | ((with_reducible refine load_at ?_ ?_ (w.heap.size) ?_ b ?_ ?_); (· rfl); (· rfl); (· rfl); (· exact B0.out)))
  go_ret
  exact ⟨rfl, bel⟩

set_option maxHeartbeats 1000000 in
theorem right_none (b : Bp) (w : World) (h : (b.k == 128) = false) (h0 : (b.k == 0) = false) (h2 : (b.k == 2) = false) :
    Calls Try.prog 15 #[bp b] w fun e w' => e = .returned (.bool false) ∧ Below w.heap.size w w' := by
  have bel := Bx.bel_refl w
  have B0 := Lib.hid (Bx.Blk.new w (bpl b) 26)
  replace bel := Bx.bel_box bel (Obj.cells (bpl b).toArray 26)
  have c0_0 := B0.out.at 0 rfl
  have c0_8 := B0.out.at 8 rfl
  have c0_9 := B0.out.at 9 rfl
  have c0_10 := B0.out.at 10 rfl
  have c0_11 := B0.out.at 11 rfl
  go_enter Try.func15, Try.ntmps15
  go_wp2_with (first | ((with_reducible refine load_at ?_ ?_ (w.heap.size) ?_ b ?_ ?_); (· rfl); (· rfl); (· rfl); (· exact B0.out)))
  go_ret
  exact ⟨rfl, bel⟩

set_option maxHeartbeats 1000000 in
theorem right_0a (b : Bp) (w : World) (h : (b.k == 128) = false) (h0 : (b.k == 0) = true)
    (HR : Hid (∀ w, Calls Try.prog 30 #[bp b] w fun e w' => e = .returned (.bool false) ∧ Below w.heap.size w w')) :
    Calls Try.prog 15 #[bp b] w fun e w' => e = .returned (.bool false) ∧ Below w.heap.size w w' := by
  have bel := Bx.bel_refl w
  have B0 := Lib.hid (Bx.Blk.new w (bpl b) 26)
  replace bel := Bx.bel_box bel (Obj.cells (bpl b).toArray 26)
  have c0_0 := B0.out.at 0 rfl
  have c0_8 := B0.out.at 8 rfl
  have c0_9 := B0.out.at 9 rfl
  have c0_10 := B0.out.at 10 rfl
  have c0_11 := B0.out.at 11 rfl
  go_enter Try.func15, Try.ntmps15
  go_wp2_with (first | ((with_reducible refine load_at ?_ ?_ (w.heap.size) ?_ b ?_ ?_); (· rfl); (· rfl); (· rfl); (· exact B0.out)))
  refine (HR.out _).mono ?_; rintro e w1 ⟨rfl, hb1⟩
  replace bel := Bx.then_below bel hb1
  replace B0 := Lib.hid (B0.out.keep hb1)
  clear hb1
  clear c0_0 c0_8 c0_9 c0_10 c0_11
  have c0_0 := B0.out.at 0 rfl
  have c0_8 := B0.out.at 8 rfl
  have c0_9 := B0.out.at 9 rfl
  have c0_10 := B0.out.at 10 rfl
  have c0_11 := B0.out.at 11 rfl
  go_wp2_with (first | ((with_reducible refine load_at ?_ ?_ (w.heap.size) ?_ b ?_ ?_); (· rfl); (· rfl); (· rfl); (· exact B0.out)))
  go_ret
  exact ⟨rfl, bel⟩

set_option maxHeartbeats 1000000 in
theorem right_0b (b : Bp) (w : World) (h : (b.k == 128) = false) (h0 : (b.k == 0) = true)
    (HR : Hid (∀ w, Calls Try.prog 30 #[bp b] w fun e w' => e = .returned (.bool true) ∧ Below w.heap.size w w'))
    (HV : Hid (∀ w, Calls Try.prog 31 #[.agg #[.int .u64 b.r, .int .u64 b.c, .int .u64 b.g, .int .i64 b.p]] w fun e w' => e = .returned (.bool false) ∧ Below w.heap.size w w')) :
    Calls Try.prog 15 #[bp b] w fun e w' => e = .returned (.bool false) ∧ Below w.heap.size w w' := by
  have bel := Bx.bel_refl w
  have B0 := Lib.hid (Bx.Blk.new w (bpl b) 26)
  replace bel := Bx.bel_box bel (Obj.cells (bpl b).toArray 26)
  have c0_0 := B0.out.at 0 rfl
  have c0_8 := B0.out.at 8 rfl
  have c0_9 := B0.out.at 9 rfl
  have c0_10 := B0.out.at 10 rfl
  have c0_11 := B0.out.at 11 rfl
  go_enter Try.func15, Try.ntmps15
  go_wp2_with (first | ((with_reducible refine load_at ?_ ?_ (w.heap.size) ?_ b ?_ ?_); (· rfl); (· rfl); (· rfl); (· exact B0.out)))
  refine (HR.out _).mono ?_; rintro e w1 ⟨rfl, hb1⟩
  replace bel := Bx.then_below bel hb1
  replace B0 := Lib.hid (B0.out.keep hb1)
  clear hb1
  clear c0_0 c0_8 c0_9 c0_10 c0_11
  have c0_0 := B0.out.at 0 rfl
  have c0_8 := B0.out.at 8 rfl
  have c0_9 := B0.out.at 9 rfl
  have c0_10 := B0.out.at 10 rfl
  have c0_11 := B0.out.at 11 rfl
  go_wp2_with (first | ((with_reducible refine load_at ?_ ?_ (w.heap.size) ?_ b ?_ ?_); (· rfl); (· rfl); (· rfl); (· exact B0.out)))
  refine (HV.out _).mono ?_; rintro e w2 ⟨rfl, hb2⟩
  replace bel := Bx.then_below bel hb2
  replace B0 := Lib.hid (B0.out.keep hb2)
  clear hb2
  clear c0_0 c0_8 c0_9 c0_10 c0_11
  have c0_0 := B0.out.at 0 rfl
  have c0_8 := B0.out.at 8 rfl
  have c0_9 := B0.out.at 9 rfl
  have c0_10 := B0.out.at 10 rfl
  have c0_11 := B0.out.at 11 rfl
  go_wp2_with (first | ((with_reducible refine load_at ?_ ?_ (w.heap.size) ?_ b ?_ ?_); (· rfl); (· rfl); (· rfl); (· exact B0.out)))
  go_ret
  exact ⟨rfl, bel⟩

set_option maxHeartbeats 1000000 in
theorem right_0c (b : Bp) (t : Bool) (w : World) (h : (b.k == 128) = false) (h0 : (b.k == 0) = true)
    (HR : Hid (∀ w, Calls Try.prog 30 #[bp b] w fun e w' => e = .returned (.bool true) ∧ Below w.heap.size w w'))
    (HV : Hid (∀ w, Calls Try.prog 31 #[.agg #[.int .u64 b.r, .int .u64 b.c, .int .u64 b.g, .int .i64 b.p]] w fun e w' => e = .returned (.bool true) ∧ Below w.heap.size w w'))
    (HT : Hid (∀ w, Calls Try.prog 32 #[bp b] w fun e w' => e = .returned (.bool t) ∧ Below w.heap.size w w')) :
    Calls Try.prog 15 #[bp b] w fun e w' => e = .returned (.bool t) ∧ Below w.heap.size w w' := by
  have bel := Bx.bel_refl w
  have B0 := Lib.hid (Bx.Blk.new w (bpl b) 26)
  replace bel := Bx.bel_box bel (Obj.cells (bpl b).toArray 26)
  have c0_0 := B0.out.at 0 rfl
  have c0_8 := B0.out.at 8 rfl
  have c0_9 := B0.out.at 9 rfl
  have c0_10 := B0.out.at 10 rfl
  have c0_11 := B0.out.at 11 rfl
  go_enter Try.func15, Try.ntmps15
  go_wp2_with (first | ((with_reducible refine load_at ?_ ?_ (w.heap.size) ?_ b ?_ ?_); (· rfl); (· rfl); (· rfl); (· exact B0.out)))
  refine (HR.out _).mono ?_; rintro e w1 ⟨rfl, hb1⟩
  replace bel := Bx.then_below bel hb1
  replace B0 := Lib.hid (B0.out.keep hb1)
  clear hb1
  clear c0_0 c0_8 c0_9 c0_10 c0_11
  have c0_0 := B0.out.at 0 rfl
  have c0_8 := B0.out.at 8 rfl
  have c0_9 := B0.out.at 9 rfl
  have c0_10 := B0.out.at 10 rfl
  have c0_11 := B0.out.at 11 rfl
  go_wp2_with (first | ((with_reducible refine load_at ?_ ?_ (w.heap.size) ?_ b ?_ ?_); (· rfl); (· rfl); (· rfl); (· exact B0.out)))
  refine (HV.out _).mono ?_; rintro e w2 ⟨rfl, hb2⟩
  replace bel := Bx.then_below bel hb2
  replace B0 := Lib.hid (B0.out.keep hb2)
  clear hb2
  clear c0_0 c0_8 c0_9 c0_10 c0_11
  have c0_0 := B0.out.at 0 rfl
  have c0_8 := B0.out.at 8 rfl
  have c0_9 := B0.out.at 9 rfl
  have c0_10 := B0.out.at 10 rfl
  have c0_11 := B0.out.at 11 rfl
  go_wp2_with (first | ((with_reducible refine load_at ?_ ?_ (w.heap.size) ?_ b ?_ ?_); (· rfl); (· rfl); (· rfl); (· exact B0.out)))
  refine (HT.out _).mono ?_; rintro e w3 ⟨rfl, hb3⟩
  replace bel := Bx.then_below bel hb3
  replace B0 := Lib.hid (B0.out.keep hb3)
  clear hb3
  clear c0_0 c0_8 c0_9 c0_10 c0_11
  have c0_0 := B0.out.at 0 rfl
  have c0_8 := B0.out.at 8 rfl
  have c0_9 := B0.out.at 9 rfl
  have c0_10 := B0.out.at 10 rfl
  have c0_11 := B0.out.at 11 rfl
  go_wp2_with (first | ((with_reducible refine load_at ?_ ?_ (w.heap.size) ?_ b ?_ ?_); (· rfl); (· rfl); (· rfl); (· exact B0.out)))
  go_ret
  exact ⟨rfl, bel⟩

set_option maxHeartbeats 1000000 in
theorem right_2a (b : Bp) (w : World) (h : (b.k == 128) = false) (h0 : (b.k == 0) = false) (h2 : (b.k == 2) = true)
    (HR : Hid (∀ w, Calls Try.prog 30 #[bp b] w fun e w' => e = .returned (.bool false) ∧ Below w.heap.size w w')) :
    Calls Try.prog 15 #[bp b] w fun e w' => e = .returned (.bool false) ∧ Below w.heap.size w w' := by
  have bel := Bx.bel_refl w
  have B0 := Lib.hid (Bx.Blk.new w (bpl b) 26)
  replace bel := Bx.bel_box bel (Obj.cells (bpl b).toArray 26)
  have c0_0 := B0.out.at 0 rfl
  have c0_8 := B0.out.at 8 rfl
  have c0_9 := B0.out.at 9 rfl
  have c0_10 := B0.out.at 10 rfl
  have c0_11 := B0.out.at 11 rfl
  go_enter Try.func15, Try.ntmps15
  go_wp2_with (first | ((with_reducible refine load_at ?_ ?_ (w.heap.size) ?_ b ?_ ?_); (· rfl); (· rfl); (· rfl); (· exact B0.out)))
  refine (HR.out _).mono ?_; rintro e w1 ⟨rfl, hb1⟩
  replace bel := Bx.then_below bel hb1
  replace B0 := Lib.hid (B0.out.keep hb1)
  clear hb1
  clear c0_0 c0_8 c0_9 c0_10 c0_11
  have c0_0 := B0.out.at 0 rfl
  have c0_8 := B0.out.at 8 rfl
  have c0_9 := B0.out.at 9 rfl
  have c0_10 := B0.out.at 10 rfl
  have c0_11 := B0.out.at 11 rfl
  go_wp2_with (first | ((with_reducible refine load_at ?_ ?_ (w.heap.size) ?_ b ?_ ?_); (· rfl); (· rfl); (· rfl); (· exact B0.out)))
  go_ret
  exact ⟨rfl, bel⟩

set_option maxHeartbeats 1000000 in
theorem right_2b (b : Bp) (w : World) (h : (b.k == 128) = false) (h0 : (b.k == 0) = false) (h2 : (b.k == 2) = true)
    (HR : Hid (∀ w, Calls Try.prog 30 #[bp b] w fun e w' => e = .returned (.bool true) ∧ Below w.heap.size w w'))
    (HV : Hid (∀ w, Calls Try.prog 31 #[.agg #[.int .u64 b.r, .int .u64 b.c, .int .u64 b.g, .int .i64 b.p]] w fun e w' => e = .returned (.bool false) ∧ Below w.heap.size w w')) :
    Calls Try.prog 15 #[bp b] w fun e w' => e = .returned (.bool false) ∧ Below w.heap.size w w' := by
  have bel := Bx.bel_refl w
  have B0 := Lib.hid (Bx.Blk.new w (bpl b) 26)
  replace bel := Bx.bel_box bel (Obj.cells (bpl b).toArray 26)
  have c0_0 := B0.out.at 0 rfl
  have c0_8 := B0.out.at 8 rfl
  have c0_9 := B0.out.at 9 rfl
  have c0_10 := B0.out.at 10 rfl
  have c0_11 := B0.out.at 11 rfl
  go_enter Try.func15, Try.ntmps15
  go_wp2_with (first | ((with_reducible refine load_at ?_ ?_ (w.heap.size) ?_ b ?_ ?_); (· rfl); (· rfl); (· rfl); (· exact B0.out)))
  refine (HR.out _).mono ?_; rintro e w1 ⟨rfl, hb1⟩
  replace bel := Bx.then_below bel hb1
  replace B0 := Lib.hid (B0.out.keep hb1)
  clear hb1
  clear c0_0 c0_8 c0_9 c0_10 c0_11
  have c0_0 := B0.out.at 0 rfl
  have c0_8 := B0.out.at 8 rfl
  have c0_9 := B0.out.at 9 rfl
  have c0_10 := B0.out.at 10 rfl
  have c0_11 := B0.out.at 11 rfl
  go_wp2_with (first | ((with_reducible refine load_at ?_ ?_ (w.heap.size) ?_ b ?_ ?_); (· rfl); (· rfl); (· rfl); (· exact B0.out)))
  refine (HV.out _).mono ?_; rintro e w2 ⟨rfl, hb2⟩
  replace bel := Bx.then_below bel hb2
  replace B0 := Lib.hid (B0.out.keep hb2)
  clear hb2
  clear c0_0 c0_8 c0_9 c0_10 c0_11
  have c0_0 := B0.out.at 0 rfl
  have c0_8 := B0.out.at 8 rfl
  have c0_9 := B0.out.at 9 rfl
  have c0_10 := B0.out.at 10 rfl
  have c0_11 := B0.out.at 11 rfl
  go_wp2_with (first | ((with_reducible refine load_at ?_ ?_ (w.heap.size) ?_ b ?_ ?_); (· rfl); (· rfl); (· rfl); (· exact B0.out)))
  go_ret
  exact ⟨rfl, bel⟩

set_option maxHeartbeats 1000000 in
theorem right_2c (b : Bp) (t : Bool) (w : World) (h : (b.k == 128) = false) (h0 : (b.k == 0) = false) (h2 : (b.k == 2) = true)
    (HR : Hid (∀ w, Calls Try.prog 30 #[bp b] w fun e w' => e = .returned (.bool true) ∧ Below w.heap.size w w'))
    (HV : Hid (∀ w, Calls Try.prog 31 #[.agg #[.int .u64 b.r, .int .u64 b.c, .int .u64 b.g, .int .i64 b.p]] w fun e w' => e = .returned (.bool true) ∧ Below w.heap.size w w'))
    (HT : Hid (∀ w, Calls Try.prog 32 #[bp b] w fun e w' => e = .returned (.bool t) ∧ Below w.heap.size w w')) :
    Calls Try.prog 15 #[bp b] w fun e w' => e = .returned (.bool t) ∧ Below w.heap.size w w' := by
  have bel := Bx.bel_refl w
  have B0 := Lib.hid (Bx.Blk.new w (bpl b) 26)
  replace bel := Bx.bel_box bel (Obj.cells (bpl b).toArray 26)
  have c0_0 := B0.out.at 0 rfl
  have c0_8 := B0.out.at 8 rfl
  have c0_9 := B0.out.at 9 rfl
  have c0_10 := B0.out.at 10 rfl
  have c0_11 := B0.out.at 11 rfl
  go_enter Try.func15, Try.ntmps15
  go_wp2_with (first | ((with_reducible refine load_at ?_ ?_ (w.heap.size) ?_ b ?_ ?_); (· rfl); (· rfl); (· rfl); (· exact B0.out)))
  refine (HR.out _).mono ?_; rintro e w1 ⟨rfl, hb1⟩
  replace bel := Bx.then_below bel hb1
  replace B0 := Lib.hid (B0.out.keep hb1)
  clear hb1
  clear c0_0 c0_8 c0_9 c0_10 c0_11
  have c0_0 := B0.out.at 0 rfl
  have c0_8 := B0.out.at 8 rfl
  have c0_9 := B0.out.at 9 rfl
  have c0_10 := B0.out.at 10 rfl
  have c0_11 := B0.out.at 11 rfl
  go_wp2_with (first | ((with_reducible refine load_at ?_ ?_ (w.heap.size) ?_ b ?_ ?_); (· rfl); (· rfl); (· rfl); (· exact B0.out)))
  refine (HV.out _).mono ?_; rintro e w2 ⟨rfl, hb2⟩
  replace bel := Bx.then_below bel hb2
  replace B0 := Lib.hid (B0.out.keep hb2)
  clear hb2
  clear c0_0 c0_8 c0_9 c0_10 c0_11
  have c0_0 := B0.out.at 0 rfl
  have c0_8 := B0.out.at 8 rfl
  have c0_9 := B0.out.at 9 rfl
  have c0_10 := B0.out.at 10 rfl
  have c0_11 := B0.out.at 11 rfl
  go_wp2_with (first | ((with_reducible refine load_at ?_ ?_ (w.heap.size) ?_ b ?_ ?_); (· rfl); (· rfl); (· rfl); (· exact B0.out)))
  refine (HT.out _).mono ?_; rintro e w3 ⟨rfl, hb3⟩
  replace bel := Bx.then_below bel hb3
  replace B0 := Lib.hid (B0.out.keep hb3)
  clear hb3
  clear c0_0 c0_8 c0_9 c0_10 c0_11
  have c0_0 := B0.out.at 0 rfl
  have c0_8 := B0.out.at 8 rfl
  have c0_9 := B0.out.at 9 rfl
  have c0_10 := B0.out.at 10 rfl
  have c0_11 := B0.out.at 11 rfl
  go_wp2_with (first | ((with_reducible refine load_at ?_ ?_ (w.heap.size) ?_ b ?_ ?_); (· rfl); (· rfl); (· rfl); (· exact B0.out)))
  go_ret
  exact ⟨rfl, bel⟩

theorem right_any (b : Bp) (w : World) :
    Calls Try.prog 15 #[bp b] w fun e w' => e = .returned (.bool (rightB b)) ∧ Below w.heap.size w w' := by
  by_cases h : b.k = 128
  · rw [show rightB b = eqB b changeB by unfold rightB; rw [if_pos h]]
    exact right_change b w (by simpa using h)
  have h' : (b.k == 128) = false := by simpa using h
  have HR := fun w => right_role b w
  have HV := fun w => right_vector b.r b.c b.g b.p w
  have HT := fun w => right_times b w
  by_cases hk : b.k = 0 ∨ b.k = 2
  case neg =>
    rw [show rightB b = false by unfold rightB; rw [if_neg h, if_neg hk]]
    exact right_none b w h' (by simp; omega) (by simp; omega)
  rw [show rightB b = (roleB b.k b.pr b.ro b.le b.fo b.ag b.ac && vecB b.c b.p && timesB b.a b.m b.h b.d) by unfold rightB; rw [if_neg h, if_pos hk]]
  generalize roleB b.k b.pr b.ro b.le b.fo b.ag b.ac = x at *
  generalize vecB b.c b.p = y at *
  generalize timesB b.a b.m b.h b.d = z at *
  cases x <;> cases y <;> rcases hk with hk | hk <;> simp only [Bool.false_and, Bool.true_and]
  · exact right_0a b w h' (by simpa using hk) (Lib.hid HR)
  · exact right_2a b w h' (by simp; omega) (by simpa using hk) (Lib.hid HR)
  · exact right_0a b w h' (by simpa using hk) (Lib.hid HR)
  · exact right_2a b w h' (by simp; omega) (by simpa using hk) (Lib.hid HR)
  · exact right_0b b w h' (by simpa using hk) (Lib.hid HR) (Lib.hid HV)
  · exact right_2b b w h' (by simp; omega) (by simpa using hk) (Lib.hid HR) (Lib.hid HV)
  · exact right_0c b z w h' (by simpa using hk) (Lib.hid HR) (Lib.hid HV) (Lib.hid HT)
  · exact right_2c b z w h' (by simp; omega) (by simpa using hk) (Lib.hid HR) (Lib.hid HV) (Lib.hid HT)

end Bpd
end Go.Proofs.Ytiokkahldhmhlaa
