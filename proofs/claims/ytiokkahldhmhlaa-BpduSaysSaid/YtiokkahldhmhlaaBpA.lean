/-
  What bpdu.Right, and the document's answer beside it, say of anything; and that they change nothing that was there.
-/
import Derived.Test.YtiokkahldhmhlaaOct
import Derived.Test.YtiokkahldhmhlaaBox
import Derived.Test.YtiokkahldhmhlaaBpNum
import Derived.IntWalk
import Derived.Laws.BitsAllLaws
namespace Go.Proofs.Ytiokkahldhmhlaa
open Go.RowKit
namespace Bpd
open Oct Mac Eth Epl

/-- What is told, as a value. -/
abbrev bp (b : Bp) : Value := .agg #[.int .i64 b.k, .bool b.ch, .bool b.pr, .int .i64 b.ro, .bool b.le, .bool b.fo, .bool b.ag, .bool b.ac, .int .u64 b.r, .int .u64 b.c, .int .u64 b.g, .int .i64 b.p, .int .i64 b.a, .int .i64 b.m, .int .i64 b.h, .int .i64 b.d]
abbrev fl (a b c d e f g h : Bool) : Value := .agg #[.bool a, .bool b, .bool c, .bool d, .bool e, .bool f, .bool g, .bool h]

theorem within_any (n a b : Int) (w : World) :
    Calls Try.prog 43 #[.int .i64 n, .int .i64 a, .int .i64 b] w fun e w' => e = .returned (.bool (decide (a ≤ n) && decide (n ≤ b))) ∧ w = w' := by
  cases h : decide (a ≤ n)
  all_goals
  · go_enter Try.func43, Try.ntmps43
    go_wp2
    go_ret
    exact ⟨rfl, rfl⟩

theorem and1 (i : Int) : bits BinOp.and IntKind.i64 i 1 = i % 2 := by
  simp only [bits, BitVec.toNat_and]
  rw [show (BitVec.ofInt IntKind.i64.bits 1).toNat = 1 by decide +kernel, show (1 : Nat) = 2 ^ 1 - 1 by rfl, Nat.and_two_pow_sub_one_eq_mod, BitVec.toNat_ofInt, show IntKind.i64.bits = 64 by rfl]
  have h : ((((i % (2 ^ 64 : Nat)).toNat % 2 ^ 1 : Nat)) : Int) = i % 2 := by omega
  rw [h]
  exact IntWalk.i64_in _ (by omega)

theorem and3 (i : Int) : bits BinOp.and IntKind.i64 i 3 = i % 4 := by
  simp only [bits, BitVec.toNat_and]
  rw [show (BitVec.ofInt IntKind.i64.bits 3).toNat = 3 by decide +kernel, show (3 : Nat) = 2 ^ 2 - 1 by rfl, Nat.and_two_pow_sub_one_eq_mod, BitVec.toNat_ofInt, show IntKind.i64.bits = 64 by rfl]
  have h : ((((i % (2 ^ 64 : Nat)).toNat % 2 ^ 2 : Nat)) : Int) = i % 4 := by omega
  rw [h]
  exact IntWalk.i64_in _ (by omega)

theorem and_two (m : Nat) : m &&& 2 = m % 4 / 2 * 2 := by
  apply Nat.eq_of_testBit_eq
  intro j
  have e2 : (2 : Nat) = 2 ^ 1 := rfl
  rw [Nat.testBit_and]
  match j with
  | 0 => simp
  | 1 =>
    have h1 : (2 : Nat).testBit 1 = true := by decide
    rw [h1, Bool.and_true, Nat.testBit_eq_decide_div_mod_eq, Nat.testBit_eq_decide_div_mod_eq]
    simp only [decide_eq_decide]
    omega
  | j + 2 =>
    have h1 : (2 : Nat).testBit (j + 2) = false := by
      apply Nat.testBit_lt_two_pow
      have : 2 ^ 2 ≤ 2 ^ (j + 2) := Nat.pow_le_pow_right (by omega) (by omega)
      omega
    rw [h1, Bool.and_false]
    symm
    apply Nat.testBit_lt_two_pow
    have : 2 ^ 2 ≤ 2 ^ (j + 2) := Nat.pow_le_pow_right (by omega) (by omega)
    omega

theorem and2 (i : Int) : bits BinOp.and IntKind.i64 i 2 = i % 4 / 2 * 2 := by
  simp only [bits, BitVec.toNat_and]
  rw [show (BitVec.ofInt IntKind.i64.bits 2).toNat = 2 by decide +kernel, and_two, BitVec.toNat_ofInt, show IntKind.i64.bits = 64 by rfl]
  have h : ((((i % (2 ^ 64 : Nat)).toNat % 4 / 2 * 2 : Nat)) : Int) = i % 4 / 2 * 2 := by omega
  rw [h]
  exact IntWalk.i64_in _ (by omega)

theorem low_bit (i : Int) : (bits BinOp.and IntKind.i64 i 1 != 0) = lowB i := by
  rw [and1]; unfold lowB
  rw [Bool.eq_iff_iff]; simp
  omega

theorem high_bit (i : Int) : (bits BinOp.and IntKind.i64 i 2 != 0) = highB i := by
  rw [and2]; unfold highB
  rw [Bool.eq_iff_iff]; simp
  omega

theorem flags_of (b : Bp) (w : World) :
    Calls Try.prog 34 #[bp b] w fun e w' => e = .returned (fl b.ch b.pr (lowB b.ro) (highB b.ro) b.le b.fo b.ag b.ac) ∧ Below w.heap.size w w' := by
  have h1 := low_bit b.ro
  have h2 := high_bit b.ro
  go_enter Try.func34, Try.ntmps34
  go_wp2
  refine bodyPost_ret (v := fl b.ch b.pr (lowB b.ro) (highB b.ro) b.le b.fo b.ag b.ac) ?_ rfl ⟨rfl, ?_⟩
  · simp [results, Try.results34, go_sem]
  · exact Bx.bel_box (Bx.box_below _ _) _

theorem allowed_two (a b c d e f g h : Bool) (w : World) :
    Calls Try.prog 38 #[.int .i64 2, fl a b c d e f g h] w fun e' w' => e' = .returned (fl a b c d e f g false) ∧ Below w.heap.size w w' := by
  go_enter Try.func38, Try.ntmps38
  go_wp2
  refine bodyPost_ret (v := fl a b c d e f g false) ?_ rfl ⟨rfl, ?_⟩
  · simp [results, Try.results38, go_sem]
  · exact Bx.bel_box (Bx.box_below _ _) _

theorem allowed_not (k : Int) (hk : (k == 2) = false) (a b c d e f g h : Bool) (w : World) :
    Calls Try.prog 38 #[.int .i64 k, fl a b c d e f g h] w fun e' w' => e' = .returned (fl a false false false false false false h) ∧ Below w.heap.size w w' := by
  go_enter Try.func38, Try.ntmps38
  go_wp2
  refine bodyPost_ret (v := fl a false false false false false false h) ?_ rfl ⟨rfl, ?_⟩
  · simp [results, Try.results38, go_sem]
  · exact Bx.bel_box (Bx.box_below _ _) _

theorem vector_yes (r C g p : Int) (w : World) (h : decide (C < 4294967296) = true) :
    Calls Try.prog 31 #[.agg #[.int .u64 r, .int .u64 C, .int .u64 g, .int .i64 p]] w fun e w' => e = .returned (.bool (decide (0 ≤ p) && decide (p ≤ 65535))) ∧ Below w.heap.size w w' := by
  have HW := Lib.hid (fun w => within_any p 0 65535 w)
  go_enter Try.func31, Try.ntmps31
  go_wp2_with fail
  refine (HW.out _).mono ?_; rintro e w' ⟨rfl, rfl⟩
  go_wp2_with fail
  go_ret
  exact ⟨rfl, Bx.box_below _ _⟩

theorem vector_no (r C g p : Int) (w : World) (h : decide (C < 4294967296) = false) :
    Calls Try.prog 31 #[.agg #[.int .u64 r, .int .u64 C, .int .u64 g, .int .i64 p]] w fun e w' => e = .returned (.bool false) ∧ Below w.heap.size w w' := by
  go_enter Try.func31, Try.ntmps31
  go_wp2_with fail
  go_ret
  exact ⟨rfl, Bx.box_below _ _⟩

theorem right_vector (r c g : Nat) (p : Int) (w : World) :
    Calls Try.prog 31 #[.agg #[.int .u64 r, .int .u64 c, .int .u64 g, .int .i64 p]] w fun e w' => e = .returned (.bool (vecB c p)) ∧ Below w.heap.size w w' := by
  by_cases h : c < 4294967296
  · rw [show vecB c p = (decide (0 ≤ p) && decide (p ≤ 65535)) by unfold vecB; rw [Bool.eq_iff_iff]; simp; omega]
    exact vector_yes r c g p w (by rw [decide_eq_true_iff]; omega)
  · rw [show vecB c p = false by unfold vecB; simp; omega]
    exact vector_no r c g p w (by rw [decide_eq_false_iff_not]; omega)

theorem times_walk (b : Bp) (x y z u : Bool) (w : World)
    (HA : Hid (∀ w, Calls Try.prog 43 #[.int .i64 b.a, .int .i64 0, .int .i64 255] w fun e w' => e = .returned (.bool x) ∧ w = w'))
    (HM : Hid (∀ w, Calls Try.prog 43 #[.int .i64 b.m, .int .i64 0, .int .i64 255] w fun e w' => e = .returned (.bool y) ∧ w = w'))
    (HH : Hid (∀ w, Calls Try.prog 43 #[.int .i64 b.h, .int .i64 0, .int .i64 255] w fun e w' => e = .returned (.bool z) ∧ w = w'))
    (HD : Hid (∀ w, Calls Try.prog 43 #[.int .i64 b.d, .int .i64 0, .int .i64 255] w fun e w' => e = .returned (.bool u) ∧ w = w')) :
    Calls Try.prog 32 #[bp b] w fun e w' => e = .returned (.bool (x && y && z && u)) ∧ Below w.heap.size w w' := by
  cases x
  · go_enter Try.func32, Try.ntmps32
    go_wp2_with fail
    refine (HA.out _).mono ?_; rintro e w' ⟨rfl, rfl⟩
    go_wp2_with fail
    go_ret
    exact ⟨rfl, Bx.box_below _ _⟩
  cases y
  · go_enter Try.func32, Try.ntmps32
    go_wp2_with fail
    refine (HA.out _).mono ?_; rintro e w' ⟨rfl, rfl⟩
    go_wp2_with fail
    refine (HM.out _).mono ?_; rintro e w' ⟨rfl, rfl⟩
    go_wp2_with fail
    go_ret
    exact ⟨rfl, Bx.box_below _ _⟩
  cases z
  · go_enter Try.func32, Try.ntmps32
    go_wp2_with fail
    refine (HA.out _).mono ?_; rintro e w' ⟨rfl, rfl⟩
    go_wp2_with fail
    refine (HM.out _).mono ?_; rintro e w' ⟨rfl, rfl⟩
    go_wp2_with fail
    refine (HH.out _).mono ?_; rintro e w' ⟨rfl, rfl⟩
    go_wp2_with fail
    go_ret
    exact ⟨rfl, Bx.box_below _ _⟩
  · go_enter Try.func32, Try.ntmps32
    go_wp2_with fail
    refine (HA.out _).mono ?_; rintro e w' ⟨rfl, rfl⟩
    go_wp2_with fail
    refine (HM.out _).mono ?_; rintro e w' ⟨rfl, rfl⟩
    go_wp2_with fail
    refine (HH.out _).mono ?_; rintro e w' ⟨rfl, rfl⟩
    go_wp2_with fail
    refine (HD.out _).mono ?_; rintro e w' ⟨rfl, rfl⟩
    go_wp2_with fail
    go_ret
    exact ⟨rfl, Bx.box_below _ _⟩

theorem right_times (b : Bp) (w : World) :
    Calls Try.prog 32 #[bp b] w fun e w' => e = .returned (.bool (timesB b.a b.m b.h b.d)) ∧ Below w.heap.size w w' := by
  rw [show timesB b.a b.m b.h b.d = ((decide (0 ≤ b.a) && decide (b.a ≤ 255)) && (decide (0 ≤ b.m) && decide (b.m ≤ 255)) && (decide (0 ≤ b.h) && decide (b.h ≤ 255)) && (decide (0 ≤ b.d) && decide (b.d ≤ 255))) by unfold timesB; rw [Bool.eq_iff_iff]; simp; omega]
  exact times_walk b _ _ _ _ w (Lib.hid fun w => within_any _ _ _ w) (Lib.hid fun w => within_any _ _ _ w) (Lib.hid fun w => within_any _ _ _ w) (Lib.hid fun w => within_any _ _ _ w)

end Bpd
end Go.Proofs.Ytiokkahldhmhlaa
