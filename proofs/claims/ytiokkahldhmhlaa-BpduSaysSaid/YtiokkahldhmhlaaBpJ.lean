/-
  What bpdu.Read reads of any text; and that it changes nothing that was there.
-/
import Derived.Test.YtiokkahldhmhlaaBpH
import Derived.Test.YtiokkahldhmhlaaShelf
import Derived.Test.YtiokkahldhmhlaaEplNum
namespace Go.Proofs.Ytiokkahldhmhlaa
open Go.RowKit
namespace Bpd
open Oct Mac Eth Epl

theorem starts_zero (s : ByteArray) (h : 2 ≤ s.size) : Lib.hasPrefix s.data.toList [0, 0] = decide (n2 s 0 = 0) := by
  have hl : 2 ≤ s.data.toList.length := by rw [Array.length_toList]; exact h
  match hm : s.data.toList, hl with
  | a :: b :: r, _ =>
    have e : n2 s 0 = getL 0 [a, b] := by
      have := n2_mid [] [a, b] r 0 rfl rfl
      simp only [List.nil_append, List.cons_append] at this
      rw [← hm, ofL_self] at this
      exact this
    rw [e]
    show ((0 == a) && ((0 == b) && true)) = _
    have ha := a.toNat_lt
    have hb := b.toNat_lt
    rw [Bool.eq_iff_iff, Bool.and_eq_true, Bool.and_eq_true, beq_iff_eq, beq_iff_eq, decide_eq_true_eq]
    show _ ↔ (0 * 256 + a.toNat) * 256 + b.toNat = 0
    constructor
    · rintro ⟨rfl, rfl, _⟩
      rfl
    · intro h
      exact ⟨UInt8.toNat_inj.1 (by show 0 = a.toNat; omega), UInt8.toNat_inj.1 (by show 0 = b.toNat; omega), rfl⟩

theorem prefix_any (s : ByteArray) (h : 2 ≤ s.size) (w : World) :
    Calls Try.prog 25 #[.string s, .string ⟨#[0, 0]⟩] w fun e w' => e = .returned (.bool (decide (n2 s 0 = 0))) ∧ w = w' := by
  rw [← starts_zero s h]
  exact (Try.strings_HasPrefix s ⟨#[0, 0]⟩ w).mono fun _ _ ⟨he, hw⟩ => ⟨he, hw.symm⟩

theorem long_same (k : Int) (w : World) :
    Calls Try.prog 23 #[.int .i64 k] w fun e w' => e = .returned (.int .i64 (if k = 2 then 36 else 35)) ∧ w = w' := by
  by_cases h2 : k = 2
  · rw [if_pos h2]
    have h : (k == 2) = true := by simpa using h2
    go_enter Try.func23, Try.ntmps23
    go_wp2
    go_ret
    exact ⟨rfl, rfl⟩
  · rw [if_neg h2]
    have h : (k == 2) = false := by simpa using h2
    go_enter Try.func23, Try.ntmps23
    go_wp2
    go_ret
    exact ⟨rfl, rfl⟩

theorem getR_lt (s : ByteArray) (a : Int) (k : Nat) : (getR s a k).1 < 256 ^ k := by
  unfold getR
  split
  · exact Nat.pos_of_ne_zero (by simp)
  · split
    · exact Nat.pos_of_ne_zero (by simp)
    · rename_i h1 h2
      have hz := cutS_size s a k (by omega)
      have := getL_lt (cutS s a k).data.toList
      rw [Array.length_toList] at this
      have e : (cutS s a k).data.size = k := by have : (cutS s a k).size = k := by omega
                                                exact this
      rw [e] at this
      exact this

theorem whole_any (s : ByteArray) (w : World) (hs : 35 ≤ s.size) (hz : s.size ≤ 9223372036854775807) :
    Calls Try.prog 26 #[.int .i64 (n1 s 3), .string s] w fun e w' => e = .returned (bp (fullB s)) ∧ Below w.heap.size w w' := by
  have a4 := n1_at s 4 (by omega)
  have a27 := n1_at s 27 (by omega)
  have a29 := n1_at s 29 (by omega)
  have a31 := n1_at s 31 (by omega)
  have a33 := n1_at s 33 (by omega)
  have HV := fun w => vector_in s (n8 s 5) (n4 s 13) (n8 s 17) (n2 s 25) _ _ _ _ w (by have := getR_lt s 25 2; exact this) (Lib.hid fun w => get_any s 5 8 w hz (by omega)) (Lib.hid fun w => get_any s 13 4 w hz (by omega)) (Lib.hid fun w => get_any s 17 8 w hz (by omega)) (Lib.hid fun w => get_any s 25 2 w hz (by omega))
  have HI := fun w => flags_in (n1 s 4) (n1_lt s 4) w
  unfold fullB
  by_cases h2 : n1 s 3 = 2
  · rw [if_pos h2]
    exact whole_walk s _ _ _ _ _ _ _ _ _ _ _ _ _ _ _ _ _ _ _ _ _ _ _ _ _ _ _ w hs a4.symm a27.symm a29.symm a31.symm a33.symm (Lib.hid HI) (Lib.hid fun w => by rw [h2]; exact allowed_two _ _ _ _ _ _ _ _ w) (Lib.hid fun w => role_of _ _ _ _ _ _ _ _ w) (Lib.hid HV)
  · rw [if_neg h2]
    exact whole_walk s _ _ _ _ _ _ _ _ _ _ _ _ _ _ _ _ _ _ _ _ _ _ _ _ _ _ _ w hs a4.symm a27.symm a29.symm a31.symm a33.symm (Lib.hid HI) (Lib.hid fun w => allowed_not _ (by simp; omega) _ _ _ _ _ _ _ _ w) (Lib.hid fun w => role_of _ _ _ _ _ _ _ _ w) (Lib.hid HV)

theorem read_any (s : ByteArray) (w : World) (hz : s.size ≤ 9223372036854775807) :
    Calls Try.prog 9 #[.string s] w fun e w' => e = .returned (.tuple #[bp (rVal s), .int .i64 (rErr s)]) ∧ Below w.heap.size w w' := by
  by_cases hs : s.size < 4
  · have e : rErr s = 2 := by unfold rErr; rw [if_pos hs]
    rw [show rVal s = zeroB by unfold rVal; rw [e, if_pos (by decide)], e]
    exact read_tiny s w hs
  have HP := fun w => prefix_any s (by omega) w
  by_cases hp : n2 s 0 = 0
  case neg =>
    have e : rErr s = 3 := by unfold rErr; rw [if_neg hs, if_pos hp]
    rw [show rVal s = zeroB by unfold rVal; rw [e, if_pos (by decide)], e]
    rw [decide_eq_false hp] at HP
    exact read_form s w (by omega) hz (Lib.hid HP)
  rw [decide_eq_true hp] at HP
  have a3 := n1_at s 3 (by omega)
  have a2 := n1_at s 2 (by omega)
  have hK := n1_lt s 3
  by_cases h1 : n1 s 3 = 128
  · have e : rErr s = 0 := by unfold rErr; rw [if_neg hs, if_neg (by omega), if_pos h1]
    rw [show rVal s = changeB by unfold rVal; rw [e, if_neg (by decide), if_pos h1], e]
    have h := read_change s (n1 s 3) w (by omega) hz a3.symm hK (by rw [h1]; rfl) (Lib.hid HP)
    rw [h1] at h
    exact h
  have e1 : (((n1 s 3 : Nat) : Int) == 128) = false := by simp; omega
  by_cases hk : n1 s 3 = 0 ∨ n1 s 3 = 2 ∧ 2 ≤ n1 s 2
  case neg =>
    have e : rErr s = 10 := by unfold rErr; rw [if_neg hs, if_neg (by omega), if_neg h1, if_pos hk]
    rw [show rVal s = zeroB by unfold rVal; rw [e, if_pos (by decide)], e]
    by_cases h2 : n1 s 3 = 2
    · exact read_vers s (n1 s 3) (n1 s 2) w (by omega) hz a3.symm hK a2.symm e1 (by simp; omega) (by simp; omega) (by omega) (Lib.hid HP)
    · exact read_kind s (n1 s 3) w (by omega) hz a3.symm hK e1 (by simp; omega) (by simp; omega) (Lib.hid HP)
  have HL := fun w => long_same (n1 s 3 : Nat) w
  by_cases h2 : n1 s 3 = 2
  · rw [if_pos (by omega)] at HL
    have e2 : (((n1 s 3 : Nat) : Int) != 0) = true := by simp; omega
    have e3 : (((n1 s 3 : Nat) : Int) != 2) = false := by simp; omega
    by_cases hl : s.size < 36
    · have e : rErr s = 2 := by unfold rErr; rw [if_neg hs, if_neg (by omega), if_neg h1, if_neg (by omega), if_pos h2, if_pos hl]
      rw [show rVal s = zeroB by unfold rVal; rw [e, if_pos (by decide)], e]
      exact read_short2 s (n1 s 3) (n1 s 2) 36 w (by omega) hz a3.symm hK a2.symm e1 e2 e3 (by omega) (by omega) (Lib.hid HP) (Lib.hid HL)
    have a27 := n1_at s 27 (by omega)
    have a29 := n1_at s 29 (by omega)
    by_cases ho : n1 s 29 ≤ n1 s 27
    · have e : rErr s = 3 := by unfold rErr; rw [if_neg hs, if_neg (by omega), if_neg h1, if_neg (by omega), if_pos h2, if_neg hl, if_pos ho]
      rw [show rVal s = zeroB by unfold rVal; rw [e, if_pos (by decide)], e]
      exact read_old2 s (n1 s 3) (n1 s 2) (n1 s 27) (n1 s 29) 36 w (by omega) hz a3.symm hK a2.symm e1 e2 e3 (by omega) (by omega) (by omega) a27.symm a29.symm ho (Lib.hid HP) (Lib.hid HL)
    · have e : rErr s = 0 := by unfold rErr; rw [if_neg hs, if_neg (by omega), if_neg h1, if_neg (by omega), if_pos h2, if_neg hl, if_neg ho]
      rw [show rVal s = fullB s by unfold rVal; rw [e, if_neg (by decide), if_neg h1], e]
      exact read_full2 s (fullB s) (n1 s 3) (n1 s 2) (n1 s 27) (n1 s 29) 36 w (by omega) hz a3.symm hK a2.symm e1 e2 e3 (by omega) (by omega) (by omega) a27.symm a29.symm (by omega) (Lib.hid HP) (Lib.hid HL) (Lib.hid fun w => whole_any s w (by omega) hz)
  · rw [if_neg (by omega)] at HL
    have e2 : (((n1 s 3 : Nat) : Int) != 0) = false := by simp; omega
    by_cases hl : s.size < 35
    · have e : rErr s = 2 := by unfold rErr; rw [if_neg hs, if_neg (by omega), if_neg h1, if_neg (by omega), if_neg h2, if_pos hl]
      rw [show rVal s = zeroB by unfold rVal; rw [e, if_pos (by decide)], e]
      exact read_short0 s (n1 s 3) 35 w (by omega) hz a3.symm hK e1 e2 (by omega) (Lib.hid HP) (Lib.hid HL)
    have a27 := n1_at s 27 (by omega)
    have a29 := n1_at s 29 (by omega)
    by_cases ho : n1 s 29 ≤ n1 s 27
    · have e : rErr s = 3 := by unfold rErr; rw [if_neg hs, if_neg (by omega), if_neg h1, if_neg (by omega), if_neg h2, if_neg hl, if_pos ho]
      rw [show rVal s = zeroB by unfold rVal; rw [e, if_pos (by decide)], e]
      exact read_old0 s (n1 s 3) (n1 s 27) (n1 s 29) 35 w (by omega) hz a3.symm hK e1 e2 (by omega) (by omega) a27.symm a29.symm ho (Lib.hid HP) (Lib.hid HL)
    · have e : rErr s = 0 := by unfold rErr; rw [if_neg hs, if_neg (by omega), if_neg h1, if_neg (by omega), if_neg h2, if_neg hl, if_neg ho]
      rw [show rVal s = fullB s by unfold rVal; rw [e, if_neg (by decide), if_neg h1], e]
      exact read_full0 s (fullB s) (n1 s 3) (n1 s 27) (n1 s 29) 35 w (by omega) hz a3.symm hK e1 e2 (by omega) (by omega) a27.symm a29.symm (by omega) (Lib.hid HP) (Lib.hid HL) (Lib.hid fun w => whole_any s w (by omega) hz)

end Bpd
end Go.Proofs.Ytiokkahldhmhlaa
