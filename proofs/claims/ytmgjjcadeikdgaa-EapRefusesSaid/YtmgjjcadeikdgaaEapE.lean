/-
  What eap.Read, and the document's answer beside it, read of any text; and that they change nothing that was there.
-/
import Derived.Test.YtmgjjcadeikdgaaEapD
namespace Go.Proofs.Ytmgjjcadeikdgaa
open Go.RowKit
namespace Eap
open Oct Mac Eth Epl

abbrev Pk.val (x : Pk) : Value := pk x.c x.i x.t x.d

theorem pVal_zero (s : ByteArray) (h : pErr s ≠ 0) : pVal s = zeroP := by unfold pVal; rw [if_pos h]

theorem read_any (s : ByteArray) (w : World) (hs : s.size ≤ 9223372036854775807) :
    Calls Try.prog 10 #[.string s] w fun e w' => e = .returned (.tuple #[(pVal s).val, .int .i64 (pErr s)]) ∧ Below w.heap.size w w' := by
  by_cases h4 : 4 ≤ s.size
  case neg =>
    have he : pErr s = 2 := by unfold pErr; rw [if_pos (by omega)]
    rw [pVal_zero s (by rw [he]; decide), he]
    exact read_short s w (by omega)
  have l0 := n1_lt s 0
  have l1 := n1_lt s 1
  have l2 := n2_lt s 2
  have l4 := n1_lt s 4
  have q0 : s[0].toNat = n1 s 0 := (n1_at s 0 (by omega)).symm
  have q1 : s[1].toNat = n1 s 1 := (n1_at s 1 (by omega)).symm
  have HN : Hid (∀ w, Calls Try.prog 30 #[.string s, .int .i64 2, .int .i64 2] w fun e w' => e = .returned (.tuple #[.int .u64 (n2 s 2), .int .i64 (getR s 2 2).2]) ∧ w = w') := Lib.hid fun w => get_any s 2 2 w hs (by omega)
  by_cases hN : 1024 < n2 s 2
  · have he : pErr s = 4 := by unfold pErr; rw [if_neg (by omega), if_pos hN]
    rw [pVal_zero s (by rw [he]; decide), he]
    exact read_long s (n2 s 2) _ w h4 hs hN HN
  by_cases hf : s.size < n2 s 2
  · have he : pErr s = 2 := by unfold pErr; rw [if_neg (by omega), if_neg hN, if_pos hf]
    rw [pVal_zero s (by rw [he]; decide), he]
    exact read_few s (n2 s 2) _ w h4 hs (by omega) hf HN
  by_cases hc : n1 s 0 = 1 ∨ n1 s 0 = 2
  · have hc' : (n1 s 0 : Int) = 1 ∨ (n1 s 0 : Int) = 2 := by omega
    by_cases h5 : n2 s 2 < 5
    · have he : pErr s = 3 := by unfold pErr; rw [if_neg (by omega), if_neg hN, if_neg hf, if_pos hc, if_pos (Or.inl h5)]
      rw [pVal_zero s (by rw [he]; decide), he]
      have HF := fun w => fits_typed (n1 s 0) (n2 s 2) hc' w
      rw [show decide (5 ≤ (n2 s 2 : Int)) = false by rw [decide_eq_false_iff_not]; omega] at HF
      exact read_unfit s (n1 s 0) (n1 s 1) (n2 s 2) _ w h4 hs q0 q1 l0 l1 (by omega) (by omega) HN (Lib.hid HF)
    have HF := fun w => fits_typed (n1 s 0) (n2 s 2) hc' w
    rw [show decide (5 ≤ (n2 s 2 : Int)) = true by rw [decide_eq_true_iff]; omega] at HF
    have q4 : s[4].toNat = n1 s 4 := (n1_at s 4 (by omega)).symm
    have HR := fun w => right_any (n1 s 0) (n1 s 1) (n1 s 4) (s.extract 5 (n2 s 2)) w (by rw [ByteArray.size_extract]; omega)
    by_cases hz : n1 s 4 = 0
    · have he : pErr s = 3 := by unfold pErr; rw [if_neg (by omega), if_neg hN, if_neg hf, if_pos hc, if_pos (Or.inr hz)]
      rw [pVal_zero s (by rw [he]; decide), he]
      rw [show rightP (n1 s 0) (n1 s 1) (n1 s 4) (s.extract 5 (n2 s 2)) = false by unfold rightP; rw [decide_eq_false_iff_not]; omega] at HR
      exact read_typed_false s (n1 s 0) (n1 s 1) (n1 s 4) (n2 s 2) _ w h4 hs q0 q1 l0 l1 (by omega) (by omega) (by omega) (by omega) q4 l4 HN (Lib.hid HF) (Lib.hid fun w => typed_yes _ hc' w) (Lib.hid HR)
    · have he : pErr s = 0 := by unfold pErr; rw [if_neg (by omega), if_neg hN, if_neg hf, if_pos hc, if_neg (by omega)]
      have hv : pVal s = ⟨n1 s 0, n1 s 1, n1 s 4, s.extract 5 (n2 s 2)⟩ := by unfold pVal; rw [if_neg (not_not_intro he), if_pos hc]
      have hr := pVal_right s he
      rw [hv] at hr
      rw [hr] at HR
      rw [hv, he]
      exact read_typed_true s (n1 s 0) (n1 s 1) (n1 s 4) (n2 s 2) _ w h4 hs q0 q1 l0 l1 (by omega) (by omega) (by omega) (by omega) q4 l4 HN (Lib.hid HF) (Lib.hid fun w => typed_yes _ hc' w) (Lib.hid HR)
  have e1 : ((n1 s 0 : Int) == 1) = false := by simp; omega
  have e2 : ((n1 s 0 : Int) == 2) = false := by simp; omega
  by_cases h5 : n2 s 2 = 4
  case neg =>
    have he : pErr s = 3 := by unfold pErr; rw [if_neg (by omega), if_neg hN, if_neg hf, if_neg hc, if_neg (fun h => h5 h.1)]
    rw [pVal_zero s (by rw [he]; decide), he]
    have HF := fun w => fits_bare (n1 s 0) (n2 s 2) e1 e2 w
    rw [show decide ((n2 s 2 : Int) = 4) = false by rw [decide_eq_false_iff_not]; omega] at HF
    exact read_unfit s (n1 s 0) (n1 s 1) (n2 s 2) _ w h4 hs q0 q1 l0 l1 (by omega) (by omega) HN (Lib.hid HF)
  have HF := fun w => fits_bare (n1 s 0) (n2 s 2) e1 e2 w
  rw [show decide ((n2 s 2 : Int) = 4) = true by rw [decide_eq_true_iff]; omega] at HF
  have HR := fun w => right_any (n1 s 0) (n1 s 1) 0 ⟨#[]⟩ w (Nat.zero_le _)
  by_cases h3 : n1 s 0 = 3 ∨ n1 s 0 = 4
  · have he : pErr s = 0 := by unfold pErr; rw [if_neg (by omega), if_neg hN, if_neg hf, if_neg hc, if_pos ⟨h5, h3⟩]
    have hv : pVal s = ⟨n1 s 0, n1 s 1, 0, ⟨#[]⟩⟩ := by unfold pVal; rw [if_neg (not_not_intro he), if_neg hc]
    rw [show rightP (n1 s 0) (n1 s 1) 0 ⟨#[]⟩ = true by unfold rightP; rw [decide_eq_true_iff]; exact ⟨by omega, by omega, Or.inr ⟨by omega, rfl, rfl⟩⟩] at HR
    rw [hv, he]
    exact read_bare_true s (n1 s 0) (n1 s 1) (n2 s 2) _ w h4 hs q0 q1 l0 l1 (by omega) (by omega) HN (Lib.hid HF) (Lib.hid fun w => typed_no _ e1 e2 w) (Lib.hid HR)
  · have he : pErr s = 3 := by unfold pErr; rw [if_neg (by omega), if_neg hN, if_neg hf, if_neg hc, if_neg (fun h => h3 h.2)]
    rw [pVal_zero s (by rw [he]; decide), he]
    rw [show rightP (n1 s 0) (n1 s 1) 0 ⟨#[]⟩ = false by unfold rightP; rw [decide_eq_false_iff_not]; omega] at HR
    exact read_bare_false s (n1 s 0) (n1 s 1) (n2 s 2) _ w h4 hs q0 q1 l0 l1 (by omega) (by omega) HN (Lib.hid HF) (Lib.hid fun w => typed_no _ e1 e2 w) (Lib.hid HR)

theorem rread_any (s : ByteArray) (w : World) (hs : s.size ≤ 9223372036854775807) :
    Calls Try.prog 11 #[.string s] w fun e w' => e = .returned (.tuple #[(pVal s).val, .int .i64 (pErr s)]) ∧ Below w.heap.size w w' := by
  by_cases h4 : 4 ≤ s.size
  case neg =>
    have he : pErr s = 2 := by unfold pErr; rw [if_pos (by omega)]
    rw [pVal_zero s (by rw [he]; decide), he]
    exact rread_short s w (by omega)
  have l0 := n1_lt s 0
  have l1 := n1_lt s 1
  have l2 := n2_lt s 2
  have l4 := n1_lt s 4
  have q0 : s[0].toNat = n1 s 0 := (n1_at s 0 (by omega)).symm
  have q1 : s[1].toNat = n1 s 1 := (n1_at s 1 (by omega)).symm
  have HC : Hid (∀ w, Calls Try.prog 32 #[.string s, .int .i64 0, .int .i64 1] w fun e w' => e = .returned (.tuple #[.int .u64 (n1 s 0), .int .i64 (getR s 0 1).2]) ∧ w = w') := Lib.hid fun w => rget_any s 0 1 w hs
  have HI : Hid (∀ w, Calls Try.prog 32 #[.string s, .int .i64 1, .int .i64 1] w fun e w' => e = .returned (.tuple #[.int .u64 (n1 s 1), .int .i64 (getR s 1 1).2]) ∧ w = w') := Lib.hid fun w => rget_any s 1 1 w hs
  have HN : Hid (∀ w, Calls Try.prog 32 #[.string s, .int .i64 2, .int .i64 2] w fun e w' => e = .returned (.tuple #[.int .u64 (n2 s 2), .int .i64 (getR s 2 2).2]) ∧ w = w') := Lib.hid fun w => rget_any s 2 2 w hs
  have HK : Hid (∀ w, Calls Try.prog 32 #[.string s, .int .i64 4, .int .i64 1] w fun e w' => e = .returned (.tuple #[.int .u64 (n1 s 4), .int .i64 (getR s 4 1).2]) ∧ w = w') := Lib.hid fun w => rget_any s 4 1 w hs
  by_cases hN : 1024 < n2 s 2
  · have he : pErr s = 4 := by unfold pErr; rw [if_neg (by omega), if_pos hN]
    rw [pVal_zero s (by rw [he]; decide), he]
    exact rread_long s (n1 s 0) (n1 s 1) (n2 s 2) _ _ _ w h4 hs l0 l1 hN l2 HC HI HN
  by_cases hf : s.size < n2 s 2
  · have he : pErr s = 2 := by unfold pErr; rw [if_neg (by omega), if_neg hN, if_pos hf]
    rw [pVal_zero s (by rw [he]; decide), he]
    exact rread_few s (n1 s 0) (n1 s 1) (n2 s 2) _ _ _ w h4 hs l0 l1 (by omega) hf HC HI HN
  by_cases hc : n1 s 0 = 1 ∨ n1 s 0 = 2
  · have hc' : (n1 s 0 : Int) = 1 ∨ (n1 s 0 : Int) = 2 := by omega
    by_cases h5 : n2 s 2 < 5
    · have he : pErr s = 3 := by unfold pErr; rw [if_neg (by omega), if_neg hN, if_neg hf, if_pos hc, if_pos (Or.inl h5)]
      rw [pVal_zero s (by rw [he]; decide), he]
      exact rread_low s (n1 s 0) (n1 s 1) (n2 s 2) _ _ _ w h4 hs l0 l1 (by omega) (by omega) h5 HC HI HN (Lib.hid fun w => rtyped_yes _ hc' w)
    have HR := fun w => rright_any (n1 s 0) (n1 s 1) (n1 s 4) (s.extract 5 (n2 s 2)) w (by rw [ByteArray.size_extract]; omega)
    by_cases hz : n1 s 4 = 0
    · have he : pErr s = 3 := by unfold pErr; rw [if_neg (by omega), if_neg hN, if_neg hf, if_pos hc, if_pos (Or.inr hz)]
      rw [pVal_zero s (by rw [he]; decide), he]
      rw [show rightP (n1 s 0) (n1 s 1) (n1 s 4) (s.extract 5 (n2 s 2)) = false by unfold rightP; rw [decide_eq_false_iff_not]; omega] at HR
      exact rread_typed_false s (n1 s 0) (n1 s 1) (n1 s 4) (n2 s 2) _ _ _ _ w h4 hs l0 l1 (by omega) (by omega) (by omega) l4 HC HI HN HK (Lib.hid fun w => rtyped_yes _ hc' w) (Lib.hid HR)
    · have he : pErr s = 0 := by unfold pErr; rw [if_neg (by omega), if_neg hN, if_neg hf, if_pos hc, if_neg (by omega)]
      have hv : pVal s = ⟨n1 s 0, n1 s 1, n1 s 4, s.extract 5 (n2 s 2)⟩ := by unfold pVal; rw [if_neg (not_not_intro he), if_pos hc]
      have hr := pVal_right s he
      rw [hv] at hr
      rw [hr] at HR
      rw [hv, he]
      exact rread_typed_true s (n1 s 0) (n1 s 1) (n1 s 4) (n2 s 2) _ _ _ _ w h4 hs l0 l1 (by omega) (by omega) (by omega) l4 HC HI HN HK (Lib.hid fun w => rtyped_yes _ hc' w) (Lib.hid HR)
  have e1 : ((n1 s 0 : Int) == 1) = false := by simp; omega
  have e2 : ((n1 s 0 : Int) == 2) = false := by simp; omega
  by_cases h5 : n2 s 2 = 4
  case neg =>
    have he : pErr s = 3 := by unfold pErr; rw [if_neg (by omega), if_neg hN, if_neg hf, if_neg hc, if_neg (fun h => h5 h.1)]
    rw [pVal_zero s (by rw [he]; decide), he]
    exact rread_off s (n1 s 0) (n1 s 1) (n2 s 2) _ _ _ w h4 hs l0 l1 (by omega) (by omega) (by simp; omega) HC HI HN (Lib.hid fun w => rtyped_no _ e1 e2 w)
  have HR := fun w => rright_any (n1 s 0) (n1 s 1) 0 ⟨#[]⟩ w (Nat.zero_le _)
  by_cases h3 : n1 s 0 = 3 ∨ n1 s 0 = 4
  · have he : pErr s = 0 := by unfold pErr; rw [if_neg (by omega), if_neg hN, if_neg hf, if_neg hc, if_pos ⟨h5, h3⟩]
    have hv : pVal s = ⟨n1 s 0, n1 s 1, 0, ⟨#[]⟩⟩ := by unfold pVal; rw [if_neg (not_not_intro he), if_neg hc]
    rw [show rightP (n1 s 0) (n1 s 1) 0 ⟨#[]⟩ = true by unfold rightP; rw [decide_eq_true_iff]; exact ⟨by omega, by omega, Or.inr ⟨by omega, rfl, rfl⟩⟩] at HR
    rw [hv, he]
    exact rread_bare_true s (n1 s 0) (n1 s 1) (n2 s 2) _ _ _ w h4 hs l0 l1 (by omega) (by omega) (by simp; omega) HC HI HN (Lib.hid fun w => rtyped_no _ e1 e2 w) (Lib.hid HR)
  · have he : pErr s = 3 := by unfold pErr; rw [if_neg (by omega), if_neg hN, if_neg hf, if_neg hc, if_neg (fun h => h3 h.2)]
    rw [pVal_zero s (by rw [he]; decide), he]
    rw [show rightP (n1 s 0) (n1 s 1) 0 ⟨#[]⟩ = false by unfold rightP; rw [decide_eq_false_iff_not]; omega] at HR
    exact rread_bare_false s (n1 s 0) (n1 s 1) (n2 s 2) _ _ _ w h4 hs l0 l1 (by omega) (by omega) (by simp; omega) HC HI HN (Lib.hid fun w => rtyped_no _ e1 e2 w) (Lib.hid HR)

end Eap
end Go.Proofs.Ytmgjjcadeikdgaa
