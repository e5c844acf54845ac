/-
  What hide.turned and hide.Hide answer in every memory that holds the digest's tables, and that they change nothing that was there.
-/
import Derived.Test.YtanfmghfmmhglaaDoorHidA
import Derived.Test.YtanfmghfmmhglaaDoorDigI
import Derived.Test.YtanfmghfmmhglaaDoorOct2
import Derived.WalkMore
import Derived.ScopeJumps
namespace Go.Proofs.YtanfmghfmmhglaaDoor
open Go.RowKit
namespace Hd
open Oct Fr Dig

set_option maxHeartbeats 400000 in
theorem turned_any (b sec ah : ByteArray) (w : World) (hb : b.size ≤ 4096) (hs : sec.size ≤ 4096) (ha : ah.size ≤ 4096) (hm : Home w) :
    Calls Tryd.prog 16 #[.string b, .string sec, .string ah] w fun e w' => e = .returned (.string (turnB b sec ah)) ∧ Below w.heap.size w w' := by
  have HS : Hid (∀ w, Home w → Calls Tryd.prog 21 #[.string (sec ++ ah)] w fun e w' => e = .returned (.string (sumB (sec ++ ah))) ∧ Below w.heap.size w w') :=
    Lib.hid (fun w hm => sum_any (sec ++ ah) w (by rw [ByteArray.size_append]; omega) hm)
  have HK : Hid (∀ w, Calls Tryd.prog 11 #[.string b, .string (sumB (sec ++ ah))] w fun e w' => e = .returned (.string (turnB b sec ah)) ∧ Below w.heap.size w w') :=
    Lib.hid (fun w => mask_any b (sumB (sec ++ ah)) w (by omega) (by rw [sumB_size]; omega))
  have hc : ¬ (sec.size + ah.size > 9223372036854775807) := by omega
  generalize turnB b sec ah = R at *
  generalize sumB (sec ++ ah) = S at *
  have HM := Lib.hid hm
  clear hm
  go_enter Tryd.func16, Tryd.ntmps16
  go_wp2_with fail
  refine (HS.out _ HM.out).mono ?_; rintro e w1 ⟨rfl, hb1⟩
  go_wp2_with fail
  refine (HK.out _).mono ?_; rintro e w2 ⟨rfl, hb2⟩
  go_wp2_with fail
  go_ret
  exact ⟨rfl, Bx.then_below hb1 hb2⟩

/-- The error of Hide. -/
def hidE (p a : ByteArray) : Int := if 128 < p.size then 4 else if a.size ≠ 16 then 1 else 0
/-- How many blocks. -/
def hidN (p : ByteArray) : Nat := (blkN p.size).toNat
/-- The padded password. -/
def hidP (p : ByteArray) : ByteArray := padS p (hidN p * 16 : Nat)
def hidS (p sec a : ByteArray) : ByteArray := if hidE p a = 0 then hideB sec (hidN p) (hidP p) a else ⟨#[]⟩

theorem hidN_one (p : ByteArray) : 1 ≤ hidN p ∧ hidN p ≤ 8 := by
  have := blkN_low p.size
  have := blkN_high p.size
  unfold hidN
  omega

theorem hidP_size (p : ByteArray) (h : p.size ≤ 128) : (hidP p).size = 16 * hidN p := by
  have h1 := hidN_one p
  have h2 : (hidP p).size = p.size + (min ((hidN p * 16 : Nat) : Int) 9216 - p.size).toNat := by
    unfold hidP padS
    rw [ByteArray.size_append]
    congr 1
    show (List.replicate _ (0 : UInt8)).toArray.size = _
    simp
  have h3 : p.size ≤ hidN p * 16 := by
    unfold hidN blkN
    omega
  rw [h2]
  omega

/-- A text one byte of which is to be looked at, or none. -/
theorem none_of (r : ByteArray) (h : r.size = 0) : r = ⟨#[]⟩ := by
  apply ByteArray.ext
  apply Array.eq_empty_of_size_eq_zero
  exact h

theorem full_of (r : ByteArray) (h : 0 < r.size) : r.toList.isEmpty = false := by
  rw [ByteArray.toList_eq]
  cases hl : r.data.toList with
  | nil =>
    have : r.data.toList.length = 0 := by rw [hl]; rfl
    rw [Array.length_toList] at this
    exact absurd h (by show ¬ 0 < r.data.size; omega)
  | cons _ _ => rfl

set_option maxHeartbeats 1000000 in
theorem hide_err (p sec au : ByteArray) (w : World) (he : hidE p au ≠ 0) :
    Calls Tryd.prog 7 #[.string p, .string sec, .string au] w fun e w' => e = .returned (.tuple #[.string ⟨#[]⟩, .int .i64 (hidE p au)]) ∧ Below w.heap.size w w' := by
  by_cases h1 : 128 < p.size
  · have e1 : hidE p au = 4 := if_pos h1
    rw [e1]
    clear e1 he
    go_enter Tryd.func7, Tryd.ntmps7
    go_wp2
    go_step3
    go_wp2
    try rw [Exit.noGoto_ret]
    go_ret2
    exact ⟨rfl, Below.refl _ _⟩
  · have h2 : au.size ≠ 16 := by
      intro h2
      exact he (by unfold hidE; rw [if_neg h1, if_neg (by omega)])
    have e1 : hidE p au = 1 := by unfold hidE; rw [if_neg h1, if_pos h2]
    rw [e1]
    have h2' : ((au.size : Int) != 16) = true := by simp; omega
    clear e1 he
    go_enter Tryd.func7, Tryd.ntmps7
    go_wp2
    go_step3
    go_wp2
    try rw [Exit.noGoto_ret]
    go_ret2
    exact ⟨rfl, Below.refl _ _⟩

set_option maxHeartbeats 2000000 in
theorem hide_ok (p sec au : ByteArray) (w : World) (hp : p.size ≤ 128) (hs : sec.size ≤ 4096) (ha : au.size = 16) (hm : Home w) :
    Calls Tryd.prog 7 #[.string p, .string sec, .string au] w fun e w' => e = .returned (.tuple #[.string (hideB sec (hidN p) (hidP p) au), .int .i64 0]) ∧ Below w.heap.size w w' := by
  have HM := Lib.hid hm
  have hN := hidN_one p
  have hP := hidP_size p hp
  have HT := Lib.hid (fun (w : World) (r ah : ByteArray) (hr : (r.extract 0 16).size ≤ 4096) (ha : ah.size ≤ 4096) (hm : Home w) => turned_any (r.extract 0 16) sec ah w hr hs ha hm)
  have HBl : Hid (∀ w, Calls Tryd.prog 13 #[.int .i64 (p.size : Int)] w fun e w' => e = .returned (.int .i64 (hidN p : Int)) ∧ w = w') := Lib.hid (fun w => by
    have h := blocks_any p.size w
    rwa [show blkN p.size = (hidN p : Int) by unfold hidN; have := blkN_low p.size; omega] at h)
  have HPd : Hid (∀ w, Calls Tryd.prog 15 #[.string p, .int .i64 ((hidN p : Int) * 16)] w fun e w' => e = .returned (.string (hidP p)) ∧ Below w.heap.size w w') := Lib.hid (fun w => by
    have h := pad_any p (hidN p * 16 : Nat) w (by omega)
    rw [show ((hidN p * 16 : Nat) : Int) = (hidN p : Int) * 16 by omega] at h
    unfold hidP
    rw [show ((hidN p * 16 : Nat) : Int) = (hidN p : Int) * 16 by omega]
    exact h)
  obtain ⟨R, hR⟩ : ∃ R, hideB sec (hidN p) (hidP p) au = R := ⟨_, rfl⟩
  rw [hR]
  have HR := Lib.hid hR
  clear hR hm
  generalize hidP p = P at *
  generalize hidN p = n at *
  have q1 : ¬ ((p.size : Int) > 128) := by omega
  have q2 : ((au.size : Int) != 16) = false := by simp; omega
  have q3 : decide (128 < (p.size : Int)) = false := by simp; omega
  go_enter Tryd.func7, Tryd.ntmps7
  go_wp2
  refine wp_scope_jumps 0 (fun a' w' => Hid (Below w.heap.size w w') ∧ ∃ (k : Nat) (r h ah : ByteArray) (u11 u12 u13 u14 u15 u16 u17 u18 u19 u20 u21 u22 u23 u24 u25 u26 u27 u28 u29 u30 u31 u32 u33 u34 u35 u36 : Value), a' = { tmps := #[.string p, .string sec, .string au, undef, undef, undef, .string ⟨#[]⟩, .int .i64 0, .string r, .string h, .string ah, u11, u12, u13, u14, u15, u16, u17, u18, u19, u20, u21, u22, u23, u24, u25, u26, u27, u28, u29, u30, u31, u32, u33, u34, u35, u36], defers := [] } ∧ r.size = 16 * (k + 1) ∧ k < 8 ∧ ah.size = 16 ∧ h.size + 16 * (k + 1) ≤ 128 ∧ Hid (h ++ hideB sec (k + 1) r ah = R)) (fun a' _ => Lib.strSize (a'.tmps.getD 8 undef)) rfl ?_ ?_
  · go_wp2_with fail
    refine (HBl.out _).mono ?_; rintro e w0 ⟨rfl, rfl⟩
    go_wp2_with fail
    refine (HPd.out _).mono ?_; rintro e w1 ⟨rfl, hb1⟩
    go_wp2_with fail
    go_step3
    obtain ⟨k, hk⟩ : ∃ k, n = k + 1 := ⟨n - 1, by omega⟩
    have hr : P.size = 16 * (k + 1) := by omega
    have HE : Hid ((⟨#[]⟩ : ByteArray) ++ hideB sec (k + 1) P au = R) := Lib.hid (by rw [← hk, HR.out]; exact ByteArray.empty_append)
    have hk8 : k < 8 := by omega
    have HB := Lib.hid hb1
    clear hb1 HR hP
    have hf := first_size P k hr
    have hX := turnB_size (P.extract 0 16) sec au hf
    have hrs := rest_size P k hr
    have HE2 : Hid (((⟨#[]⟩ : ByteArray) ++ turnB (P.extract 0 16) sec au) ++ hideB sec k (P.extract 16 P.size) (turnB (P.extract 0 16) sec au) = R) := Lib.hid (by rw [app_assoc]; exact HE.out)
    have HT2 := Lib.hid (fun (w : World) (hm : Home w) => HT.out w P au (by omega) (by omega) hm)
    have hcat : ¬ ((⟨#[]⟩ : ByteArray).size + (turnB (P.extract 0 16) sec au).size > 9223372036854775807) := by rw [hX]; decide
    generalize turnB (P.extract 0 16) sec au = X at *
    have h16 : ¬ (P.size < 16) := by omega
    rw [hr] at HE2 hrs
    go_wp2_with fail
    refine (HT2.out _ (HM.out.below HB.out)).mono ?_; rintro e w2 ⟨rfl, hb2⟩
    have HB2 := Lib.hid (Bx.then_below HB.out hb2)
    clear hb2
    have HI : Hid (k ≠ 0 → (P.extract 16 (16 * (k + 1))).toList.isEmpty = false) := Lib.hid (fun h => full_of _ (by rw [hrs]; omega))
    by_cases hk0 : k = 0
    · subst hk0
      go_wp2_with fail
      simp only [Exit.jump]
      go_ret2
      refine ⟨?_, HB2.out⟩
      have hE := HE2.out
      rw [hideB, ByteArray.append_empty] at hE
      rw [← hE]
      rfl
    · have hne := HI.out hk0
      go_wp2_with fail
      go_step3
      obtain ⟨j, hj⟩ : ∃ j, k = j + 1 := ⟨k - 1, by omega⟩
      have HE3 : Hid (((⟨#[]⟩ : ByteArray) ++ X) ++ hideB sec (j + 1) (P.extract 16 (16 * (k + 1))) X = R) := by rw [← hj]; exact HE2
      have hs3 : (P.extract 16 (16 * (k + 1))).size = 16 * (j + 1) := by omega
      have hs4 : ((⟨#[]⟩ : ByteArray) ++ X).size + 16 * (j + 1) ≤ 128 := by rw [ByteArray.size_append, hX]; show 0 + 16 + _ ≤ _; omega
      exact ⟨rfl, HB2, j, _, _, _, _, _, _, _, _, _, _, _, _, _, _, _, _, _, _, _, _, _, _, _, _, _, _, _, _, _, rfl, hs3, by omega, hX, hs4, HE3⟩
  · rintro a' w1 ⟨HB, k, r, h, ah, u11, u12, u13, u14, u15, u16, u17, u18, u19, u20, u21, u22, u23, u24, u25, u26, u27, u28, u29, u30, u31, u32, u33, u34, u35, u36, rfl, hr, hk8, hah, hsz, HE⟩
    have hf := first_size r k hr
    have hX := turnB_size (r.extract 0 16) sec ah hf
    have hrs := rest_size r k hr
    have HE2 : Hid ((h ++ turnB (r.extract 0 16) sec ah) ++ hideB sec k (r.extract 16 r.size) (turnB (r.extract 0 16) sec ah) = R) := Lib.hid (by rw [app_assoc]; exact HE.out)
    have HT2 := Lib.hid (fun (w : World) (hm : Home w) => HT.out w r ah (by omega) (by omega) hm)
    have hcat : ¬ (h.size + (turnB (r.extract 0 16) sec ah).size > 9223372036854775807) := by rw [hX]; omega
    generalize turnB (r.extract 0 16) sec ah = X at *
    have h16 : ¬ (r.size < 16) := by omega
    rw [hr] at HE2 hrs
    go_wp2_with fail
    refine (HT2.out _ (HM.out.below HB.out)).mono ?_; rintro e w2 ⟨rfl, hb2⟩
    have HB2 := Lib.hid (Bx.then_below HB.out hb2)
    clear hb2
    have HI : Hid (k ≠ 0 → (r.extract 16 (16 * (k + 1))).toList.isEmpty = false) := Lib.hid (fun h => full_of _ (by rw [hrs]; omega))
    by_cases hk0 : k = 0
    · subst hk0
      go_wp2_with fail
      simp only [Exit.jump]
      go_ret2
      refine ⟨?_, HB2.out⟩
      have hE := HE2.out
      rw [hideB, ByteArray.append_empty] at hE
      rw [← hE]
      rfl
    · have hne := HI.out hk0
      go_wp2_with fail
      go_step3
      obtain ⟨j, hj⟩ : ∃ j, k = j + 1 := ⟨k - 1, by omega⟩
      have HE3 : Hid ((h ++ X) ++ hideB sec (j + 1) (r.extract 16 (16 * (k + 1))) X = R) := by rw [← hj]; exact HE2
      have hs3 : (r.extract 16 (16 * (k + 1))).size = 16 * (j + 1) := by omega
      have hs4 : (h ++ X).size + 16 * (j + 1) ≤ 128 := by rw [ByteArray.size_append, hX]; omega
      refine ⟨rfl, ⟨HB2, j, _, _, _, _, _, _, _, _, _, _, _, _, _, _, _, _, _, _, _, _, _, _, _, _, _, _, _, _, _, rfl, hs3, by omega, hX, hs4, HE3⟩, ?_⟩
      show (r.extract 16 (16 * (k + 1))).size < r.size
      omega

theorem hide_any (p sec au : ByteArray) (w : World) (hs : sec.size ≤ 4096) (hm : Home w) :
    Calls Tryd.prog 7 #[.string p, .string sec, .string au] w fun e w' => e = .returned (.tuple #[.string (hidS p sec au), .int .i64 (hidE p au)]) ∧ Below w.heap.size w w' := by
  by_cases he : hidE p au = 0
  · have h1 : p.size ≤ 128 ∧ au.size = 16 := by
      unfold hidE at he
      split at he
      · cases he
      · split at he
        · cases he
        · omega
    rw [he, show hidS p sec au = _ from if_pos he]
    exact hide_ok p sec au w h1.1 hs h1.2 hm
  · rw [show hidS p sec au = _ from if_neg he]
    exact hide_err p sec au w he

end Hd
end Go.Proofs.YtanfmghfmmhglaaDoor
