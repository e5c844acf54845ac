/-
  What hide.Show answers in every memory that holds the digest's tables, and that it changes nothing that was there.
-/
import Derived.Test.YtanfmghfmmhglaaDoorHidB
namespace Go.Proofs.YtanfmghfmmhglaaDoor
open Go.RowKit
namespace Hd
open Oct Fr Dig

/-- The error of Show. -/
def shwE (m a : ByteArray) : Int := if a.size ≠ 16 ∨ m.size = 0 ∨ m.size % 16 ≠ 0 then 1 else if 128 < m.size then 4 else 0
/-- What Show answers. -/
def shwS (m sec a : ByteArray) : ByteArray := if shwE m a = 0 then trimB (showB sec (m.size / 16) m a) else ⟨#[]⟩

theorem trim_any (s : ByteArray) (w : World) (hs : s.size ≤ 9223372036854775807) :
    Calls Tryd.prog 19 #[.string s, .string ⟨#[0]⟩] w fun e w' => e = .returned (.string (trimB s)) ∧ w = w' := by
  refine (Tryd.strings_TrimRight_one s 0 (by decide) w hs).mono ?_
  rintro e w' ⟨rfl, rfl⟩
  exact ⟨rfl, rfl⟩

set_option maxHeartbeats 1000000 in
theorem show_auth (m sec au : ByteArray) (w : World) (h1 : au.size ≠ 16) :
    Calls Tryd.prog 9 #[.string m, .string sec, .string au] w fun e w' => e = .returned (.tuple #[.string ⟨#[]⟩, .int .i64 1]) ∧ Below w.heap.size w w' := by
  have q1 : ((au.size : Int) != 16) = true := by simp; omega
  go_enter Tryd.func9, Tryd.ntmps9
  go_wp2
  go_step3
  go_wp2
  try rw [Exit.noGoto_ret]
  go_ret2
  exact ⟨rfl, Below.refl _ _⟩

set_option maxHeartbeats 1000000 in
theorem show_part (m sec au : ByteArray) (w : World) (hp : m.size ≤ 4096) (h1 : au.size = 16) (h3 : m.size % 16 ≠ 0) :
    Calls Tryd.prog 9 #[.string m, .string sec, .string au] w fun e w' => e = .returned (.tuple #[.string ⟨#[]⟩, .int .i64 1]) ∧ Below w.heap.size w w' := by
  have q1 : ((au.size : Int) != 16) = false := by simp; omega
  have q2 : m.toList.isEmpty = false := full_of m (by omega)
  have q3 : (((m.size : Int) % 16) != 0) = true := by simp; omega
  go_enter Tryd.func9, Tryd.ntmps9
  go_wp2
  go_step3
  go_wp2
  try rw [Exit.noGoto_ret]
  go_ret2
  exact ⟨rfl, Below.refl _ _⟩

set_option maxHeartbeats 1000000 in
theorem show_long (m sec au : ByteArray) (w : World) (hp : m.size ≤ 4096) (h1 : au.size = 16) (h2 : m.size % 16 = 0) (h3 : 128 < m.size) :
    Calls Tryd.prog 9 #[.string m, .string sec, .string au] w fun e w' => e = .returned (.tuple #[.string ⟨#[]⟩, .int .i64 4]) ∧ Below w.heap.size w w' := by
  have q1 : ((au.size : Int) != 16) = false := by simp; omega
  have q2 : m.toList.isEmpty = false := full_of m (by omega)
  have q3 : (((m.size : Int) % 16) != 0) = false := by simp; omega
  go_enter Tryd.func9, Tryd.ntmps9
  go_wp2
  go_step3
  go_wp2
  try rw [Exit.noGoto_ret]
  go_ret2
  exact ⟨rfl, Below.refl _ _⟩

set_option maxHeartbeats 1000000 in
theorem show_none (sec au : ByteArray) (w : World) (ha : au.size = 16) :
    Calls Tryd.prog 9 #[.string ⟨#[]⟩, .string sec, .string au] w fun e w' => e = .returned (.tuple #[.string ⟨#[]⟩, .int .i64 1]) ∧ Below w.heap.size w w' := by
  have q1 : ((au.size : Int) != 16) = false := by simp; omega
  go_enter Tryd.func9, Tryd.ntmps9
  go_wp2
  go_step3
  go_wp2
  try rw [Exit.noGoto_ret]
  go_ret2
  exact ⟨rfl, Below.refl _ _⟩

set_option maxHeartbeats 2000000 in
theorem show_ok (m sec au : ByteArray) (w : World) (n : Nat) (hp : m.size ≤ 128) (hn : m.size = 16 * (n + 1)) (hs : sec.size ≤ 4096) (ha : au.size = 16) (hm : Home w) :
    Calls Tryd.prog 9 #[.string m, .string sec, .string au] w fun e w' => e = .returned (.tuple #[.string (trimB (showB sec (n + 1) m au)), .int .i64 0]) ∧ Below w.heap.size w w' := by
  have HM := Lib.hid hm
  have HT := Lib.hid (fun (w : World) (r ah : ByteArray) (hr : (r.extract 0 16).size ≤ 4096) (ha : ah.size ≤ 4096) (hm : Home w) => turned_any (r.extract 0 16) sec ah w hr hs ha hm)
  obtain ⟨R, hR⟩ : ∃ R, showB sec (n + 1) m au = R := ⟨_, rfl⟩
  rw [hR]
  have HR := Lib.hid hR
  clear hR hm
  have q1 : ((au.size : Int) != 16) = false := by simp; omega
  have q2 : m.toList.isEmpty = false := full_of m (by omega)
  have q3 : (((m.size : Int) % 16) != 0) = false := by simp; omega
  have q4 : decide (128 < (m.size : Int)) = false := by simp; omega
  go_enter Tryd.func9, Tryd.ntmps9
  go_wp2
  refine wp_scope_jumps 0 (fun a' w' => Hid (Below w.heap.size w w') ∧ ∃ (k : Nat) (r h ah : ByteArray) (u11 u12 u13 u14 u15 u16 u17 u18 u19 u20 u21 u22 u23 u24 u25 u26 u27 u28 u29 u30 u31 u32 u33 u34 u35 u36 u37 u38 u39 u40 u41 u42 u43 : Value), a' = { tmps := #[.string m, .string sec, .string au, undef, undef, undef, .string ⟨#[]⟩, .int .i64 0, .string r, .string h, .string ah, u11, u12, u13, u14, u15, u16, u17, u18, u19, u20, u21, u22, u23, u24, u25, u26, u27, u28, u29, u30, u31, u32, u33, u34, u35, u36, u37, u38, u39, u40, u41, u42, u43], defers := [] } ∧ r.size = 16 * (k + 1) ∧ k < 8 ∧ ah.size = 16 ∧ h.size + 16 * (k + 1) ≤ 128 ∧ Hid (h ++ showB sec (k + 1) r ah = R)) (fun a' _ => Lib.strSize (a'.tmps.getD 8 undef)) rfl ?_ ?_
  · have HB := Lib.hid (Below.refl w.heap.size w)
    have HN := Lib.hid hn
    clear hn
    go_wp2_with fail
    go_step3
    have hk8 : n < 8 := by have := HN.out; omega
    have hr := HN.out
    have HE : Hid ((⟨#[]⟩ : ByteArray) ++ showB sec (n + 1) m au = R) := Lib.hid (by rw [HR.out]; exact ByteArray.empty_append)
    clear HR HN
    obtain ⟨k, hk⟩ : ∃ k, n = k := ⟨_, rfl⟩
    subst hk
    have hf := first_size m n hr
    have hX := turnB_size (m.extract 0 16) sec au hf
    have hrs := rest_size m n hr
    have HE2 : Hid (((⟨#[]⟩ : ByteArray) ++ turnB (m.extract 0 16) sec au) ++ showB sec n (m.extract 16 m.size) (m.extract 0 16) = R) := Lib.hid (by rw [app_assoc]; exact HE.out)
    have HT2 := Lib.hid (fun (w : World) (hm : Home w) => HT.out w m au (by omega) (by omega) hm)
    have hcat : ¬ ((⟨#[]⟩ : ByteArray).size + (turnB (m.extract 0 16) sec au).size > 9223372036854775807) := by rw [hX]; decide
    generalize turnB (m.extract 0 16) sec au = X at *
    have h16 : ¬ (m.size < 16) := by omega
    rw [hr] at HE2 hrs
    go_wp2_with fail
    refine (HT2.out _ (HM.out.below HB.out)).mono ?_; rintro e w2 ⟨rfl, hb2⟩
    have HB2 := Lib.hid (Bx.then_below HB.out hb2)
    clear hb2
    have HI : Hid (n ≠ 0 → (m.extract 16 (16 * (n + 1))).toList.isEmpty = false) := Lib.hid (fun h => full_of _ (by rw [hrs]; omega))
    by_cases hk0 : n = 0
    · subst hk0
      have hE := HE2.out
      rw [showB, ByteArray.append_empty] at hE
      have HTr := Lib.hid (fun (w : World) => trim_any ((⟨#[]⟩ : ByteArray) ++ X) w (by rw [ByteArray.size_append]; omega))
      rw [hE] at HTr
      have HQ := Lib.hid hE
      clear hE
      go_wp2_with fail
      rw [HQ.out]
      refine (HTr.out _).mono ?_; rintro e w3 ⟨rfl, rfl⟩
      go_wp2_with fail
      simp only [Exit.jump]
      go_ret2
      exact ⟨rfl, HB2.out⟩
    · have hne := HI.out hk0
      go_wp2_with fail
      go_step3
      obtain ⟨j, hj⟩ : ∃ j, n = j + 1 := ⟨n - 1, by omega⟩
      have HE3 : Hid (((⟨#[]⟩ : ByteArray) ++ X) ++ showB sec (j + 1) (m.extract 16 (16 * (n + 1))) (m.extract 0 16) = R) := by rw [← hj]; exact HE2
      have hs3 : (m.extract 16 (16 * (n + 1))).size = 16 * (j + 1) := by omega
      have hs4 : ((⟨#[]⟩ : ByteArray) ++ X).size + 16 * (j + 1) ≤ 128 := by rw [ByteArray.size_append, hX]; show 0 + 16 + _ ≤ _; omega
      exact ⟨rfl, HB2, j, _, _, _, _, _, _, _, _, _, _, _, _, _, _, _, _, _, _, _, _, _, _, _, _, _, _, _, _, _, _, _, _, _, _, _, _, rfl, hs3, by omega, hf, hs4, HE3⟩
  · rintro a' w1 ⟨HB, k, r, h, ah, u11, u12, u13, u14, u15, u16, u17, u18, u19, u20, u21, u22, u23, u24, u25, u26, u27, u28, u29, u30, u31, u32, u33, u34, u35, u36, u37, u38, u39, u40, u41, u42, u43, rfl, hr, hk8, hah, hsz, HE⟩
    have hf := first_size r k hr
    have hX := turnB_size (r.extract 0 16) sec ah hf
    have hrs := rest_size r k hr
    have HE2 : Hid ((h ++ turnB (r.extract 0 16) sec ah) ++ showB sec k (r.extract 16 r.size) (r.extract 0 16) = R) := Lib.hid (by rw [app_assoc]; exact HE.out)
    have HT2 := Lib.hid (fun (w : World) (hm : Home w) => HT.out w r ah (by omega) (by omega) hm)
    have hcat : ¬ (h.size + (turnB (r.extract 0 16) sec ah).size > 9223372036854775807) := by rw [hX]; omega
    generalize turnB (r.extract 0 16) sec ah = X at *
    have h16 : ¬ (r.size < 16) := by omega
    rw [hr] at HE2 hrs
    go_wp2_with fail
    refine (HT2.out _ (HM.out.below HB.out)).mono ?_; rintro e w2 ⟨rfl, hb2⟩
    have HB2 := Lib.hid (Bx.then_below HB.out hb2)
    clear hb2
    have HI : Hid (k ≠ 0 → (r.extract 16 (16 * (k + 1))).toList.isEmpty = false) := Lib.hid (fun h => full_of _ (by rw [hrs]; omega))
    by_cases hk0 : k = 0
    · subst hk0
      have hE := HE2.out
      rw [showB, ByteArray.append_empty] at hE
      have HTr := Lib.hid (fun (w : World) => trim_any (h ++ X) w (by rw [ByteArray.size_append]; omega))
      rw [hE] at HTr
      have HQ := Lib.hid hE
      clear hE
      go_wp2_with fail
      rw [HQ.out]
      refine (HTr.out _).mono ?_; rintro e w3 ⟨rfl, rfl⟩
      go_wp2_with fail
      simp only [Exit.jump]
      go_ret2
      exact ⟨rfl, HB2.out⟩
    · have hne := HI.out hk0
      go_wp2_with fail
      go_step3
      obtain ⟨j, hj⟩ : ∃ j, k = j + 1 := ⟨k - 1, by omega⟩
      have HE3 : Hid ((h ++ X) ++ showB sec (j + 1) (r.extract 16 (16 * (k + 1))) (r.extract 0 16) = R) := by rw [← hj]; exact HE2
      have hs3 : (r.extract 16 (16 * (k + 1))).size = 16 * (j + 1) := by omega
      have hs4 : (h ++ X).size + 16 * (j + 1) ≤ 128 := by rw [ByteArray.size_append, hX]; omega
      refine ⟨rfl, ⟨HB2, j, _, _, _, _, _, _, _, _, _, _, _, _, _, _, _, _, _, _, _, _, _, _, _, _, _, _, _, _, _, _, _, _, _, _, _, _, rfl, hs3, by omega, hf, hs4, HE3⟩, ?_⟩
      show (r.extract 16 (16 * (k + 1))).size < r.size
      omega

theorem show_any (m sec au : ByteArray) (w : World) (hp : m.size ≤ 4096) (hs : sec.size ≤ 4096) (hm : Home w) :
    Calls Tryd.prog 9 #[.string m, .string sec, .string au] w fun e w' => e = .returned (.tuple #[.string (shwS m sec au), .int .i64 (shwE m au)]) ∧ Below w.heap.size w w' := by
  by_cases h1 : au.size ≠ 16
  · have e : shwE m au = 1 := if_pos (Or.inl h1)
    rw [show shwS m sec au = ⟨#[]⟩ from if_neg (by rw [e]; decide), e]
    exact show_auth m sec au w h1
  · have h1' : au.size = 16 := by omega
    by_cases h2 : m.size = 0
    · have e : shwE m au = 1 := if_pos (Or.inr (Or.inl h2))
      rw [show shwS m sec au = ⟨#[]⟩ from if_neg (by rw [e]; decide), e]
      obtain rfl := none_of m h2
      exact show_none sec au w h1'
    · by_cases h3 : m.size % 16 ≠ 0
      · have e : shwE m au = 1 := if_pos (Or.inr (Or.inr h3))
        rw [show shwS m sec au = ⟨#[]⟩ from if_neg (by rw [e]; decide), e]
        exact show_part m sec au w hp h1' h3
      · by_cases h4 : 128 < m.size
        · have e : shwE m au = 4 := by unfold shwE; rw [if_neg (by omega), if_pos h4]
          rw [show shwS m sec au = ⟨#[]⟩ from if_neg (by rw [e]; decide), e]
          exact show_long m sec au w hp h1' (by omega) h4
        · have e : shwE m au = 0 := by unfold shwE; rw [if_neg (by omega), if_neg h4]
          rw [show shwS m sec au = trimB (showB sec (m.size / 16) m au) from if_pos e, e]
          obtain ⟨n, hn⟩ : ∃ n, m.size / 16 = n + 1 := ⟨m.size / 16 - 1, by omega⟩
          rw [hn]
          exact show_ok m sec au w n (by omega) (by omega) hs h1' hm

end Hd
end Go.Proofs.YtanfmghfmmhglaaDoor
