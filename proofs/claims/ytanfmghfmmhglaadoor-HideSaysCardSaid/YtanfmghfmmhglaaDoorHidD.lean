/-
  What the document's own Hide and Show answer: the same as hide's, and that they change nothing that was there.
-/
import Derived.Test.YtanfmghfmmhglaaDoorHidC
import Derived.Test.YtanfmghfmmhglaaDoorDigJ
import Derived.Test.YtanfmghfmmhglaaDoorOctRef
import Derived.Deep.RegionHeld3
namespace Go.Proofs.YtanfmghfmmhglaaDoor
open Go.RowKit
namespace Hd
open Oct Fr Dig

theorem ext_first (p : ByteArray) (m : Nat) (h : m + 16 ≤ p.size) : (p.extract m p.size).extract 0 16 = p.extract m (m + 16) := by
  apply ByteArray.ext
  simp [Array.extract_extract]
  congr 1
  omega

theorem ext_rest (p : ByteArray) (m : Nat) (h : m + 16 ≤ p.size) : (p.extract m p.size).extract 16 (p.extract m p.size).size = p.extract (m + 16) p.size := by
  apply ByteArray.ext
  simp [Array.extract_extract]
  congr 1
  omega

theorem hide_next (sec p out last : ByteArray) (m k : Nat) (h : p.size = m + 16 * (k + 1)) : out ++ hideB sec (k + 1) (p.extract m p.size) last = (out ++ turnB (p.extract m (m + 16)) sec last) ++ hideB sec k (p.extract (m + 16) p.size) (turnB (p.extract m (m + 16)) sec last) := by
  show out ++ (turnB ((p.extract m p.size).extract 0 16) sec last ++ hideB sec k ((p.extract m p.size).extract 16 (p.extract m p.size).size) (turnB ((p.extract m p.size).extract 0 16) sec last)) = _
  rw [ext_first p m (by omega), ext_rest p m (by omega), app_assoc]

theorem show_next (sec p out last : ByteArray) (m k : Nat) (h : p.size = m + 16 * (k + 1)) : out ++ showB sec (k + 1) (p.extract m p.size) last = (out ++ turnB (p.extract m (m + 16)) sec last) ++ showB sec k (p.extract (m + 16) p.size) (p.extract m (m + 16)) := by
  show out ++ (turnB ((p.extract m p.size).extract 0 16) sec last ++ showB sec k ((p.extract m p.size).extract 16 (p.extract m p.size).size) ((p.extract m p.size).extract 0 16)) = _
  rw [ext_first p m (by omega), ext_rest p m (by omega), app_assoc]

theorem blk_size (p : ByteArray) (m : Nat) (h : m + 16 ≤ p.size) : (p.extract m (m + 16)).size = 16 := by
  rw [ByteArray.size_extract]
  omega

theorem rsum_at (s : ByteArray) (w : World) (hs : s.size ≤ 1048576) : Calls Tryd.prog 18 #[.string s] w fun e w' => e = .returned (.string (sumB s)) ∧ Below w.heap.size w w' := rsum_any s w hs

theorem rturn_at (b sec ah : ByteArray) (w : World) (hb : b.size ≤ 4096) : Calls Tryd.prog 12 #[.string b, .string (sumB (sec ++ ah))] w fun e w' => e = .returned (.string (turnB b sec ah)) ∧ Below w.heap.size w w' :=
  rmask_any b (sumB (sec ++ ah)) w (by omega) (by rw [sumB_size]; omega)

set_option maxHeartbeats 1000000 in
theorem rhide_err (p sec au : ByteArray) (w : World) (he : hidE p au ≠ 0) :
    Calls Tryd.prog 8 #[.string p, .string sec, .string au] w fun e w' => e = .returned (.tuple #[.string ⟨#[]⟩, .int .i64 (hidE p au)]) ∧ Below w.heap.size w w' := by
  by_cases h1 : 128 < p.size
  · have e1 : hidE p au = 4 := if_pos h1
    rw [e1]
    clear e1 he
    go_enter Tryd.func8, Tryd.ntmps8
    go_wp2
    go_ret2
    exact ⟨rfl, Below.refl _ _⟩
  · have h2 : au.size ≠ 16 := by
      intro h2
      exact he (by unfold hidE; rw [if_neg h1, if_neg (by omega)])
    have e1 : hidE p au = 1 := by unfold hidE; rw [if_neg h1, if_pos h2]
    rw [e1]
    have h2' : ((au.size : Int) != 16) = true := by simp; omega
    clear e1 he
    go_enter Tryd.func8, Tryd.ntmps8
    go_wp2
    go_ret2
    exact ⟨rfl, Below.refl _ _⟩

set_option maxHeartbeats 2000000 in
theorem rhide_ok (p sec au : ByteArray) (w : World) (hp : p.size ≤ 128) (hs : sec.size ≤ 4096) (ha : au.size = 16) :
    Calls Tryd.prog 8 #[.string p, .string sec, .string au] w fun e w' => e = .returned (.tuple #[.string (hideB sec (hidN p) (hidP p) au), .int .i64 0]) ∧ Below w.heap.size w w' := by
  have hN := hidN_one p
  have hP := hidP_size p hp
  have HBl : Hid (∀ w, Calls Tryd.prog 14 #[.int .i64 (p.size : Int)] w fun e w' => e = .returned (.int .i64 (hidN p : Int)) ∧ w = w') := Lib.hid (fun w => by
    have h := rblocks_any p.size w
    rwa [show blkN p.size = (hidN p : Int) by unfold hidN; have := blkN_low p.size; omega] at h)
  have HPd : Hid (∀ w, Calls Tryd.prog 17 #[.string p, .int .i64 (16 * (hidN p : Int))] w fun e w' => e = .returned (.string (hidP p)) ∧ Below w.heap.size w w') := Lib.hid (fun w => by
    have h := Oct.rpad_any p (hidN p * 16 : Nat) w (by omega)
    rw [show ((hidN p * 16 : Nat) : Int) = 16 * (hidN p : Int) by omega] at h
    unfold hidP
    rw [show ((hidN p * 16 : Nat) : Int) = 16 * (hidN p : Int) by omega]
    exact h)
  obtain ⟨R, hR⟩ : ∃ R, hideB sec (hidN p) (hidP p) au = R := ⟨_, rfl⟩
  rw [hR]
  have HR := Lib.hid hR
  clear hR
  generalize hidP p = P at *
  generalize hidN p = n at *
  have q2 : ((au.size : Int) != 16) = false := by simp; omega
  have q3 : decide (128 < (p.size : Int)) = false := by simp; omega
  go_enter Tryd.func8, Tryd.ntmps8
  go_wp2_with fail
  refine (HBl.out _).mono ?_; rintro e w0 ⟨rfl, rfl⟩
  go_wp2_with fail
  refine (HPd.out _).mono ?_; rintro e w1 ⟨rfl, hb1⟩
  have HB1 := Lib.hid hb1
  clear hb1
  go_wp2_with fail
  go_loopw [9, 10, 11] (fun o l i wr => ∃ (k mm : Nat) (out last : ByteArray), o = .string out ∧ l = .string last ∧ i = .int .i64 (mm : Int) ∧ P.size = mm + 16 * k ∧ last.size = 16 ∧ out.size = mm ∧ Hid (out ++ hideB sec k (P.extract mm P.size) last = R) ∧ Hid (Below w.heap.size w wr)) (fun _ _ i _ => P.size - (intOf i).toNat)
  case atStart => exact ⟨n, 0, ⟨#[]⟩, au, rfl, rfl, rfl, by omega, ha, rfl, Lib.hid (by rw [ByteArray.extract_zero_size, HR.out]; exact ByteArray.empty_append), HB1⟩
  case round =>
    obtain ⟨k, mm, out, last, rfl, rfl, rfl, hm, hl, ho, HE, HB⟩ := hrel
    by_cases hlt : mm < P.size
    · obtain ⟨j, rfl⟩ : ∃ j, k = j + 1 := ⟨k - 1, by omega⟩
      have hin : mm + 16 ≤ P.size := by omega
      have HE2 : Hid ((out ++ turnB (P.extract mm (mm + 16)) sec last) ++ hideB sec j (P.extract (mm + 16) P.size) (turnB (P.extract mm (mm + 16)) sec last) = R) := Lib.hid (by rw [← hide_next sec P out last mm j (by omega)]; exact HE.out)
      have hbs := blk_size P mm hin
      have hX := turnB_size (P.extract mm (mm + 16)) sec last hbs
      have HS := Lib.hid (fun (w : World) => rsum_at (sec ++ last) w (by rw [ByteArray.size_append]; omega))
      have HK := Lib.hid (fun (w : World) => rturn_at (P.extract mm (mm + 16)) sec last w (by omega))
      have hcat : ¬ (sec.size + last.size > 9223372036854775807) := by omega
      have hcat2 : ¬ (out.size + (turnB (P.extract mm (mm + 16)) sec last).size > 9223372036854775807) := by rw [hX]; omega
      generalize turnB (P.extract mm (mm + 16)) sec last = X at *
      generalize sumB (sec ++ last) = S at *
      have hc3 : ¬ (sec.size + 16 > 9223372036854775807) := by omega
      have hc4 : ¬ (mm + 16 > 9223372036854775807) := by omega
      have i1 : (0 : Int) ≤ (mm : Int) := by omega
      have i2 : (mm : Int) ≤ (mm : Int) + 16 := by omega
      have i3 : (mm : Int) + 16 ≤ (P.size : Int) := by omega
      have i5 : (mm : Int) + 16 ≤ 16 * (n : Int) := by omega
      have i6 : ((mm : Int) + 16).toNat = mm + 16 := by omega
      have i4 : IntKind.i64.wrap ((mm : Int) + 16) = (mm : Int) + 16 := by rw [IntKind.wrap_i64]; omega
      have HMM := Lib.hid hm
      clear hm
      go_wp2_with fail
      go_region_held3 (fun _ => True) (trivial)
        (first | (go_at_call 18; with_reducible refine (HS.out _).mono ?_; rintro e w2 ⟨rfl, hb2⟩) | (go_at_call 12; with_reducible refine (HK.out _).mono ?_; rintro e w3 ⟨rfl, hb3⟩))
      have HB3 := Lib.hid (Bx.then_below (Bx.bel_drew HB.out hb2) hb3)
      clear hb2 hb3 HB HE
      go_wp2_with fail
      refine ⟨⟨j, mm + 16, out ++ X, _, rfl, rfl, by go_num, by have := HMM.out; omega, hX, by rw [ByteArray.size_append]; omega, HE2, HB3⟩, ?_⟩
      simp [intOf]
      omega
    · obtain rfl : k = 0 := by omega
      have hE := HE.out
      rw [hideB, ByteArray.append_empty] at hE
      subst hE
      go_wp2_with fail
      go_ret2
      exact ⟨rfl, HB.out⟩

theorem rhide_any (p sec au : ByteArray) (w : World) (hs : sec.size ≤ 4096) :
    Calls Tryd.prog 8 #[.string p, .string sec, .string au] w fun e w' => e = .returned (.tuple #[.string (hidS p sec au), .int .i64 (hidE p au)]) ∧ Below w.heap.size w w' := by
  by_cases he : hidE p au = 0
  · have h1 : p.size ≤ 128 ∧ au.size = 16 := by
      unfold hidE at he
      split at he
      · cases he
      · split at he
        · cases he
        · omega
    rw [he, show hidS p sec au = _ from if_pos he]
    exact rhide_ok p sec au w h1.1 hs h1.2
  · rw [show hidS p sec au = _ from if_neg he]
    exact rhide_err p sec au w he

set_option maxHeartbeats 1000000 in
theorem rshow_auth (m sec au : ByteArray) (w : World) (h1 : au.size ≠ 16) :
    Calls Tryd.prog 10 #[.string m, .string sec, .string au] w fun e w' => e = .returned (.tuple #[.string ⟨#[]⟩, .int .i64 1]) ∧ Below w.heap.size w w' := by
  have q1 : ((au.size : Int) != 16) = true := by simp; omega
  go_enter Tryd.func10, Tryd.ntmps10
  go_wp2
  go_ret2
  exact ⟨rfl, Below.refl _ _⟩

set_option maxHeartbeats 1000000 in
theorem rshow_part (m sec au : ByteArray) (w : World) (h0 : m.size ≤ 4096) (h1 : au.size = 16) (h3 : m.size % 16 ≠ 0) :
    Calls Tryd.prog 10 #[.string m, .string sec, .string au] w fun e w' => e = .returned (.tuple #[.string ⟨#[]⟩, .int .i64 1]) ∧ Below w.heap.size w w' := by
  have q1 : ((au.size : Int) != 16) = false := by simp; omega
  have q2 : ((m.size : Int) == 0) = false := beq_eq_false_iff_ne.2 (by omega)
  have q3 : (((m.size : Int) % 16) != 0) = true := by simp; omega
  go_enter Tryd.func10, Tryd.ntmps10
  go_wp2
  go_ret2
  exact ⟨rfl, Below.refl _ _⟩

set_option maxHeartbeats 1000000 in
theorem rshow_long (m sec au : ByteArray) (w : World) (h0 : m.size ≤ 4096) (h1 : au.size = 16) (h2 : m.size % 16 = 0) (h3 : 128 < m.size) :
    Calls Tryd.prog 10 #[.string m, .string sec, .string au] w fun e w' => e = .returned (.tuple #[.string ⟨#[]⟩, .int .i64 4]) ∧ Below w.heap.size w w' := by
  have q1 : ((au.size : Int) != 16) = false := by simp; omega
  have q2 : ((m.size : Int) == 0) = false := beq_eq_false_iff_ne.2 (by omega)
  have q3 : (((m.size : Int) % 16) != 0) = false := by simp; omega
  go_enter Tryd.func10, Tryd.ntmps10
  go_wp2
  go_ret2
  exact ⟨rfl, Below.refl _ _⟩

set_option maxHeartbeats 1000000 in
theorem rshow_none (m sec au : ByteArray) (w : World) (h1 : au.size = 16) (h2 : m.size = 0) :
    Calls Tryd.prog 10 #[.string m, .string sec, .string au] w fun e w' => e = .returned (.tuple #[.string ⟨#[]⟩, .int .i64 1]) ∧ Below w.heap.size w w' := by
  have q1 : ((au.size : Int) != 16) = false := by simp; omega
  go_enter Tryd.func10, Tryd.ntmps10
  go_wp2
  go_ret2
  exact ⟨rfl, Below.refl _ _⟩

set_option maxHeartbeats 2000000 in
theorem rshow_ok (m sec au : ByteArray) (w : World) (n : Nat) (hp : m.size ≤ 128) (hn : m.size = 16 * (n + 1)) (hs : sec.size ≤ 4096) (ha : au.size = 16) :
    Calls Tryd.prog 10 #[.string m, .string sec, .string au] w fun e w' => e = .returned (.tuple #[.string (trimB (showB sec (n + 1) m au)), .int .i64 0]) ∧ Below w.heap.size w w' := by
  obtain ⟨R, hR⟩ : ∃ R, showB sec (n + 1) m au = R := ⟨_, rfl⟩
  rw [hR]
  have HR := Lib.hid hR
  clear hR
  have HN := Lib.hid hn
  have q1 : ((au.size : Int) != 16) = false := by simp; omega
  have q2 : ((m.size : Int) == 0) = false := beq_eq_false_iff_ne.2 (by omega)
  have q3 : (((m.size : Int) % 16) != 0) = false := by simp; omega
  clear hn
  have q4 : decide (128 < (m.size : Int)) = false := by simp; omega
  go_enter Tryd.func10, Tryd.ntmps10
  go_wp2_with fail
  go_loopw [8, 9, 10] (fun o l i wr => ∃ (k mm : Nat) (out last : ByteArray), o = .string out ∧ l = .string last ∧ i = .int .i64 (mm : Int) ∧ m.size = mm + 16 * k ∧ last.size = 16 ∧ out.size = mm ∧ Hid (out ++ showB sec k (m.extract mm m.size) last = R) ∧ Hid (Below w.heap.size w wr)) (fun _ _ i _ => m.size - (intOf i).toNat)
  case atStart => exact ⟨n + 1, 0, ⟨#[]⟩, au, rfl, rfl, rfl, by have := HN.out; omega, ha, rfl, Lib.hid (by rw [ByteArray.extract_zero_size, HR.out]; exact ByteArray.empty_append), Lib.hid (Below.refl _ _)⟩
  case round =>
    obtain ⟨k, mm, out, last, rfl, rfl, rfl, hm, hl, ho, HE, HB⟩ := hrel
    by_cases hlt : mm < m.size
    · obtain ⟨j, rfl⟩ : ∃ j, k = j + 1 := ⟨k - 1, by omega⟩
      have hin : mm + 16 ≤ m.size := by omega
      have HE2 : Hid ((out ++ turnB (m.extract mm (mm + 16)) sec last) ++ showB sec j (m.extract (mm + 16) m.size) (m.extract mm (mm + 16)) = R) := Lib.hid (by rw [← show_next sec m out last mm j (by omega)]; exact HE.out)
      have hbs := blk_size m mm hin
      have hX := turnB_size (m.extract mm (mm + 16)) sec last hbs
      have HS := Lib.hid (fun (w : World) => rsum_at (sec ++ last) w (by rw [ByteArray.size_append]; omega))
      have HK := Lib.hid (fun (w : World) => rturn_at (m.extract mm (mm + 16)) sec last w (by omega))
      have hcat : ¬ (sec.size + last.size > 9223372036854775807) := by omega
      have hcat2 : ¬ (out.size + (turnB (m.extract mm (mm + 16)) sec last).size > 9223372036854775807) := by rw [hX]; omega
      generalize turnB (m.extract mm (mm + 16)) sec last = X at *
      generalize sumB (sec ++ last) = S at *
      have hc3 : ¬ (sec.size + 16 > 9223372036854775807) := by omega
      have hc4 : ¬ (mm + 16 > 9223372036854775807) := by omega
      have i1 : (0 : Int) ≤ (mm : Int) := by omega
      have i2 : (mm : Int) ≤ (mm : Int) + 16 := by omega
      have i3 : (mm : Int) + 16 ≤ (m.size : Int) := by omega
      have i5 := i3
      have i6 : ((mm : Int) + 16).toNat = mm + 16 := by omega
      have i4 : IntKind.i64.wrap ((mm : Int) + 16) = (mm : Int) + 16 := by rw [IntKind.wrap_i64]; omega
      have HMM := Lib.hid hm
      clear hm
      go_wp2_with fail
      go_region_held3 (fun _ => True) (trivial)
        (first | (go_at_call 18; with_reducible refine (HS.out _).mono ?_; rintro e w2 ⟨rfl, hb2⟩) | (go_at_call 12; with_reducible refine (HK.out _).mono ?_; rintro e w3 ⟨rfl, hb3⟩))
      have HB3 := Lib.hid (Bx.then_below (Bx.bel_drew HB.out hb2) hb3)
      clear hb2 hb3 HB HE
      go_wp2_with fail
      refine ⟨⟨j, mm + 16, out ++ X, _, rfl, rfl, by go_num, by have := HMM.out; omega, hbs, by rw [ByteArray.size_append]; omega, HE2, HB3⟩, ?_⟩
      simp [intOf]
      omega
    · obtain rfl : k = 0 := by omega
      have hE := HE.out
      rw [showB, ByteArray.append_empty] at hE
      have hR' := hE
      have hzO : out.size ≤ 128 := by omega
      clear HE hE
      go_wp2_with fail
      go_loopw [8] (fun o wr => ∃ t : ByteArray, o = .string t ∧ t.size ≤ 128 ∧ Hid (trimB t = trimB R) ∧ Hid (Below w.heap.size w wr)) (fun o _ => Lib.strSize o)
      case atStart => exact ⟨out, rfl, hzO, Lib.hid (by rw [hR']), HB⟩
      case round =>
        obtain ⟨t, rfl, hzt, HT, HB4⟩ := hrel
        by_cases h0 : t.size = 0
        · have q0 : decide (0 < (t.size : Int)) = false := decide_eq_false (by omega)
          have HS := Lib.hid (trimB_stop t (fun h => absurd h (by omega)))
          go_wp2_with fail
          go_ret2
          exact ⟨by rw [← HT.out, HS.out]; rfl, HB4.out⟩
        · obtain ⟨q, hq⟩ : ∃ q, t.size = q + 1 := ⟨t.size - 1, by omega⟩
          by_cases hz : t[q]'(by omega) = 0
          · have HS : Hid (trimB (t.extract 0 q) = trimB t) := Lib.hid (by
              have h := trimB_step t (by omega) (by simpa [hq] using hz)
              rwa [show t.size - 1 = q by omega] at h)
            go_wp2_with fail
            refine ⟨⟨_, rfl, by rw [ByteArray.size_extract]; omega, Lib.hid (by rw [HS.out, HT.out]), HB4⟩, ?_⟩
            show (t.extract 0 q).size < t.size
            rw [ByteArray.size_extract]
            omega
          · have HS := Lib.hid (trimB_stop t (fun h => by simpa [hq] using hz))
            have hz2 : ((t[q].toNat : Int) == 0) = false := beq_eq_false_iff_ne.2 (fun h => hz (UInt8.toNat_inj.1 (by simpa using h)))
            go_wp2_with fail
            go_ret2
            exact ⟨by rw [← HT.out, HS.out]; rfl, HB4.out⟩

theorem rshow_any (m sec au : ByteArray) (w : World) (hp : m.size ≤ 4096) (hs : sec.size ≤ 4096) :
    Calls Tryd.prog 10 #[.string m, .string sec, .string au] w fun e w' => e = .returned (.tuple #[.string (shwS m sec au), .int .i64 (shwE m au)]) ∧ Below w.heap.size w w' := by
  by_cases h1 : au.size ≠ 16
  · have e : shwE m au = 1 := if_pos (Or.inl h1)
    rw [show shwS m sec au = ⟨#[]⟩ from if_neg (by rw [e]; decide), e]
    exact rshow_auth m sec au w h1
  · have h1' : au.size = 16 := by omega
    by_cases h2 : m.size = 0
    · have e : shwE m au = 1 := if_pos (Or.inr (Or.inl h2))
      rw [show shwS m sec au = ⟨#[]⟩ from if_neg (by rw [e]; decide), e]
      exact rshow_none m sec au w h1' h2
    · by_cases h3 : m.size % 16 ≠ 0
      · have e : shwE m au = 1 := if_pos (Or.inr (Or.inr h3))
        rw [show shwS m sec au = ⟨#[]⟩ from if_neg (by rw [e]; decide), e]
        exact rshow_part m sec au w hp h1' h3
      · by_cases h4 : 128 < m.size
        · have e : shwE m au = 4 := by unfold shwE; rw [if_neg (by omega), if_pos h4]
          rw [show shwS m sec au = ⟨#[]⟩ from if_neg (by rw [e]; decide), e]
          exact rshow_long m sec au w hp h1' (by omega) h4
        · have e : shwE m au = 0 := by unfold shwE; rw [if_neg (by omega), if_neg h4]
          rw [show shwS m sec au = trimB (showB sec (m.size / 16) m au) from if_pos e, e]
          obtain ⟨n, hn⟩ : ∃ n, m.size / 16 = n + 1 := ⟨m.size / 16 - 1, by omega⟩
          rw [hn]
          exact rshow_ok m sec au w n (by omega) (by omega) hs h1'

end Hd
end Go.Proofs.YtanfmghfmmhglaaDoor
