/-
  What the document's ParseRanges answers, for every text.
-/
import Derived.Test.YtkflphnldnannaaPorG
namespace Go.Proofs.Ytkflphnldnannaa
open Go.RowKit
namespace Por
open Lib (run_next_any_at run_next_end_at iterAt_heap iterAt_size below_iterAt)

theorem rpR_facts (s : ByteArray) : (s.data.toList = [110, 111, 110, 101] → valR s = 0 ∧ errR s = 0) ∧ (¬ s.data.toList = [110, 111, 110, 101] → (runM (runes (s ++ (⟨#[44]⟩ : ByteArray)) 0) ⟨0, 0, 0, 0⟩ = none → valR s = 0 ∧ errR s = 3) ∧
    ∀ q, runM (runes (s ++ (⟨#[44]⟩ : ByteArray)) 0) ⟨0, 0, 0, 0⟩ = some q → (rangesB q.m = s → valR s = q.m ∧ errR s = 0) ∧ (¬ rangesB q.m = s → valR s = 0 ∧ errR s = 3)) := by
  have h := rpR_is s
  unfold rpR at h
  unfold valR errR
  refine ⟨fun h0 => ?_, fun h0 => ⟨fun h1 => ?_, fun q h1 => ⟨fun h2 => ?_, fun h2 => ?_⟩⟩⟩
  · rw [if_pos h0] at h
    rw [← h]
    exact ⟨rfl, rfl⟩
  · rw [if_neg h0, h1] at h
    rw [← h]
    exact ⟨rfl, rfl⟩
  · rw [if_neg h0, h1] at h
    simp only [if_pos ((bytes_eq s _).1 h2)] at h
    rw [← h]
    exact ⟨rfl, rfl⟩
  · rw [if_neg h0, h1] at h
    simp only [if_neg (fun h3 => h2 ((bytes_eq s _).2 h3))] at h
    rw [← h]
    exact ⟨rfl, rfl⟩

theorem runM_none (c : Int) (cs : List Int) (q : Ms) (h : stepM q c = none) : runM (c :: cs) q = none := by simp only [runM, h]
theorem runM_some (c : Int) (cs : List Int) (q q' : Ms) (h : stepM q c = some q') : runM (c :: cs) q = runM cs q' := by simp only [runM, h]

theorem stepM_a (m : Nat) (fro to st c : Int) (h : 48 ≤ c ∧ c ≤ 55) (h1 : st = 0) : stepM ⟨m, fro, to, st⟩ c = some ⟨m, c - 48, c - 48, 1⟩ := by unfold stepM; rw [if_pos ⟨h, h1⟩]
theorem stepM_b (m : Nat) (fro to st c : Int) (h : c = 45) (h1 : st = 1) : stepM ⟨m, fro, to, st⟩ c = some ⟨m, fro, to, 2⟩ := by unfold stepM; rw [if_neg (by simp only; omega), if_pos ⟨h, h1⟩]
theorem stepM_c (m : Nat) (fro to st c : Int) (h : 48 ≤ c ∧ c ≤ 55) (h1 : st = 2) : stepM ⟨m, fro, to, st⟩ c = some ⟨m, fro, c - 48, 3⟩ := by unfold stepM; rw [if_neg (by simp only; omega), if_neg (by simp only; omega), if_pos ⟨h, h1⟩]
theorem stepM_d (m : Nat) (fro to st c : Int) (h : c = 44) (h1 : st = 1 ∨ st = 3) : stepM ⟨m, fro, to, st⟩ c = some ⟨fillT 8 m fro to, fro, to, 0⟩ := by unfold stepM; rw [if_neg (by simp only; omega), if_neg (by simp only; omega), if_neg (by simp only; omega), if_pos ⟨h, h1⟩]
theorem stepM_e (m : Nat) (fro to st c : Int) (h : ¬ ((48 ≤ c ∧ c ≤ 55) ∧ (st = 0 ∨ st = 2))) (h1 : ¬ (c = 45 ∧ st = 1)) (h2 : ¬ (c = 44 ∧ (st = 1 ∨ st = 3))) : stepM ⟨m, fro, to, st⟩ c = none := by
  unfold stepM
  rw [if_neg (by simp only; omega), if_neg (by simp only; omega), if_neg (by simp only; omega), if_neg (by simp only; omega)]

theorem fillT_on (f m : Nat) (p t : Int) (h : p ≤ t) : fillT (f + 1) m p t = fillT f (withN m p) (p + 1) t := by simp only [fillT, if_pos h]

set_option maxRecDepth 100000 in
set_option maxHeartbeats 4000000 in
theorem rpranges_any (s : ByteArray) (w : World) (hs : s.size ≤ 4611686018427387904) :
    Calls Try.prog 23 #[.string s] w fun e w' => e = .returned (.tuple #[.int .i64 (valR s), .int .i64 (errR s)]) ∧ Below w.heap.size w w' := by
  obtain ⟨HY, HN⟩ := rpR_facts s
  obtain ⟨R, hR⟩ : ∃ R, runM (runes (s ++ (⟨#[44]⟩ : ByteArray)) 0) ⟨0, 0, 0, 0⟩ = R := ⟨_, rfl⟩
  obtain ⟨V, hV⟩ : ∃ V, valR s = V := ⟨_, rfl⟩
  obtain ⟨E, hE⟩ : ∃ E, errR s = E := ⟨_, rfl⟩
  rw [hV, hE] at HY
  rw [hR, hV, hE] at HN
  rw [hV, hE]
  have HR := Lib.hid hR
  clear hR hV hE
  rw [← ByteArray.toList_eq] at HY HN
  by_cases hnn : s.toList = [110, 111, 110, 101]
  · have HV := Lib.hid (HY hnn)
    have e1 : (s.toList == [110, 111, 110, 101]) = true := by simpa using hnn
    clear HY HN hnn
    go_enter Try.func23, Try.ntmps23
    go_wp2
    go_ret2
    exact ⟨by rw [HV.out.1, HV.out.2]; rfl, Below.refl _ _⟩
  · have HN := Lib.hid (HN hnn)
    have e1 : (s.toList == [110, 111, 110, 101]) = false := by simpa using hnn
    have z1 : ¬ (s.size + 1 > 9223372036854775807) := by omega
    clear HY hnn
    go_enter Try.func23, Try.ntmps23
    go_wp2
    clear z1
    generalize s ++ (⟨#[44]⟩ : ByteArray) = T at *
    go_loopw [4, 5, 6, 7] (fun v a b c wr => ∃ (pos m : Nat) (fro to st : Int), Aside (wr.heap[w.heap.size]? = some (.stringIter T pos)) ∧ Below w.heap.size w wr ∧ v = .int .i64 m ∧ a = .int .i64 fro ∧ b = .int .i64 to ∧ c = .int .i64 st ∧ Aside (okM ⟨m, fro, to, st⟩) ∧ Aside (runM (runes T pos) ⟨m, fro, to, st⟩ = R)) (fun _ _ _ _ wr => T.size - wr.iterPos w.heap.size)
    case atStart => exact ⟨0, 0, 0, 0, 0, World.iter_heap _ _ _, iter_below _ _ _, rfl, rfl, rfl, rfl, okM_zero, HR.out⟩
    case round =>
      obtain ⟨pos, m, fro, to, st, HK, hb, rfl, rfl, rfl, rfl, HM, HO⟩ := hrel
      have HP := Lib.hid (iterPos_is HK.out)
      obtain ⟨hm, hf, ht, hst⟩ := HM.out
      simp only at hm hf ht hst
      by_cases hlt : pos < T.size
      · have hnx : ∀ ty, (Instr.next (.pointer (some ⟨w.heap.size, 0, none⟩)) true ty).run Try.prog wr = _ := fun ty => run_next_any_at wr w.heap.size T pos ty HK.out hlt
        have hO := HO.out
        rw [runes_next T pos hlt] at hO
        have hwd := width_pos T pos hlt
        have hr2 : ((Utf8.decode T pos).1 : Int) ≤ 2147483647 := by have := decode_le T pos; omega
        have hr0 : 0 ≤ ((Utf8.decode T pos).1 : Int) := by omega
        obtain ⟨n, hn⟩ : ∃ n, pos + (Utf8.decode T pos).2 = n := ⟨_, rfl⟩
        rw [hn] at hO hnx
        have hpn : pos < n := by omega
        clear hwd hn
        generalize ((Utf8.decode T pos).1 : Int) = r at *
        obtain ⟨hb1, hk1⟩ := iter_step hb HK.out n
        have HK1 := Lib.hid hk1
        have HB1 := Lib.hid hb1
        clear hk1 HO HK
        rcases (show r = 45 ∨ r = 44 ∨ (48 ≤ r ∧ r ≤ 55) ∨ (r < 48 ∧ ¬ r = 45 ∧ ¬ r = 44) ∨ 55 < r by omega) with hc | hc | hc | hc | hc
        · subst hc
          rcases (show st = 0 ∨ st = 1 ∨ st = 2 ∨ st = 3 by omega) with rfl | rfl | rfl | rfl
          · rw [runM_none _ _ _ (stepM_e _ _ _ _ _ (by omega) (by omega) (by omega))] at hO
            have HV := Lib.hid (HN.out.1 hO.symm)
            clear hO HN HR HM hst
            go_wp2
            go_ret2
            exact ⟨by rw [HV.out.1, HV.out.2]; rfl, HB1.out⟩
          · have hs2 := stepM_b m fro to 1 45 rfl rfl
            rw [runM_some _ _ _ _ hs2] at hO
            have HM2 := Lib.hid (okM_step _ _ _ HM.out hs2)
            have HO2 := Lib.hid hO
            clear hO hs2 HM hst hm hf ht
            go_wp2
            go_roundw
            case rel => exact ⟨n, m, fro, to, 2, HK1.out, HB1.out, rfl, rfl, rfl, rfl, HM2.out, HO2.out⟩
            case measure => rw [iterPos_is HK1.out, HP.out]; omega
          · rw [runM_none _ _ _ (stepM_e _ _ _ _ _ (by omega) (by omega) (by omega))] at hO
            have HV := Lib.hid (HN.out.1 hO.symm)
            clear hO HN HR HM hst
            go_wp2
            go_ret2
            exact ⟨by rw [HV.out.1, HV.out.2]; rfl, HB1.out⟩
          · rw [runM_none _ _ _ (stepM_e _ _ _ _ _ (by omega) (by omega) (by omega))] at hO
            have HV := Lib.hid (HN.out.1 hO.symm)
            clear hO HN HR HM hst
            go_wp2
            go_ret2
            exact ⟨by rw [HV.out.1, HV.out.2]; rfl, HB1.out⟩
        · subst hc
          rcases (show st = 0 ∨ st = 1 ∨ st = 2 ∨ st = 3 by omega) with rfl | rfl | rfl | rfl
          · rw [runM_none _ _ _ (stepM_e _ _ _ _ _ (by omega) (by omega) (by omega))] at hO
            have HV := Lib.hid (HN.out.1 hO.symm)
            clear hO HN HR HM hst
            go_wp2
            go_ret2
            exact ⟨by rw [HV.out.1, HV.out.2]; rfl, HB1.out⟩
          · have hs2 := stepM_d m fro to 1 44 rfl (Or.inl rfl)
            rw [runM_some _ _ _ _ hs2] at hO
            have HM2 := Lib.hid (okM_step _ _ _ HM.out hs2)
            obtain ⟨M, hM⟩ : ∃ M, fillT 8 m fro to = M := ⟨_, rfl⟩
            rw [hM] at hO HM2
            have HO2 := Lib.hid hO
            have HF := Lib.hid hM
            obtain ⟨hf1, hf2⟩ := hf
            obtain ⟨ht1, ht2⟩ := ht
            clear hO hs2 hM HM hst
            go_wp2
            go_loop [4, 10] (fun v i => ∃ (x f : Nat) (p : Int), Aside (p ≤ to → to - p < f) ∧ (0 ≤ p ∧ p ≤ 8) ∧ i = .int .i64 p ∧ v = .int .i64 x ∧ x < 256 ∧ Aside (fillT f x p to = M)) (fun _ i => (9 - intOf i).toNat)
            case atStart => exact ⟨m, 8, fro, (by unfold Aside; omega), by omega, rfl, rfl, hm, HF.out⟩
            case round =>
              obtain ⟨x, f, p, HX, hp, rfl, rfl, hx, HQ⟩ := hrel
              have hX : p ≤ to → to - p < f := HX.out
              have hQ := HQ.out
              by_cases hpt : p ≤ to
              · obtain ⟨g, rfl⟩ : ∃ g, f = g + 1 := ⟨f - 1, by omega⟩
                rw [fillT_on _ _ _ _ hpt] at hQ
                have hW := Lib.hid (rwith_nat x p hx)
                have hwl := withN_lt x p hx
                generalize withN x p = x1 at *
                have HQ2 := Lib.hid hQ
                have HX2 := Lib.hid (show p + 1 ≤ to → to - (p + 1) < g by omega)
                obtain ⟨hp1, hp2⟩ := hp
                clear hQ HQ hX HX
                go_wp2_with fail
                refine (hW.out _).mono ?_; rintro e w' ⟨rfl, rfl⟩
                go_wp2
                go_round
                case rel => exact ⟨x1, g, p + 1, HX2.out, by omega, rfl, rfl, hwl, HQ2.out⟩
                case measure => simp [intOf]; omega
              · rw [fillT_end _ _ _ _ hpt] at hQ
                subst hQ
                clear HQ hX HX
                go_wp2
                go_roundw
                case rel => exact ⟨n, x, fro, to, 0, HK1.out, HB1.out, rfl, rfl, rfl, rfl, HM2.out, HO2.out⟩
                case measure => rw [iterPos_is HK1.out, HP.out]; omega
          · rw [runM_none _ _ _ (stepM_e _ _ _ _ _ (by omega) (by omega) (by omega))] at hO
            have HV := Lib.hid (HN.out.1 hO.symm)
            clear hO HN HR HM hst
            go_wp2
            go_ret2
            exact ⟨by rw [HV.out.1, HV.out.2]; rfl, HB1.out⟩
          · have hs2 := stepM_d m fro to 3 44 rfl (Or.inr rfl)
            rw [runM_some _ _ _ _ hs2] at hO
            have HM2 := Lib.hid (okM_step _ _ _ HM.out hs2)
            obtain ⟨M, hM⟩ : ∃ M, fillT 8 m fro to = M := ⟨_, rfl⟩
            rw [hM] at hO HM2
            have HO2 := Lib.hid hO
            have HF := Lib.hid hM
            obtain ⟨hf1, hf2⟩ := hf
            obtain ⟨ht1, ht2⟩ := ht
            clear hO hs2 hM HM hst
            go_wp2
            go_loop [4, 10] (fun v i => ∃ (x f : Nat) (p : Int), Aside (p ≤ to → to - p < f) ∧ (0 ≤ p ∧ p ≤ 8) ∧ i = .int .i64 p ∧ v = .int .i64 x ∧ x < 256 ∧ Aside (fillT f x p to = M)) (fun _ i => (9 - intOf i).toNat)
            case atStart => exact ⟨m, 8, fro, (by unfold Aside; omega), by omega, rfl, rfl, hm, HF.out⟩
            case round =>
              obtain ⟨x, f, p, HX, hp, rfl, rfl, hx, HQ⟩ := hrel
              have hX : p ≤ to → to - p < f := HX.out
              have hQ := HQ.out
              by_cases hpt : p ≤ to
              · obtain ⟨g, rfl⟩ : ∃ g, f = g + 1 := ⟨f - 1, by omega⟩
                rw [fillT_on _ _ _ _ hpt] at hQ
                have hW := Lib.hid (rwith_nat x p hx)
                have hwl := withN_lt x p hx
                generalize withN x p = x1 at *
                have HQ2 := Lib.hid hQ
                have HX2 := Lib.hid (show p + 1 ≤ to → to - (p + 1) < g by omega)
                obtain ⟨hp1, hp2⟩ := hp
                clear hQ HQ hX HX
                go_wp2_with fail
                refine (hW.out _).mono ?_; rintro e w' ⟨rfl, rfl⟩
                go_wp2
                go_round
                case rel => exact ⟨x1, g, p + 1, HX2.out, by omega, rfl, rfl, hwl, HQ2.out⟩
                case measure => simp [intOf]; omega
              · rw [fillT_end _ _ _ _ hpt] at hQ
                subst hQ
                clear HQ hX HX
                go_wp2
                go_roundw
                case rel => exact ⟨n, x, fro, to, 0, HK1.out, HB1.out, rfl, rfl, rfl, rfl, HM2.out, HO2.out⟩
                case measure => rw [iterPos_is HK1.out, HP.out]; omega
        · obtain ⟨hc1, hc2⟩ := hc
          have e45 : (r == 45) = false := beq_eq_false_iff_ne.2 (by omega)
          have e44 : (r == 44) = false := beq_eq_false_iff_ne.2 (by omega)
          have w1 : IntKind.i32.wrap (r - 48) = r - 48 := IntWalk.i32_in _ (by omega)
          have w2 : IntKind.i64.wrap (r - 48) = r - 48 := IntWalk.i64_in _ (by omega)
          rcases (show st = 0 ∨ st = 1 ∨ st = 2 ∨ st = 3 by omega) with rfl | rfl | rfl | rfl
          · have hs2 := stepM_a m fro to 0 r ⟨hc1, hc2⟩ rfl
            rw [runM_some _ _ _ _ hs2] at hO
            have HM2 := Lib.hid (okM_step _ _ _ HM.out hs2)
            have HO2 := Lib.hid hO
            clear hO hs2 HM hst hm hf ht
            go_wp2
            go_roundw
            case rel => exact ⟨n, m, r - 48, r - 48, 1, HK1.out, HB1.out, rfl, rfl, rfl, rfl, HM2.out, HO2.out⟩
            case measure => rw [iterPos_is HK1.out, HP.out]; omega
          · rw [runM_none _ _ _ (stepM_e _ _ _ _ _ (by omega) (by omega) (by omega))] at hO
            have HV := Lib.hid (HN.out.1 hO.symm)
            clear hO HN HR HM hst
            go_wp2
            go_ret2
            exact ⟨by rw [HV.out.1, HV.out.2]; rfl, HB1.out⟩
          · have hs2 := stepM_c m fro to 2 r ⟨hc1, hc2⟩ rfl
            rw [runM_some _ _ _ _ hs2] at hO
            have HM2 := Lib.hid (okM_step _ _ _ HM.out hs2)
            have HO2 := Lib.hid hO
            clear hO hs2 HM hst hm hf ht
            go_wp2
            go_roundw
            case rel => exact ⟨n, m, fro, r - 48, 3, HK1.out, HB1.out, rfl, rfl, rfl, rfl, HM2.out, HO2.out⟩
            case measure => rw [iterPos_is HK1.out, HP.out]; omega
          · rw [runM_none _ _ _ (stepM_e _ _ _ _ _ (by omega) (by omega) (by omega))] at hO
            have HV := Lib.hid (HN.out.1 hO.symm)
            clear hO HN HR HM hst
            go_wp2
            go_ret2
            exact ⟨by rw [HV.out.1, HV.out.2]; rfl, HB1.out⟩
        · obtain ⟨hc1, hc2, hc3⟩ := hc
          have e45 : (r == 45) = false := beq_eq_false_iff_ne.2 (by omega)
          have e44 : (r == 44) = false := beq_eq_false_iff_ne.2 (by omega)
          have HC := Lib.hid (And.intro hc2 hc3)
          clear hc2 hc3
          rcases (show st = 0 ∨ st = 1 ∨ st = 2 ∨ st = 3 by omega) with rfl | rfl | rfl | rfl
          · rw [runM_none _ _ _ (stepM_e _ _ _ _ _ (by omega) (by have := HC.out; omega) (by have := HC.out; omega))] at hO
            have HV := Lib.hid (HN.out.1 hO.symm)
            clear hO HN HR HM hst
            go_wp2
            go_ret2
            exact ⟨by rw [HV.out.1, HV.out.2]; rfl, HB1.out⟩
          · rw [runM_none _ _ _ (stepM_e _ _ _ _ _ (by omega) (by have := HC.out; omega) (by have := HC.out; omega))] at hO
            have HV := Lib.hid (HN.out.1 hO.symm)
            clear hO HN HR HM hst
            go_wp2
            go_ret2
            exact ⟨by rw [HV.out.1, HV.out.2]; rfl, HB1.out⟩
          · rw [runM_none _ _ _ (stepM_e _ _ _ _ _ (by omega) (by have := HC.out; omega) (by have := HC.out; omega))] at hO
            have HV := Lib.hid (HN.out.1 hO.symm)
            clear hO HN HR HM hst
            go_wp2
            go_ret2
            exact ⟨by rw [HV.out.1, HV.out.2]; rfl, HB1.out⟩
          · rw [runM_none _ _ _ (stepM_e _ _ _ _ _ (by omega) (by have := HC.out; omega) (by have := HC.out; omega))] at hO
            have HV := Lib.hid (HN.out.1 hO.symm)
            clear hO HN HR HM hst
            go_wp2
            go_ret2
            exact ⟨by rw [HV.out.1, HV.out.2]; rfl, HB1.out⟩
        · have hc1 := hc
          have e45 : (r == 45) = false := beq_eq_false_iff_ne.2 (by omega)
          have e44 : (r == 44) = false := beq_eq_false_iff_ne.2 (by omega)
          clear hc
          rcases (show st = 0 ∨ st = 1 ∨ st = 2 ∨ st = 3 by omega) with rfl | rfl | rfl | rfl
          · rw [runM_none _ _ _ (stepM_e _ _ _ _ _ (by omega) (by omega) (by omega))] at hO
            have HV := Lib.hid (HN.out.1 hO.symm)
            clear hO HN HR HM hst
            go_wp2
            go_ret2
            exact ⟨by rw [HV.out.1, HV.out.2]; rfl, HB1.out⟩
          · rw [runM_none _ _ _ (stepM_e _ _ _ _ _ (by omega) (by omega) (by omega))] at hO
            have HV := Lib.hid (HN.out.1 hO.symm)
            clear hO HN HR HM hst
            go_wp2
            go_ret2
            exact ⟨by rw [HV.out.1, HV.out.2]; rfl, HB1.out⟩
          · rw [runM_none _ _ _ (stepM_e _ _ _ _ _ (by omega) (by omega) (by omega))] at hO
            have HV := Lib.hid (HN.out.1 hO.symm)
            clear hO HN HR HM hst
            go_wp2
            go_ret2
            exact ⟨by rw [HV.out.1, HV.out.2]; rfl, HB1.out⟩
          · rw [runM_none _ _ _ (stepM_e _ _ _ _ _ (by omega) (by omega) (by omega))] at hO
            have HV := Lib.hid (HN.out.1 hO.symm)
            clear hO HN HR HM hst
            go_wp2
            go_ret2
            exact ⟨by rw [HV.out.1, HV.out.2]; rfl, HB1.out⟩
      · have hnx : ∀ ty, (Instr.next (.pointer (some ⟨w.heap.size, 0, none⟩)) true ty).run Try.prog wr = _ := fun ty => run_next_end_at wr w.heap.size T pos ty HK.out hlt
        have hO := HO.out
        rw [runes_end T pos hlt] at hO
        have hF := HN.out.2 _ (show R = some ⟨m, fro, to, st⟩ from hO.symm)
        simp only at hF
        have hT := rranges_any m
        rw [low_nat m hm] at hT
        have HT := Lib.hid hT
        by_cases he : rangesB m = s
        · have HV := Lib.hid (hF.1 he)
          rw [he] at HT
          clear hT he HO hO HM hf ht hst hF HN
          go_wp2_with fail
          refine (HT.out _).mono ?_; rintro e w2 ⟨rfl, hb2⟩
          have bel := hb.trans (hb2.mono hb.size)
          go_wp2
          go_ret2
          exact ⟨by rw [HV.out.1, HV.out.2]; rfl, bel⟩
        · have HV := Lib.hid (hF.2 he)
          clear hT HO hO HM hf ht hst hF HN
          generalize rangesB m = U at *
          have h1 := list_ne he
          clear he
          go_wp2_with fail
          refine (HT.out _).mono ?_; rintro e w2 ⟨rfl, hb2⟩
          have bel := hb.trans (hb2.mono hb.size)
          go_wp2
          go_ret2
          exact ⟨by rw [HV.out.1, HV.out.2]; rfl, bel⟩

end Por
end Go.Proofs.Ytkflphnldnannaa
