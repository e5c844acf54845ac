/-
  What the document's Parse answers: the same as mac.Parse.
-/
import Derived.Test.YtjljfigppbahfaaDoorMacD
namespace Go.Proofs.YtjljfigppbahfaaDoor
open Go.RowKit
namespace Mac
open Oct Fr

theorem two_at (s : ByteArray) (j : Nat) (h : j + 2 ≤ s.size) : (s.extract j (j + 2)).data.toList = [s.data.toList.getD j 0, s.data.toList.getD (j + 1) 0] := by
  have hl : s.data.toList.length = s.size := Array.length_toList
  rw [ByteArray.data_extract, Array.toList_extract]
  simp only [List.extract]
  rw [show j + 2 - j = 2 by omega, List.drop_eq_getElem_cons (by omega), List.drop_eq_getElem_cons (by omega)]
  rw [List.getD_eq_getElem?_getD, List.getD_eq_getElem?_getD, List.getElem?_eq_getElem (show j < s.data.toList.length by omega), List.getElem?_eq_getElem (show j + 1 < s.data.toList.length by omega)]
  rfl

theorem byte_eq (s : ByteArray) (j : Nat) (h : j < s.size) : s[j] = s.data.toList.getD j 0 := by
  have hl : s.data.toList.length = s.size := Array.length_toList
  rw [List.getD_eq_getElem?_getD, List.getElem?_eq_getElem (by omega)]
  rfl

theorem two_good (a b : UInt8) (ha : 0 ≤ unD a) (hb : 0 ≤ unD b) : unhexS ⟨[a, b].toArray⟩ = ⟨[UInt8.ofNat (16 * (unD a).toNat + (unD b).toNat)].toArray⟩ ∧ unhexE ⟨[a, b].toArray⟩ = 0 := by
  apply unhex_serves
  simp only [unhexL]
  rw [if_neg (by omega)]
  rfl

theorem two_bad (a b : UInt8) (h : unD a < 0 ∨ unD b < 0) : unhexS ⟨[a, b].toArray⟩ = ByteArray.empty ∧ (unhexE ⟨[a, b].toArray⟩ != 0) = true := by
  apply unhex_fails
  simp only [unhexL]
  rw [if_pos h]

theorem mk_of_list (s : ByteArray) (l : List UInt8) (h : s.data.toList = l) : s = ⟨l.toArray⟩ := by
  apply ByteArray.ext
  rw [← h]

set_option maxHeartbeats 400000 in
theorem rparse_any (s : ByteArray) (w : World) (hs : s.size ≤ 1048576) :
    Calls Tryd.prog 9 #[.string s] w fun e w' => e = .returned (.tuple #[.int .u64 ((parseR s.data.toList).1 : Nat), .int .i64 (parseR s.data.toList).2]) ∧ Below w.heap.size w w' := by
  have hl : s.data.toList.length = s.size := Array.length_toList
  by_cases h17 : s.size = 17
  · have hne : ((s.size : Int) != 17) = false := by rw [h17]; rfl
    have H17 := Lib.hid h17
    have HLL := Lib.hid hl
    have hle : s.size ≤ 17 := by omega
    have hge : 17 ≤ s.size := by omega
    clear h17 hl
    go_enter Tryd.func9, Tryd.ntmps9
    go_wp2
    go_loopw [4, 5] (fun v i wr => ∃ (k j : Nat) (o : ByteArray), k ≤ 6 ∧ j = 3 * k ∧ i = .int .i64 j ∧ v = .string o ∧ o.size ≤ 6 ∧ Aside (o = ⟨(vals s.data.toList k).toArray⟩ ∧ ∀ a, a < k → goodAt s.data.toList a) ∧ Below w.heap.size w wr) (fun _ i _ => 18 - (intOf i).toNat)
    case atStart => exact ⟨0, 0, ByteArray.empty, by omega, by omega, rfl, rfl, by simp, ⟨rfl, fun a h => by omega⟩, Below.refl _ _⟩
    case round =>
      obtain ⟨k, j, o, hk, hj, rfl, rfl, ho, HO, hB⟩ := hrel
      by_cases hlt : k < 6
      · have h2 := two_at s j (by omega)
        have hj1 : j + 2 ≤ s.size := by omega
        have HX := Lib.hid (fun w => runhex_any (s.extract j (j + 2)) w (by simp; omega))
        rw [mk_of_list _ _ h2] at HX
        have HZ := Lib.hid hB
        clear hB
        have HJ := Lib.hid hj
        have hj17 : j < 17 := by omega
        by_cases hd : unD (s.data.toList.getD j 0) < 0 ∨ unD (s.data.toList.getD (j + 1) 0) < 0
        · obtain ⟨e1, e2⟩ := two_bad _ _ hd
          have HP := Lib.hid (parseR_broken s.data.toList k hlt (by
            rintro ⟨g1, g2, _⟩
            rw [← hj] at g1 g2
            omega))
          rw [e1] at HX
          rw [← mk_of_list _ _ h2] at HX e2
          have HE := Lib.hid HX
          clear h2 hd e1 HO HX hj
          generalize unhexE (s.extract j (j + 2)) = q at *
          go_wp2_with fail
          refine (HE.out _).mono ?_; rintro e w1 ⟨rfl, hb1⟩
          go_wp2_with fail
          go_ret2
          exact ⟨by rw [HP.out]; rfl, below_then HZ.out hb1⟩
        · obtain ⟨e1, e2⟩ := two_good _ _ (show 0 ≤ unD (s.data.toList.getD j 0) by omega) (show 0 ≤ unD (s.data.toList.getD (j + 1) 0) by omega)
          have e3 : UInt8.ofNat (16 * (unD (s.data.toList.getD j 0)).toNat + (unD (s.data.toList.getD (j + 1) 0)).toNat) = valAt s.data.toList k := by unfold valAt; rw [hj]
          rw [e1, e2, e3] at HX
          rw [← mk_of_list _ _ h2] at HX
          have HE := Lib.hid HX
          have HN : Hid (o ++ ⟨[valAt s.data.toList k].toArray⟩ = ⟨(vals s.data.toList (k + 1)).toArray⟩) := by
            show _ = _
            rw [HO.out.1, vals_succ]
            apply ByteArray.ext
            simp
          have hq : (⟨[valAt s.data.toList k].toArray⟩ : ByteArray).size ≤ 1 := by simp [ByteArray.size]
          have HG2 := HO.out.2
          have HO2 := Lib.hid HG2
          have HD := Lib.hid hd
          clear h2 hd e1 e2 e3 HO HX hj HG2
          generalize (⟨[valAt s.data.toList k].toArray⟩ : ByteArray) = q at *
          by_cases h5 : k < 5
          · have hj15 : j < 15 := by have := HJ.out; omega
            by_cases hc : s.data.toList.getD (j + 2) 0 = 58
            · have hc' : ((s[j + 2].toNat : Int) != 58) = false := by rw [byte_eq s (j + 2) (by omega), hc]; rfl
              have HC := Lib.hid hc
              clear hc
              go_wp2_with fail
              refine (HE.out _).mono ?_; rintro e w1 ⟨rfl, hb1⟩
              have HB1 := Lib.hid (below_then HZ.out hb1)
              clear hb1
              go_wp2_with fail
              go_roundw
              case rel =>
                refine ⟨k + 1, j + 3, _, by omega, by have := HJ.out; omega, by go_num, rfl, ?_, ⟨HN.out, ?_⟩, HB1.out⟩
                · rw [HN.out, size_mk, vals_length]; omega
                · intro a ha
                  by_cases hak : a = k
                  · subst hak
                    have hd := HD.out
                    have hj := HJ.out
                    have hc := HC.out
                    rw [hj] at hd hc
                    exact ⟨by omega, by omega, fun _ => hc⟩
                  · exact HO2.out a (by omega)
              case measure => simp [intOf]; omega
            · have hc' : ((s[j + 2].toNat : Int) != 58) = true := by
                rw [byte_eq s (j + 2) (by omega)]
                simp only [bne_iff_ne, ne_eq]
                intro h
                exact hc (UInt8.toNat_inj.1 (Int.ofNat.inj h))
              have HP := Lib.hid (parseR_broken s.data.toList k hlt (by
                rintro ⟨_, _, g⟩
                have := g h5
                rw [← HJ.out] at this
                exact hc this))
              clear hc
              go_wp2_with fail
              refine (HE.out _).mono ?_; rintro e w1 ⟨rfl, hb1⟩
              go_wp2_with fail
              go_ret2
              exact ⟨by rw [HP.out]; rfl, below_then HZ.out hb1⟩
          · have hj15 : ¬ j < 15 := by have := HJ.out; omega
            have hj15' : decide ((j : Int) < 15) = false := by simp; omega
            go_wp2_with fail
            refine (HE.out _).mono ?_; rintro e w1 ⟨rfl, hb1⟩
            have HB1 := Lib.hid (below_then HZ.out hb1)
            clear hb1
            go_wp2_with fail
            go_roundw
            case rel =>
              refine ⟨k + 1, j + 3, _, by omega, by have := HJ.out; omega, by go_num, rfl, ?_, ⟨HN.out, ?_⟩, HB1.out⟩
              · rw [HN.out, size_mk, vals_length]; omega
              · intro a ha
                by_cases hak : a = k
                · subst hak
                  have hd := HD.out
                  have hj := HJ.out
                  rw [hj] at hd
                  exact ⟨by omega, by omega, fun h => absurd h h5⟩
                · exact HO2.out a (by omega)
            case measure => simp [intOf]; omega
      · have hk6 : k = 6 := by omega
        subst hk6
        have HP := Lib.hid (parseR_vals s.data.toList (by rw [HLL.out]; exact H17.out) HO.out.2)
        have HRd := Lib.hid (fun w => rread_any ⟨(vals s.data.toList 6).toArray⟩ 0 w (by rw [size_mk, vals_length]; omega))
        rw [getR_six _ (by rw [vals_length]; omega), List.take_of_length_le (by rw [vals_length]; omega), ← HO.out.1] at HRd
        have hj18 : 17 ≤ j := by omega
        clear hj HO
        go_wp2_with fail
        refine (HRd.out _).mono ?_; rintro e w1 ⟨rfl, rfl⟩
        go_wp2_with fail
        go_ret2
        exact ⟨by rw [HP.out]; rfl, hB⟩
  · have hne : ((s.size : Int) != 17) = true := by simp; omega
    rw [parseR_long _ (by omega)]
    clear hl h17
    go_enter Tryd.func9, Tryd.ntmps9
    go_wp2
    go_ret2
    exact ⟨rfl, Below.refl _ _⟩

end Mac
end Go.Proofs.YtjljfigppbahfaaDoor
