/-
  What the document's Ranges answers, for every set.
-/
import Derived.Test.YtkflphnldnannaaPorD
namespace Go.Proofs.Ytkflphnldnannaa
open Go.RowKit
namespace Por

theorem rrangF_off (m g p : Nat) (o : List UInt8) (hp : p < 8) (h : hasN m p = false) : rrangF m (g + 1) p o = rrangF m g (p + 1) o := by
  simp only [rrangF, if_pos hp, h]
  rfl

theorem rrangF_on (m g p q : Nat) (o : List UInt8) (hp : p < 8) (h : hasN m p = true) (hq : endF m 8 p = q) :
    rrangF m (g + 1) p o = rrangF m g (q + 1) ((if o = [] then [] else o ++ [44]) ++ [dig p] ++ (if p < q then [45] ++ [dig q] else [])) := by
  simp only [rrangF, if_pos hp, h, hq, if_true]

theorem rrangF_end (m f : Nat) (o : List UInt8) : rrangF m f 8 o = o := by
  cases f with
  | zero => rfl
  | succ f => simp [rrangF]

theorem endF_more (m f p : Nat) (h : hasZ m ((p : Int) + 1) = true) : endF m (f + 1) p = endF m f (p + 1) := by
  simp only [endF, h, if_true]

theorem endF_stop (m f p : Nat) (h : hasZ m ((p : Int) + 1) = false) : endF m f p = p := by
  cases f with
  | zero => rfl
  | succ f => simp only [endF, h]; rfl

/-- What the document's Ranges writes of a run: four ways. -/
theorem way_a (o : ByteArray) (p : Nat) (h : o.data.toList = []) (n : Nat) (hn : o.size ≤ n) : (o ++ (⟨#[dig p]⟩ : ByteArray)).data.toList = (if o.data.toList = [] then [] else o.data.toList ++ [44]) ++ [dig p] ++ [] ∧ (o ++ (⟨#[dig p]⟩ : ByteArray)).size ≤ n + 4 :=
  ⟨by simp [h], by rw [ByteArray.size_append]; show o.size + 1 ≤ _; omega⟩

theorem way_b (o : ByteArray) (p q : Nat) (h : o.data.toList = []) (n : Nat) (hn : o.size ≤ n) : (o ++ (⟨#[dig p]⟩ : ByteArray) ++ ((⟨#[45]⟩ : ByteArray) ++ (⟨#[dig q]⟩ : ByteArray))).data.toList = (if o.data.toList = [] then [] else o.data.toList ++ [44]) ++ [dig p] ++ ([45] ++ [dig q]) ∧ (o ++ (⟨#[dig p]⟩ : ByteArray) ++ ((⟨#[45]⟩ : ByteArray) ++ (⟨#[dig q]⟩ : ByteArray))).size ≤ n + 4 :=
  ⟨by simp [h], by simp only [ByteArray.size_append]; show o.size + 1 + (1 + 1) ≤ _; omega⟩

theorem way_c (o : ByteArray) (p : Nat) (h : ¬ o.data.toList = []) (n : Nat) (hn : o.size ≤ n) : (o ++ (⟨#[44]⟩ : ByteArray) ++ (⟨#[dig p]⟩ : ByteArray)).data.toList = (if o.data.toList = [] then [] else o.data.toList ++ [44]) ++ [dig p] ++ [] ∧ (o ++ (⟨#[44]⟩ : ByteArray) ++ (⟨#[dig p]⟩ : ByteArray)).size ≤ n + 4 :=
  ⟨by rw [if_neg h]; simp, by simp only [ByteArray.size_append]; show o.size + 1 + 1 ≤ _; omega⟩

theorem way_d (o : ByteArray) (p q : Nat) (h : ¬ o.data.toList = []) (n : Nat) (hn : o.size ≤ n) : (o ++ (⟨#[44]⟩ : ByteArray) ++ (⟨#[dig p]⟩ : ByteArray) ++ ((⟨#[45]⟩ : ByteArray) ++ (⟨#[dig q]⟩ : ByteArray))).data.toList = (if o.data.toList = [] then [] else o.data.toList ++ [44]) ++ [dig p] ++ ([45] ++ [dig q]) ∧ (o ++ (⟨#[44]⟩ : ByteArray) ++ (⟨#[dig p]⟩ : ByteArray) ++ ((⟨#[45]⟩ : ByteArray) ++ (⟨#[dig q]⟩ : ByteArray))).size ≤ n + 4 :=
  ⟨by rw [if_neg h]; simp, by simp only [ByteArray.size_append]; show o.size + 1 + 1 + (1 + 1) ≤ _; omega⟩

set_option maxHeartbeats 2000000 in
theorem rranges_any (x : Int) (w : World) :
    Calls Try.prog 25 #[.int .i64 x] w fun e w' => e = .returned (.string (rangesB (low x))) ∧ Below w.heap.size w w' := by
  have HZ := Lib.hid (rrang_is (low x) (low_lt x))
  have HX := Lib.hid (show (rangL (low x) 8 = [] → rangesB (low x) = ⟨#[110, 111, 110, 101]⟩) ∧ (¬ rangL (low x) 8 = [] → rangesB (low x) = ⟨(rangL (low x) 8).toArray⟩) from
    ⟨fun h => rangesB_none _ ((rang_empty _ (low_lt x)).1 h), fun h => rangesB_some _ (fun h0 => h ((rang_empty _ (low_lt x)).2 h0))⟩)
  go_enter Try.func25, Try.ntmps25
  go_wp2
  go_loopw [3, 4] (fun v i wr => ∃ (f p : Nat) (o : ByteArray), p ≤ 8 ∧ 8 < p + f ∧ i = .int .i64 p ∧ v = .string o ∧ o.size ≤ 4 * p ∧ Aside (rrangF (low x) f p o.data.toList = rangL (low x) 8) ∧ Below w.heap.size w wr) (fun _ i _ => 8 - (intOf i).toNat)
  case atStart => exact ⟨9, 0, ⟨#[]⟩, by omega, by omega, rfl, rfl, Nat.le_refl _, HZ.out, Below.refl _ _⟩
  case round =>
    obtain ⟨f, p, o, hp, hf, rfl, rfl, ho, HO, hb⟩ := hrel
    by_cases hlt : p < 8
    · obtain ⟨g, rfl⟩ : ∃ g, f = g + 1 := ⟨f - 1, by omega⟩
      cases hm : hasN (low x) p with
      | false =>
        have hH := Lib.hid (rhas_at x p hlt false hm)
        have hO := HO.out
        rw [rrangF_off _ _ _ _ hlt hm] at hO
        have HO2 := Lib.hid hO
        have HF := Lib.hid (show 8 < p + 1 + g by omega)
        clear hO HO hm hf
        go_wp2_with fail
        refine (hH.out _).mono ?_; rintro e w' ⟨rfl, rfl⟩
        go_wp2
        go_roundw
        case rel => exact ⟨g, p + 1, o, by omega, HF.out, by go_num, rfl, by omega, HO2.out, hb⟩
        case measure => simp [intOf]; omega
      | true =>
        have hH := Lib.hid (rhas_at x p hlt true hm)
        obtain ⟨E, hE⟩ : ∃ E, endF (low x) 8 p = E := ⟨_, rfl⟩
        have hpE : p ≤ E := by rw [← hE]; exact endF_ge _ _ _
        have hE8 : E < 8 := by rw [← hE]; exact endF_lt _ _ _ hlt
        have hO := HO.out
        rw [rrangF_on _ _ _ _ _ hlt hm hE] at hO
        have HO2 := Lib.hid hO
        have HE := Lib.hid hE
        have HF := Lib.hid (show 8 < E + 1 + g by omega)
        clear hO HO hm hf hE
        go_wp2_with fail
        refine (hH.out _).mono ?_; rintro e w' ⟨rfl, rfl⟩
        go_wp2
        go_loop [4] (fun i => ∃ (q h : Nat), p ≤ q ∧ q < 8 ∧ Aside (8 ≤ q + h) ∧ i = .int .i64 q ∧ Aside (endF (low x) h q = E)) (fun i => 8 - (intOf i).toNat)
        case atStart => exact ⟨p, 8, Nat.le_refl _, hlt, (by unfold Aside; omega), rfl, HE.out⟩
        case round =>
          obtain ⟨q, h, hpq, hq8, HH, rfl, HQ⟩ := hrel
          cases hz : hasZ (low x) ((q : Int) + 1) with
          | true =>
            have hz8 := hasZ_eight _ _ hz
            have hq7 : q + 1 < 8 := by omega
            have hH1 := Lib.hid (rhas_is x ((q : Int) + 1) true hz)
            have hHH : 8 ≤ q + h := HH.out
            obtain ⟨j, rfl⟩ : ∃ j, h = j + 1 := ⟨h - 1, by omega⟩
            have hQ := HQ.out
            rw [endF_more _ _ _ hz] at hQ
            have HQ2 := Lib.hid hQ
            have HJ := Lib.hid (show 8 ≤ q + 1 + j by omega)
            clear hQ HQ hz hz8 hHH HH
            go_wp2_with fail
            refine (hH1.out _).mono ?_; rintro e w' ⟨rfl, rfl⟩
            go_wp2
            go_round
            case rel => exact ⟨q + 1, j, by omega, hq7, HJ.out, by go_num, HQ2.out⟩
            case measure => simp [intOf]; omega
          | false =>
            have hH1 := Lib.hid (rhas_is x ((q : Int) + 1) false hz)
            have hQ := HQ.out
            rw [endF_stop _ _ _ hz] at hQ
            obtain rfl := hQ
            have hcp := conv_dig p hlt
            have hcq := conv_dig q hq8
            have hw : IntKind.u8.wrap (48 + (p : Int)) = 48 + (p : Int) := IntWalk.u8_in _ (by omega)
            have hw2 : IntKind.u8.wrap (48 + (q : Int)) = 48 + (q : Int) := IntWalk.u8_in _ (by omega)
            have z1 : ¬ (o.size + 1 > 9223372036854775807) := by omega
            have z2 : ¬ (o.size + 1 + 1 > 9223372036854775807) := by omega
            have z3 : ¬ (o.size + 1 + 2 > 9223372036854775807) := by omega
            have z4 : ¬ (o.size + 1 + 1 + 2 > 9223372036854775807) := by omega
            clear hz HQ HH HE
            by_cases h0 : o.toList = []
            · by_cases h1 : p < q
              · have HW := Lib.hid (way_b o p q (by rw [← ByteArray.toList_eq]; exact h0) (4 * p) ho)
                rw [if_pos h1] at HO2
                rw [← HW.out.1] at HO2
                go_wp2_with fail
                refine (hH1.out _).mono ?_; rintro e w' ⟨rfl, rfl⟩
                go_wp2
                go_roundw
                case rel => exact ⟨g, q + 1, _, by omega, HF.out, by go_num, rfl, by have := HW.out.2; omega, HO2.out, Bx.bel_box (Bx.bel_box hb _) _⟩
                case measure => simp [intOf]; omega
              · have HW := Lib.hid (way_a o p (by rw [← ByteArray.toList_eq]; exact h0) (4 * p) ho)
                rw [if_neg h1] at HO2
                rw [← HW.out.1] at HO2
                go_wp2_with fail
                refine (hH1.out _).mono ?_; rintro e w' ⟨rfl, rfl⟩
                go_wp2
                go_roundw
                case rel => exact ⟨g, q + 1, _, by omega, HF.out, by go_num, rfl, by have := HW.out.2; omega, HO2.out, Bx.bel_box hb _⟩
                case measure => simp [intOf]; omega
            · have h2 : (!o.toList.isEmpty) = true := by simpa using h0
              have h3 : o.toList.isEmpty = false := by simpa using h0
              have h4 : ¬ o.data.toList = [] := by rw [← ByteArray.toList_eq]; exact h0
              by_cases h1 : p < q
              · have HW := Lib.hid (way_d o p q h4 (4 * p) ho)
                rw [if_pos h1] at HO2
                rw [← HW.out.1] at HO2
                clear h4
                go_wp2_with fail
                refine (hH1.out _).mono ?_; rintro e w' ⟨rfl, rfl⟩
                go_wp2
                go_roundw
                case rel => exact ⟨g, q + 1, _, by omega, HF.out, by go_num, rfl, by have := HW.out.2; omega, HO2.out, Bx.bel_box (Bx.bel_box hb _) _⟩
                case measure => simp [intOf]; omega
              · have HW := Lib.hid (way_c o p h4 (4 * p) ho)
                rw [if_neg h1] at HO2
                rw [← HW.out.1] at HO2
                clear h4
                go_wp2_with fail
                refine (hH1.out _).mono ?_; rintro e w' ⟨rfl, rfl⟩
                go_wp2
                go_roundw
                case rel => exact ⟨g, q + 1, _, by omega, HF.out, by go_num, rfl, by have := HW.out.2; omega, HO2.out, Bx.bel_box hb _⟩
                case measure => simp [intOf]; omega
    · obtain rfl : p = 8 := by omega
      have hO := HO.out
      rw [rrangF_end] at hO
      have hX := HX.out
      rw [← hO, ← ByteArray.toList_eq] at hX
      by_cases h0 : o.toList = []
      · have HT := Lib.hid (hX.1 h0)
        clear hX hO HO
        go_wp2
        go_ret
        exact ⟨by rw [HT.out]; rfl, hb⟩
      · have h1 : (!o.toList.isEmpty) = true := by simpa using h0
        have h2 : o.toList.isEmpty = false := by simpa using h0
        have HT := Lib.hid (show rangesB (low x) = o by rw [hX.2 h0, ByteArray.toList_eq])
        clear hX hO HO
        go_wp2
        go_ret
        exact ⟨by rw [HT.out]; rfl, hb⟩

end Por
end Go.Proofs.Ytkflphnldnannaa
