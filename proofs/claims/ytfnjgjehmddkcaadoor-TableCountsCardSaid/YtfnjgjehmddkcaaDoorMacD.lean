/-
  What mac.Parse and the document's Text and Parse answer: an address whose text it is, or that there is none; and that they change nothing that was there.
-/
import Derived.Test.YtfnjgjehmddkcaaDoorMacC
import Derived.Test.YtfnjgjehmddkcaaDoorOctRef
namespace Go.Proofs.YtfnjgjehmddkcaaDoor
open Go.RowKit
namespace Mac
open Oct Fr

theorem txt_snoc : ∀ (x : List UInt8) (b : UInt8), x ≠ [] → txt (x ++ [b]) = txt x ++ 58 :: hexL [b]
  | [a], b, _ => by simp [txt]
  | a :: c :: x, b, _ => by
    have ih := txt_snoc (c :: x) b (by simp)
    simp only [List.cons_append, txt] at ih ⊢
    rw [ih]
    simp

theorem txt_take_first (x : List UInt8) (h : 0 < x.length) : txt (x.take 1) = hexL [x[0]] := by
  match x, h with
  | a :: x, _ => simp [txt]

theorem txt_take_next (x : List UInt8) (k : Nat) (h0 : 0 < k) (h : k < x.length) : txt (x.take (k + 1)) = txt (x.take k) ++ 58 :: hexL [x[k]] := by
  rw [List.take_add_one, List.getElem?_eq_getElem h]
  exact txt_snoc _ _ (by intro e; have := congrArg List.length e; simp only [List.length_take, List.length_nil] at this; omega)

theorem txt_size_le : ∀ x : List UInt8, (txt x).length ≤ 3 * x.length
  | [] => by simp [txt]
  | [b] => by simp [txt, hexL]
  | b :: c :: l => by
    have := txt_size_le (c :: l)
    simp [txt, hexL] at this ⊢
    omega

set_option maxRecDepth 40000 in
set_option maxHeartbeats 400000 in
theorem rtext_any (m : Nat) (hm : m < 18446744073709551616) (w : World) : Calls Tryd.prog 29 #[.int .u64 m] w fun e w' => e = .returned (.string (txtS m)) ∧ Below w.heap.size w w' := by
  have hx := putL_length m 6
  unfold txtS
  have HB := Lib.hid (fun w => rbytes_any m hm w)
  generalize putL m 6 = x at *
  clear hm
  have hs : (⟨x.toArray⟩ : ByteArray).size = 6 := by simpa [ByteArray.size] using hx
  have HX := Lib.hid hx
  clear hx
  generalize hbs : (⟨x.toArray⟩ : ByteArray) = b at *
  have HBS := Lib.hid hbs
  clear hbs
  go_enter Tryd.func29, Tryd.ntmps29
  go_wp2
  go_loopw [3, 5] (fun v i wr => ∃ (k : Nat) (o : ByteArray), k ≤ 6 ∧ i = .int .i64 k ∧ v = .string o ∧ o.size ≤ 18 ∧ Aside (o = ⟨(txt (x.take k)).toArray⟩) ∧ Below w.heap.size w wr) (fun _ i _ => 6 - (intOf i).toNat)
  case atStart => exact ⟨0, ByteArray.empty, by omega, rfl, rfl, by simp, rfl, Below.refl _ _⟩
  case round =>
    obtain ⟨k, o, hk, rfl, rfl, ho, HO, hB⟩ := hrel
    by_cases hlt : k < 6
    · have hlx : k < x.length := by have := HX.out; omega
      have hby := byte_at x k hlx
      rw [HBS.out] at hby
      have HH := Lib.hid (fun w => rhex_any (b.extract k (k + 1)) w (by simp; omega))
      rw [hby] at HH
      clear hby
      have hsz : (⟨(hexL [x[k]]).toArray⟩ : ByteArray).size = 2 := by simp [ByteArray.size, hexL]
      have HZ := Lib.hid hB
      clear hB
      by_cases h0 : 0 < k
      · have HN : Hid (o ++ ⟨#[58]⟩ ++ ⟨(hexL [x[k]]).toArray⟩ = ⟨(txt (x.take (k + 1))).toArray⟩) := by
          show _ = _
          rw [HO.out, txt_take_next x k h0 hlx]
          apply ByteArray.ext
          simp
        have HN2 := Lib.hid (txt_size_le (x.take (k + 1)))
        generalize (⟨(hexL [x[k]]).toArray⟩ : ByteArray) = q at *
        have HQ := Lib.hid hsz
        clear hsz
        have hq : q.size ≤ 2 := by have := HQ.out; omega
        go_wp2_with fail
        refine (HB.out _).mono ?_; rintro e w2 ⟨rfl, hb2⟩
        have HB2 := Lib.hid (below_then HZ.out hb2)
        clear hb2
        go_wp2_with fail
        refine (HH.out _).mono ?_; rintro e w3 ⟨rfl, hb3⟩
        have HB3 := Lib.hid (below_then HB2.out hb3)
        clear hb3
        go_wp2_with fail
        go_roundw
        case rel =>
          refine ⟨k + 1, _, by omega, by go_num, rfl, ?_, HN.out, HB3.out⟩
          rw [HN.out]
          have := HN2.out
          simp [ByteArray.size] at this ⊢
          omega
        case measure => simp [intOf]; omega
      · have hk0 : k = 0 := by omega
        subst hk0
        have HN : Hid (o ++ ⟨(hexL [x[0]]).toArray⟩ = ⟨(txt (x.take (0 + 1))).toArray⟩) := by
          show _ = _
          rw [HO.out, txt_take_first x hlx]
          apply ByteArray.ext
          simp [txt]
        have HN2 := Lib.hid (txt_size_le (x.take (0 + 1)))
        generalize (⟨(hexL [x[0]]).toArray⟩ : ByteArray) = q at *
        have HQ := Lib.hid hsz
        clear hsz
        have hq : q.size ≤ 2 := by have := HQ.out; omega
        go_wp2_with fail
        refine (HB.out _).mono ?_; rintro e w2 ⟨rfl, hb2⟩
        have HB2 := Lib.hid (below_then HZ.out hb2)
        clear hb2
        go_wp2_with fail
        refine (HH.out _).mono ?_; rintro e w3 ⟨rfl, hb3⟩
        have HB3 := Lib.hid (below_then HB2.out hb3)
        clear hb3
        go_wp2_with fail
        go_roundw
        case rel =>
          refine ⟨0 + 1, _, by omega, by go_num, rfl, ?_, HN.out, HB3.out⟩
          rw [HN.out]
          have := HN2.out
          simp [ByteArray.size] at this ⊢
          omega
        case measure => simp [intOf]
    · have hk6 : k = 6 := by omega
      subst hk6
      have HE : Hid (o = ⟨(txt x).toArray⟩) := by
        have := HO.out
        rwa [List.take_of_length_le (by have := HX.out; omega)] at this
      go_wp2_with fail
      go_ret
      exact ⟨by rw [HE.out]; rfl, hB⟩

theorem size_mk (l : List UInt8) : (⟨l.toArray⟩ : ByteArray).size = l.length := by simp [ByteArray.size]

theorem filter_size (s : ByteArray) : (⟨(s.data.toList.filter (· != 58)).toArray⟩ : ByteArray).size ≤ s.size := by
  have h1 := List.length_filter_le (· != 58) s.data.toList
  have h2 : s.data.toList.length = s.size := Array.length_toList
  rw [size_mk]
  omega

theorem unhex_fails (l : List UInt8) (h : unhexL l = none) : unhexS ⟨l.toArray⟩ = ByteArray.empty ∧ (unhexE ⟨l.toArray⟩ != 0) = true := by
  refine ⟨by unfold unhexS; simp only [h]; rfl, ?_⟩
  unfold unhexE
  by_cases hh : (⟨l.toArray⟩ : ByteArray).size % 2 ≠ 0
  · rw [if_pos hh]; rfl
  · rw [if_neg hh, if_pos h]; rfl

theorem unhex_serves (l v : List UInt8) (h : unhexL l = some v) : unhexS ⟨l.toArray⟩ = ⟨v.toArray⟩ ∧ unhexE ⟨l.toArray⟩ = 0 :=
  unhex_good ⟨l.toArray⟩ v.length (by rw [size_mk]; exact (unhexL_length l v h).symm) v h

theorem getR_few (v : List UInt8) (h : v.length < 6) : getR ⟨v.toArray⟩ 0 6 = (0, 2) := by
  have e : cutE ((⟨v.toArray⟩ : ByteArray).size : Int) 0 6 = 2 := by
    rw [size_mk]
    unfold cutE
    rw [if_neg (by omega), if_pos (by omega)]
  unfold getR
  rw [if_neg (by omega), e]
  rfl

theorem getR_six (v : List UInt8) (h : 6 ≤ v.length) : getR ⟨v.toArray⟩ 0 6 = (getL 0 (v.take 6), 0) := by
  have e : cutE ((⟨v.toArray⟩ : ByteArray).size : Int) 0 6 = 0 := by
    rw [size_mk, cutE_zero]
    omega
  unfold getR cutS
  rw [if_neg (by omega), e]
  simp [List.extract_eq_take_drop]

theorem getL_take6_lt (v : List UInt8) (h : 6 ≤ v.length) : getL 0 (v.take 6) < 281474976710656 := getL_lt6 _ (by simp; omega)

theorem txtS_getL (v : List UInt8) (h : 6 ≤ v.length) : txtS (getL 0 (v.take 6)) = ⟨(txt (v.take 6)).toArray⟩ := by
  unfold txtS
  rw [putL_getL6 _ (by simp; omega)]

end Mac
end Go.Proofs.YtfnjgjehmddkcaaDoor
