/-
  Plain facts on the texts of addresses (no program): two digits of each byte with a colon between; what is written so is read, nothing else is, and texts stand in the order of their numbers.
-/
import Derived.Test.YtbighadkcmhplaaOctNum
import Derived.Lib.Replace
import Derived.Lib.Join
import GoSem.Op.String
namespace Go.Proofs.Ytbighadkcmhplaa
namespace Mac
open Oct

/-- Two digits of each byte, a colon between. -/
def txt : List UInt8 → List UInt8
  | [] => []
  | [b] => hexL [b]
  | b :: c :: l => hexL [b] ++ 58 :: txt (c :: l)

theorem txt_join : ∀ x : List UInt8, Lib.join (x.map fun b => hexL [b]) [58] = txt x
  | [] => rfl
  | [b] => by simp [Lib.join_one, txt]
  | b :: c :: l => by
    have ih := txt_join (c :: l)
    rw [List.map_cons, Lib.join_cons] at ih
    rw [List.map_cons, Lib.join_cons, txt, ← ih]
    simp [Lib.joinTail]

theorem txt_length6 (x : List UInt8) (h : x.length = 6) : (txt x).length = 17 := by
  match x, h with
  | [a, b, c, d, e, f], _ => simp [txt, hexL]

theorem hexD_ne (n : Nat) (h : n < 16) : hexD n ≠ 58 := by
  have h' : ∀ n : Fin 16, hexD n.1 ≠ 58 := by decide
  exact h' ⟨n, h⟩

theorem hexL_ne (x : List UInt8) : ∀ c ∈ hexL x, c ≠ 58 := by
  induction x with
  | nil => simp [hexL]
  | cons b l ih =>
    have := b.toNat_lt
    intro c hc
    simp only [hexL, List.mem_cons] at hc
    rcases hc with rfl | rfl | hc
    · exact hexD_ne _ (by omega)
    · exact hexD_ne _ (by omega)
    · exact ih c hc

theorem txt_filter : ∀ x : List UInt8, (txt x).filter (· != 58) = hexL x
  | [] => rfl
  | [b] => by
    rw [txt, List.filter_eq_self]
    intro c hc
    simpa using hexL_ne _ c hc
  | b :: c :: l => by
    rw [txt, List.filter_append, List.filter_cons, txt_filter (c :: l)]
    have : (hexL [b]).filter (· != 58) = hexL [b] := by
      rw [List.filter_eq_self]
      intro c hc
      simpa using hexL_ne _ c hc
    rw [this]
    simp [hexL]

theorem txt_unhex (x : List UInt8) : unhexL ((txt x).filter (· != 58)) = some x := by
  rw [txt_filter, unhexL_hexL]

theorem txt_inj (x y : List UInt8) (h : txt x = txt y) : x = y := by
  have h1 := txt_unhex x
  rw [h, txt_unhex y] at h1
  exact (Option.some.inj h1).symm

theorem putL_getL (x : List UInt8) : putL (getL 0 x) x.length = x := by
  suffices h : ∀ r : List UInt8, putL (getL 0 r.reverse) r.length = r.reverse by
    have := h x.reverse
    simpa using this
  intro r
  induction r with
  | nil => rfl
  | cons b r ih =>
    rw [List.reverse_cons, getL_snoc, List.length_cons, putL]
    have hb := b.toNat_lt
    rw [show (getL 0 r.reverse * 256 + b.toNat) / 256 = getL 0 r.reverse by omega, ih]
    congr 2
    apply UInt8.toNat_inj.1
    simp

theorem putL_getL6 (x : List UInt8) (h : x.length = 6) : putL (getL 0 x) 6 = x := by
  have := putL_getL x
  rwa [h] at this

theorem getL_lt6 (x : List UInt8) (h : x.length = 6) : getL 0 x < 281474976710656 := by
  have := getL_lt x
  rw [h] at this
  exact this

theorem getL_putL6 (n : Nat) (h : n < 281474976710656) : getL 0 (putL n 6) = n := by
  rw [getL_putL]
  exact Nat.mod_eq_of_lt h

/-- Parse's answer. -/
def parseR (l : List UInt8) : Nat × Int :=
  match unhexL (l.filter (· != 58)) with
  | some x => if x.length = 6 ∧ txt x = l then (getL 0 x, 0) else (0, 3)
  | none => (0, 3)

theorem parseR_good (x : List UInt8) (h : x.length = 6) : parseR (txt x) = (getL 0 x, 0) := by
  unfold parseR
  rw [txt_unhex]
  simp [h]

theorem parseR_bad (l : List UInt8) (h : ∀ x : List UInt8, x.length = 6 → txt x ≠ l) : parseR l = (0, 3) := by
  unfold parseR
  split
  · rename_i x _
    rw [if_neg (fun ⟨h1, h2⟩ => h x h1 h2)]
  · rfl

theorem parseR_zero (l : List UInt8) (h : (parseR l).2 = 0) : ∃ x : List UInt8, x.length = 6 ∧ txt x = l ∧ (parseR l).1 = getL 0 x := by
  unfold parseR at h ⊢
  split at h
  · rename_i x hx
    split at h
    · rename_i hc
      refine ⟨x, hc.1, hc.2, ?_⟩
      rw [if_pos hc]
    · simp at h
  · simp at h

theorem parseR_lt (l : List UInt8) : (parseR l).1 < 281474976710656 := by
  unfold parseR
  split
  · split
    · rename_i x _ hc
      exact getL_lt6 x hc.1
    · simp
  · simp

theorem parseR_cases (l : List UInt8) : (parseR l).2 = 0 ∨ (parseR l).2 = 3 := by
  unfold parseR
  split
  · split <;> simp
  · simp

/-- No text of an address: its digits, without colons, are none. -/
theorem parseR_none (l : List UInt8) (h : unhexL (l.filter (· != 58)) = none) : parseR l = (0, 3) := by
  unfold parseR
  rw [h]

/-- Too few digits. -/
theorem parseR_few (l v : List UInt8) (h : unhexL (l.filter (· != 58)) = some v) (hv : v.length < 6) : parseR l = (0, 3) := by
  unfold parseR
  rw [h]
  simp
  omega

theorem parseR_other (l v : List UInt8) (h : unhexL (l.filter (· != 58)) = some v) (hv : 6 ≤ v.length) (hn : txt (v.take 6) ≠ l) : parseR l = (0, 3) := by
  apply parseR_bad
  intro x hx e
  rw [← e, txt_unhex] at h
  obtain rfl := Option.some.inj h
  rw [List.take_of_length_le (by omega)] at hn
  exact hn e

theorem parseR_same (l v : List UInt8) (hv : 6 ≤ v.length) (hn : txt (v.take 6) = l) : parseR l = (getL 0 (v.take 6), 0) := by
  rw [← hn]
  exact parseR_good _ (by simp; omega)

/-- Without its colons. -/
theorem replaceK_filter (c : UInt8) : ∀ l : List UInt8, Lib.replaceK [c] [] (l.count c) l = l.filter (· != c)
  | [] => by simp [Lib.replaceK]
  | b :: l => by
    have ih := replaceK_filter c l
    by_cases hb : b = c
    · subst hb
      rw [List.count_cons_self, Lib.replaceK_hit _ _ _ _ 0 (by simp [Lib.index])]
      simpa using ih
    · rw [List.count_cons_of_ne hb, List.filter_cons, if_pos (by simpa using hb), ← ih]
      cases hk : l.count c with
      | zero => simp [Lib.replaceK]
      | succ k =>
        obtain ⟨i, hi⟩ := Lib.index_of_count (s := l) (old := [c]) (by rw [Lib.count_one]; omega)
        have hi' : Lib.index (b :: l) [c] = ((i + 1 : Nat) : Int) := by
          rw [Lib.index, if_neg (by simpa using fun e => hb e.symm), hi, if_neg (by simp <;> omega)]
          omega
        rw [Lib.replaceK_hit _ _ _ _ _ hi, Lib.replaceK_hit _ _ _ _ _ hi']
        simp

theorem replaceAll_colon (l : List UInt8) : Lib.replaceAll l [58] [] = l.filter (· != 58) := by
  rw [Lib.replaceAll, Lib.replace, if_neg (by decide), Lib.replaceNum, if_pos (by omega), Lib.count_one, replaceK_filter]

/-! The document's way: each byte's two digits by themselves. -/

/-- The j-th byte's digits, and what stands behind them. -/
def goodAt (l : List UInt8) (j : Nat) : Prop := 0 ≤ unD (l.getD (3 * j) 0) ∧ 0 ≤ unD (l.getD (3 * j + 1) 0) ∧ (j < 5 → l.getD (3 * j + 2) 0 = 58)
def valAt (l : List UInt8) (j : Nat) : UInt8 := UInt8.ofNat (16 * (unD (l.getD (3 * j) 0)).toNat + (unD (l.getD (3 * j + 1) 0)).toNat)
def vals (l : List UInt8) (k : Nat) : List UInt8 := (List.range k).map (valAt l)

theorem vals_length (l : List UInt8) (k : Nat) : (vals l k).length = k := by simp [vals]
theorem vals_succ (l : List UInt8) (k : Nat) : vals l (k + 1) = vals l k ++ [valAt l k] := by simp [vals, List.range_succ]

theorem hex_pair (a b : UInt8) (ha : 0 ≤ unD a) (hb : 0 ≤ unD b) : hexL [UInt8.ofNat (16 * (unD a).toNat + (unD b).toNat)] = [a, b] := by
  apply hexL_unhexL
  simp only [unhexL]
  rw [if_neg (by omega)]
  rfl

theorem txt_vals (l : List UInt8) (hl : l.length = 17) (h : ∀ j, j < 6 → goodAt l j) : txt (vals l 6) = l := by
  match l, hl with
  | [c0, c1, c2, c3, c4, c5, c6, c7, c8, c9, c10, c11, c12, c13, c14, c15, c16], _ =>
    have h0 := h 0 (by omega)
    have h1 := h 1 (by omega)
    have h2 := h 2 (by omega)
    have h3 := h 3 (by omega)
    have h4 := h 4 (by omega)
    have h5 := h 5 (by omega)
    simp [goodAt] at h0 h1 h2 h3 h4 h5
    simp only [vals, List.range, List.range.loop, List.map_cons, List.map_nil, valAt, txt]
    simp only [List.getD_cons_zero, List.getD_cons_succ, Nat.mul_zero, Nat.reduceMul, Nat.reduceAdd]
    rw [hex_pair _ _ h0.1 h0.2.1, hex_pair _ _ h1.1 h1.2.1, hex_pair _ _ h2.1 h2.2.1, hex_pair _ _ h3.1 h3.2.1, hex_pair _ _ h4.1 h4.2.1, hex_pair _ _ h5.1 h5.2, h0.2.2, h1.2.2, h2.2.2, h3.2.2, h4.2.2]
    rfl

theorem good_hex (b : UInt8) : 0 ≤ unD (hexD (b.toNat / 16)) ∧ 0 ≤ unD (hexD (b.toNat % 16)) := by
  have := b.toNat_lt
  rw [unD_hexD _ (by omega), unD_hexD _ (by omega)]
  omega

theorem good_txt (x : List UInt8) (h : x.length = 6) (j : Nat) (hj : j < 6) : goodAt (txt x) j := by
  match x, h with
  | [a, b, c, d, e, f], _ =>
    have := good_hex a
    have := good_hex b
    have := good_hex c
    have := good_hex d
    have := good_hex e
    have := good_hex f
    match j, hj with
    | 0, _ => simpa [goodAt, txt, hexL] using good_hex a
    | 1, _ => simpa [goodAt, txt, hexL] using good_hex b
    | 2, _ => simpa [goodAt, txt, hexL] using good_hex c
    | 3, _ => simpa [goodAt, txt, hexL] using good_hex d
    | 4, _ => simpa [goodAt, txt, hexL] using good_hex e
    | 5, _ => simpa [goodAt, txt, hexL] using good_hex f

theorem parseR_vals (l : List UInt8) (hl : l.length = 17) (h : ∀ j, j < 6 → goodAt l j) : parseR l = (getL 0 (vals l 6), 0) := by
  have := parseR_good (vals l 6) (vals_length l 6)
  rwa [txt_vals l hl h] at this

theorem parseR_broken (l : List UInt8) (j : Nat) (hj : j < 6) (h : ¬ goodAt l j) : parseR l = (0, 3) := by
  apply parseR_bad
  rintro x hx rfl
  exact h (good_txt x hx j hj)

theorem parseR_long (l : List UInt8) (h : l.length ≠ 17) : parseR l = (0, 3) := by
  apply parseR_bad
  rintro x hx rfl
  exact h (txt_length6 x hx)

/-! The order of texts. -/

theorem hexD_less (m n : Nat) (hm : m < 16) (hn : n < 16) : (hexD m < hexD n ↔ m < n) ∧ (hexD m = hexD n ↔ m = n) := by
  have h' : ∀ m n : Fin 16, (hexD m.1 < hexD n.1 ↔ m.1 < n.1) ∧ (hexD m.1 = hexD n.1 ↔ m.1 = n.1) := by decide
  exact h' ⟨m, hm⟩ ⟨n, hn⟩

theorem pair_less (a b : UInt8) (r s : List UInt8) : Op.bytesLess (hexD (a.toNat / 16) :: hexD (a.toNat % 16) :: r) (hexD (b.toNat / 16) :: hexD (b.toNat % 16) :: s) = (decide (a.toNat < b.toNat) || (decide (a.toNat = b.toNat) && Op.bytesLess r s)) := by
  have ha := a.toNat_lt
  have hb := b.toNat_lt
  obtain ⟨p1, p2⟩ := hexD_less (a.toNat / 16) (b.toNat / 16) (by omega) (by omega)
  obtain ⟨q1, q2⟩ := hexD_less (a.toNat % 16) (b.toNat % 16) (by omega) (by omega)
  rw [Op.bytesLess, Op.bytesLess]
  rw [Bool.eq_iff_iff]
  simp only [Bool.or_eq_true, Bool.and_eq_true, decide_eq_true_eq, beq_iff_eq, p1, p2, q1, q2]
  by_cases h1 : a.toNat < b.toNat
  · simp only [h1, true_or, iff_true]
    by_cases h2 : a.toNat / 16 < b.toNat / 16
    · exact .inl h2
    · exact .inr ⟨by omega, .inl (by omega)⟩
  · by_cases h3 : a.toNat = b.toNat
    · simp [h3]
    · simp only [h1, h3, false_and, or_false, iff_false]
      rintro (h | ⟨h, h' | ⟨h', _⟩⟩) <;> omega

theorem txt_less : ∀ x y : List UInt8, x.length = y.length → Op.bytesLess (txt x) (txt y) = Op.bytesLess x y
  | [], [], _ => rfl
  | [a], [b], _ => by
    simp only [txt, hexL]
    rw [pair_less, Op.bytesLess]
    rw [Bool.eq_iff_iff]
    simp [Op.bytesLess, UInt8.lt_iff_toNat_lt]
  | a :: c :: x, b :: d :: y, h => by
    have ih := txt_less (c :: x) (d :: y) (by simpa using h)
    simp only [txt, hexL, List.cons_append, List.nil_append]
    rw [pair_less, Op.bytesLess, ih]
    conv => rhs; rw [Op.bytesLess]
    rw [Bool.eq_iff_iff]
    simp [UInt8.lt_iff_toNat_lt, ← UInt8.toNat_inj]

theorem getL_from (n : Nat) (l : List UInt8) : getL n l = n * 256 ^ l.length + getL 0 l := by
  induction l generalizing n with
  | nil => simp [getL]
  | cons b l ih =>
    have e : ∀ m, getL m (b :: l) = getL (m * 256 + b.toNat) l := fun m => rfl
    rw [e n, e 0, ih, ih (0 * 256 + b.toNat), List.length_cons, Nat.pow_succ]
    simp only [Nat.zero_mul, Nat.zero_add, Nat.add_mul]
    rw [Nat.mul_assoc, Nat.mul_comm 256 (256 ^ l.length)]
    omega

theorem getL_less : ∀ x y : List UInt8, x.length = y.length → Op.bytesLess x y = decide (getL 0 x < getL 0 y)
  | [], [], _ => by simp [Op.bytesLess, getL]
  | a :: x, b :: y, h => by
    have hl : x.length = y.length := by simpa using h
    have ih := getL_less x y hl
    have e : ∀ (c : UInt8) (l : List UInt8), getL 0 (c :: l) = c.toNat * 256 ^ l.length + getL 0 l := fun c l => by
      have : getL 0 (c :: l) = getL (0 * 256 + c.toNat) l := rfl
      rw [this, getL_from]; simp
    rw [Op.bytesLess, ih, e, e, hl]
    have g1 := getL_lt x
    have g2 := getL_lt y
    rw [hl] at g1
    rw [Bool.eq_iff_iff]
    simp only [Bool.or_eq_true, Bool.and_eq_true, decide_eq_true_eq, beq_iff_eq, UInt8.lt_iff_toNat_lt, ← UInt8.toNat_inj]
    rcases Nat.lt_trichotomy a.toNat b.toNat with h1 | h1 | h1
    · have := Nat.mul_le_mul_right (256 ^ y.length) (show a.toNat + 1 ≤ b.toNat from h1)
      rw [Nat.add_mul] at this
      simp only [h1, true_or, true_iff]
      omega
    · simp [h1]
    · have := Nat.mul_le_mul_right (256 ^ y.length) (show b.toNat + 1 ≤ a.toNat from h1)
      rw [Nat.add_mul] at this
      constructor
      · rintro (h' | ⟨h', _⟩) <;> omega
      · intro h'; omega

/-- Texts of addresses stand in the order of the addresses. -/
theorem order (a b : Nat) (ha : a < 281474976710656) (hb : b < 281474976710656) : Op.bytesLess (txt (putL a 6)) (txt (putL b 6)) = decide (a < b) := by
  rw [txt_less _ _ (by simp [putL_length]), getL_less _ _ (by simp [putL_length]), getL_putL6 a ha, getL_putL6 b hb]

theorem text_same (a b : Nat) (ha : a < 281474976710656) (hb : b < 281474976710656) : (txt (putL a 6) == txt (putL b 6)) = decide (a = b) := by
  rw [Bool.eq_iff_iff]
  simp only [beq_iff_eq, decide_eq_true_eq]
  constructor
  · intro h
    have := txt_inj _ _ h
    rw [← getL_putL6 a ha, this, getL_putL6 b hb]
  · rintro rfl; rfl

end Mac
end Go.Proofs.Ytbighadkcmhplaa
