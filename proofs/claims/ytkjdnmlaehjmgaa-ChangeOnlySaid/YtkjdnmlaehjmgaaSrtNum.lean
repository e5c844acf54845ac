/-
  Sorting as plain data (no program, any element): places that move (Mv), what stands in order (Inc), a rotation, an insertion, and two runs in order made one (merge_*). Go's stable sort by comparison is these.
-/
import Derived.Test.YtkjdnmlaehjmgaaOctNum
namespace Go.Proofs.Ytkjdnmlaehjmgaa
namespace Srt

/-- A strict total order: what is not ahead of one another is the same. -/
structure Tot {α : Type} (lt : α → α → Bool) : Prop where
  irr : ∀ x, lt x x = false
  tr : ∀ x y z, lt x y = true → lt y z = true → lt x z = true
  tot : ∀ x y, lt x y = false → lt y x = false → x = y

variable {α : Type} {lt : α → α → Bool}

abbrev Le (lt : α → α → Bool) (x y : α) : Prop := lt y x = false

theorem Tot.le_trans (H : Tot lt) {x y z : α} (h : Le lt x y) (k : Le lt y z) : Le lt x z := by
  show lt z x = false
  cases hz : lt z x with
  | false => rfl
  | true =>
    have h' : lt y x = false := h
    have k' : lt z y = false := k
    cases hxy : lt x y with
    | true => rw [H.tr _ _ _ hz hxy] at k'; cases k'
    | false =>
      obtain rfl := H.tot _ _ hxy h'
      rw [hz] at k'
      cases k'

theorem Tot.lt_le (H : Tot lt) {x y : α} (h : lt x y = true) : Le lt x y := by
  show lt y x = false
  cases hz : lt y x with
  | false => rfl
  | true => have := H.tr _ _ _ h hz; rw [H.irr] at this; cases this

theorem Tot.le_lt (H : Tot lt) {x y z : α} (h : Le lt x y) (k : lt y z = true) : lt x z = true := by
  have h' : lt y x = false := h
  cases hxy : lt x y with
  | true => exact H.tr _ _ _ hxy k
  | false =>
    obtain rfl := H.tot _ _ hxy h'
    exact k

theorem Tot.lt_le_lt (H : Tot lt) {x y z : α} (h : lt x y = true) (k : Le lt y z) : lt x z = true := by
  have k' : lt z y = false := k
  cases hyz : lt y z with
  | true => exact H.tr _ _ _ h hyz
  | false =>
    obtain rfl := H.tot _ _ hyz k'
    exact h

/-- Places a to b stand in order. -/
def Inc (lt : α → α → Bool) (a b : Nat) (l : List α) : Prop := ∀ i j x y, a ≤ i → i < j → j < b → l[i]? = some x → l[j]? = some y → Le lt x y

/-- What stands at k stood at σ k; all are there. -/
structure Mv (σ : Nat → Nat) (l l' : List α) : Prop where
  len : l'.length = l.length
  perm : l'.Perm l
  at_ : ∀ k, l'[k]? = l[σ k]?

theorem Mv.id (l : List α) : Mv (fun k => k) l l := ⟨rfl, .refl _, fun _ => rfl⟩
theorem Mv.trans {σ τ : Nat → Nat} {l l1 l2 : List α} (h : Mv σ l l1) (k : Mv τ l1 l2) : Mv (fun i => σ (τ i)) l l2 := ⟨k.len.trans h.len, k.perm.trans h.perm, fun i => by rw [k.at_, h.at_]⟩
theorem Mv.cong {σ τ : Nat → Nat} {l l' : List α} (h : Mv σ l l') (e : ∀ k, σ k = τ k) : Mv τ l l' := ⟨h.len, h.perm, fun k => by rw [h.at_, e]⟩

def swpS (i j k : Nat) : Nat := if k = i then j else if k = j then i else k

theorem Mv.swp (l : List α) (i j : Nat) (hi : i < l.length) (hj : j < l.length) : Mv (swpS i j) l ((l.set i l[j]).set j l[i]) := by
  refine ⟨by simp, List.set_set_perm hi hj, fun k => ?_⟩
  unfold swpS
  rw [List.getElem?_set, List.getElem?_set]
  by_cases h1 : k = j
  · subst h1
    rw [if_pos rfl, List.length_set, if_pos hj]
    by_cases h2 : k = i
    · subst h2; rw [if_pos rfl, List.getElem?_eq_getElem hi]
    · rw [if_neg h2, if_pos rfl, List.getElem?_eq_getElem hi]
  · rw [if_neg (fun e => h1 e.symm)]
    by_cases h2 : k = i
    · subst h2
      rw [if_pos rfl, if_pos hi, if_pos rfl, List.getElem?_eq_getElem hj]
    · rw [if_neg (fun e => h2 e.symm), if_neg h2, if_neg h1]

/-- All are there; only what lies in a to b has moved, and it lies there yet. -/
structure Moved (a b : Nat) (l l' : List α) : Prop where
  len : l'.length = l.length
  perm : l'.Perm l
  out : ∀ k, k < a ∨ b ≤ k → l'[k]? = l[k]?
  ins : ∀ k, a ≤ k → k < b → ∃ k', a ≤ k' ∧ k' < b ∧ l'[k]? = l[k']?

theorem Moved.refl (a b : Nat) (l : List α) : Moved a b l l := ⟨rfl, .refl _, fun _ _ => rfl, fun k h1 h2 => ⟨k, h1, h2, rfl⟩⟩
theorem Moved.trans {a b : Nat} {l l1 l2 : List α} (h : Moved a b l l1) (k : Moved a b l1 l2) : Moved a b l l2 :=
  ⟨k.len.trans h.len, k.perm.trans h.perm, fun i hi => (k.out i hi).trans (h.out i hi), fun i h1 h2 => by
    obtain ⟨i', e1, e2, e3⟩ := k.ins i h1 h2
    obtain ⟨i2, d1, d2, d3⟩ := h.ins i' e1 e2
    exact ⟨i2, d1, d2, e3.trans d3⟩⟩
theorem Moved.wide {a b a' b' : Nat} {l l' : List α} (h : Moved a b l l') (ha : a' ≤ a) (hb : b ≤ b') : Moved a' b' l l' :=
  ⟨h.len, h.perm, fun k hk => h.out k (by omega), fun k h1 h2 => by
    by_cases hi : a ≤ k ∧ k < b
    · obtain ⟨k', e1, e2, e3⟩ := h.ins k hi.1 hi.2
      exact ⟨k', by omega, by omega, e3⟩
    · exact ⟨k, h1, h2, h.out k (by omega)⟩⟩
theorem Mv.moved {σ : Nat → Nat} {l l' : List α} {a b : Nat} (h : Mv σ l l') (ho : ∀ k, k < a ∨ b ≤ k → σ k = k) (hi : ∀ k, a ≤ k → k < b → a ≤ σ k ∧ σ k < b) : Moved a b l l' :=
  ⟨h.len, h.perm, fun k hk => by rw [h.at_, ho k hk], fun k h1 h2 => ⟨σ k, (hi k h1 h2).1, (hi k h1 h2).2, h.at_ k⟩⟩

theorem Moved.swp {a b : Nat} (l : List α) (i j : Nat) (hi : i < l.length) (hj : j < l.length) (h1 : a ≤ i) (h2 : i < b) (h3 : a ≤ j) (h4 : j < b) : Moved a b l ((l.set i l[j]).set j l[i]) :=
  (Mv.swp l i j hi hj).moved (a := a) (b := b) (fun k hk => by unfold swpS; (repeat' split) <;> omega) (fun k _ _ => by unfold swpS; (repeat' split) <;> omega)

theorem Inc.one (a b : Nat) (h : b ≤ a + 1) (l : List α) : Inc lt a b l := fun i j x y h1 h2 h3 _ _ => absurd h3 (by omega)
theorem Inc.sub {a b a' b' : Nat} {l : List α} (h : Inc lt a b l) (ha : a ≤ a') (hb : b' ≤ b) : Inc lt a' b' l := fun i j x y h1 h2 h3 => h i j x y (by omega) h2 (by omega)
theorem Inc.moved {a b p q : Nat} {l l' : List α} (h : Inc lt a b l) (hm : Moved p q l l') (hd : b ≤ p ∨ q ≤ a) : Inc lt a b l' := fun i j x y h1 h2 h3 h4 h5 => h i j x y h1 h2 h3 (by rw [← hm.out i (by omega)]; exact h4) (by rw [← hm.out j (by omega)]; exact h5)

/-- A slot that is to go ahead yet: all but what ends at j is in order. -/
def Slot (lt : α → α → Bool) (a i j : Nat) (l : List α) : Prop := ∀ p q x y, a ≤ p → p < q → q ≤ i → q ≠ j → l[p]? = some x → l[q]? = some y → Le lt x y

theorem Slot.start {a i : Nat} {l : List α} (h : Inc lt a i l) : Slot lt a i i l := fun p q x y h1 h2 h3 h4 => h p q x y h1 h2 (by omega)

theorem Slot.step (H : Tot lt) {a i j : Nat} {l : List α} (h : Slot lt a i (j + 1) l) (hj : j + 1 ≤ i) (ha : a ≤ j) (hl : j + 1 < l.length) (hlt : lt l[j + 1] (l[j]'(by omega)) = true) : Slot lt a i j ((l.set (j + 1) (l[j]'(by omega))).set j l[j + 1]) := by
  have hm := Mv.swp l (j + 1) j hl (by omega)
  intro p q x y h1 h2 h3 h4 h5 h6
  rw [hm.at_] at h5 h6
  unfold swpS at h5 h6
  have e1 : l[j]? = some (l[j]'(by omega)) := List.getElem?_eq_getElem (by omega)
  have e2 : l[j + 1]? = some l[j + 1] := List.getElem?_eq_getElem hl
  by_cases hq : q = j + 1
  · rw [if_pos hq, e1] at h6
    cases h6
    by_cases hp : p = j
    · subst hp
      rw [if_neg (by omega), if_pos rfl, e2] at h5
      cases h5
      exact H.lt_le hlt
    · rw [if_neg (by omega), if_neg hp] at h5
      exact h p j x _ h1 (by omega) (by omega) (by omega) h5 e1
  · rw [if_neg hq, if_neg h4] at h6
    by_cases hp : p = j + 1
    · rw [if_pos hp] at h5
      exact h j q x y ha (by omega) h3 hq h5 h6
    · rw [if_neg hp] at h5
      by_cases hp2 : p = j
      · rw [if_pos hp2] at h5
        exact h (j + 1) q x y (by omega) (by omega) h3 hq h5 h6
      · rw [if_neg hp2] at h5
        exact h p q x y h1 h2 h3 hq h5 h6

theorem Slot.stop0 {a i : Nat} {l : List α} (h : Slot lt a i a l) : Inc lt a (i + 1) l := fun p q x y h1 h2 h3 => h p q x y h1 h2 (by omega) (by omega)
theorem Slot.stop (H : Tot lt) {a i j : Nat} {l : List α} (h : Slot lt a i (j + 1) l) (hj : j + 1 ≤ i) (hl : j + 1 < l.length) (hle : lt l[j + 1] (l[j]'(by omega)) = false) : Inc lt a (i + 1) l := by
  intro p q x y h1 h2 h3 h5 h6
  by_cases hq : q = j + 1
  · subst hq
    rw [List.getElem?_eq_getElem hl] at h6
    cases h6
    by_cases hp : p = j
    · subst hp
      rw [List.getElem?_eq_getElem (by omega)] at h5
      cases h5
      exact hle
    · exact H.le_trans (h p j x _ h1 (by omega) (by omega) (by omega) h5 (List.getElem?_eq_getElem (by omega))) hle
  · exact h p q x y h1 h2 (by omega) hq h5 h6

/-- The places m to b ahead of a to m. -/
def rotS (a m b k : Nat) : Nat := if a ≤ k ∧ k < b then (if k < a + (b - m) then k + (m - a) else k - (b - m)) else k
/-- n places from a on and n from b on in each other's stead. -/
def rngS (a b n k : Nat) : Nat := if a ≤ k ∧ k < a + n then k + (b - a) else if b ≤ k ∧ k < b + n then k - (b - a) else k

theorem rot_gt (m i j k : Nat) (h : j < i) (hi : i ≤ m) : rngS (m - i) m j (rotS (m - (i - j)) m (m + j) k) = rotS (m - i) m (m + j) k := by
  unfold rngS rotS
  (repeat' split) <;> omega
theorem rot_lt (m i j k : Nat) (h : i < j) (hi : i ≤ m) : rngS (m - i) (m + j - i) i (rotS (m - i) m (m + (j - i)) k) = rotS (m - i) m (m + j) k := by
  unfold rngS rotS
  (repeat' split) <;> omega
theorem rot_eq (m i k : Nat) (hi : i ≤ m) : rngS (m - i) m i k = rotS (m - i) m (m + i) k := by
  unfold rngS rotS
  (repeat' split) <;> omega
theorem rng_step (a b n i k : Nat) (hb : a + n ≤ b) (hi : i < n) : rngS a b i (swpS (a + i) (b + i) k) = rngS a b (i + 1) k := by
  unfold rngS swpS
  (repeat' split) <;> omega
theorem rng_none (a b k : Nat) : rngS a b 0 k = k := by
  unfold rngS
  (repeat' split) <;> omega

theorem rot_moved {a m b : Nat} {l l' : List α} (ha : a ≤ m) (hb : m ≤ b) (h : Mv (rotS a m b) l l') : Moved a b l l' :=
  h.moved (fun k hk => by unfold rotS; (repeat' split) <;> omega) (fun k h1 h2 => by unfold rotS; (repeat' split) <;> omega)
theorem rot_none_left (m b k : Nat) : rotS m m b k = k := by unfold rotS; (repeat' split) <;> omega
theorem rot_none_right (a m k : Nat) : rotS a m m k = k := by unfold rotS; (repeat' split) <;> omega

/-- One goes up: a to i - 1. -/
theorem up_none (a k : Nat) : rotS a (a + 1) (a + 1) k = k := rot_none_right _ _ _
theorem up_step (a c k : Nat) (h : a ≤ c) : rotS a (a + 1) (c + 1) (swpS c (c + 1) k) = rotS a (a + 1) (c + 2) k := by
  unfold rotS swpS
  (repeat' split) <;> omega
/-- One comes down: m to i. -/
theorem down_none (m k : Nat) : rotS m m (m + 1) k = k := rot_none_left _ _ _
theorem down_step (m c k : Nat) (h : c < m) : rotS (c + 1) m (m + 1) (swpS (c + 1) c k) = rotS c m (m + 1) k := by
  unfold rotS swpS
  (repeat' split) <;> omega

/-- Two runs, the first of one: it goes up behind all that are less. -/
theorem merge_up (H : Tot lt) {a b i : Nat} {l l' : List α} (h2 : Inc lt (a + 1) b l) (hi : a + 1 ≤ i) (hb : i ≤ b) (x : α) (hx : l[a]? = some x)
    (hl : ∀ k y, a + 1 ≤ k → k < i → l[k]? = some y → lt y x = true) (hr : ∀ k y, i ≤ k → k < b → l[k]? = some y → Le lt x y) (hm : Mv (rotS a (a + 1) i) l l') : Inc lt a b l' := by
  intro p q u v h1 h2' h3 h4 h5
  rw [hm.at_] at h4 h5
  unfold rotS at h4 h5
  by_cases hq : q < i
  · by_cases hq2 : q < a + (i - (a + 1))
    · rw [if_pos (by omega), if_pos (by omega)] at h4 h5
      exact h2 _ _ u v (by omega) (by omega) (by omega) h4 h5
    · rw [if_pos (by omega), if_neg (by omega), show q - (i - (a + 1)) = a by omega, hx] at h5
      cases h5
      rw [if_pos (by omega), if_pos (by omega)] at h4
      exact H.lt_le (hl _ u (by omega) (by omega) h4)
  · rw [if_neg (by omega)] at h5
    by_cases hp : p < i
    · by_cases hp2 : p < a + (i - (a + 1))
      · rw [if_pos (by omega), if_pos (by omega)] at h4
        exact h2 _ _ u v (by omega) (by omega) (by omega) h4 h5
      · rw [if_pos (by omega), if_neg (by omega), show p - (i - (a + 1)) = a by omega, hx] at h4
        cases h4
        exact hr _ v (by omega) (by omega) h5
    · rw [if_neg (by omega)] at h4
      exact h2 _ _ u v (by omega) (by omega) (by omega) h4 h5

/-- Two runs, the second of one: it comes down ahead of all that are greater. -/
theorem merge_down (H : Tot lt) {a m i : Nat} {l l' : List α} (h1 : Inc lt a m l) (hi : a ≤ i) (hm' : i ≤ m) (x : α) (hx : l[m]? = some x)
    (hl : ∀ k y, a ≤ k → k < i → l[k]? = some y → Le lt y x) (hr : ∀ k y, i ≤ k → k < m → l[k]? = some y → lt x y = true) (hm : Mv (rotS i m (m + 1)) l l') : Inc lt a (m + 1) l' := by
  intro p q u v g1 g2 g3 h4 h5
  rw [hm.at_] at h4 h5
  unfold rotS at h4 h5
  by_cases hq : q < i
  · rw [if_neg (by omega)] at h4 h5
    exact h1 _ _ u v (by omega) (by omega) (by omega) h4 h5
  · by_cases hq2 : q = i
    · rw [if_pos (by omega), if_pos (by omega), show q + (m - i) = m by omega, hx] at h5
      cases h5
      rw [if_neg (by omega)] at h4
      exact hl _ u (by omega) (by omega) h4
    · rw [if_pos (by omega), if_neg (by omega)] at h5
      by_cases hp : p < i
      · rw [if_neg (by omega)] at h4
        exact h1 _ _ u v (by omega) (by omega) (by omega) h4 h5
      · by_cases hp2 : p = i
        · rw [if_pos (by omega), if_pos (by omega), show p + (m - i) = m by omega, hx] at h4
          cases h4
          exact H.lt_le (hr _ v (by omega) (by omega) h5)
        · rw [if_pos (by omega), if_neg (by omega)] at h4
          exact h1 _ _ u v (by omega) (by omega) (by omega) h4 h5

/-- Two runs: what lies about the turn, and what the search has found there. -/
structure Cut (lt : α → α → Bool) (a m b s e mid : Nat) (l : List α) : Prop where
  first : Inc lt a m l
  second : Inc lt m b l
  as : a ≤ s
  sm : s ≤ m
  me : m ≤ e
  eb : e ≤ b
  sum : s + e = mid + m
  low : ∀ x y, a + 1 ≤ s → e < b → l[s - 1]? = some x → l[e]? = some y → Le lt x y
  high : ∀ x y, s < m → m < e → l[e - 1]? = some y → l[s]? = some x → lt y x = true

theorem le_or {l : List α} (H : Tot lt) {a b : Nat} (h : Inc lt a b l) {i j : Nat} {x y : α} (h1 : a ≤ i) (h2 : i ≤ j) (h3 : j < b) (hx : l[i]? = some x) (hy : l[j]? = some y) : Le lt x y := by
  by_cases e : i = j
  · subst e
    rw [hx] at hy
    cases hy
    exact H.irr x
  · exact h i j x y h1 (by omega) h3 hx hy

theorem getE {l : List α} {k : Nat} (h : k < l.length) : ∃ x, l[k]? = some x := ⟨_, List.getElem?_eq_getElem h⟩

/-- Each of the first part is not behind any of the second. -/
theorem Cut.low_all (H : Tot lt) {a m b s e mid : Nat} {l : List α} (c : Cut lt a m b s e mid l) (hb : b ≤ l.length) {i j : Nat} {x y : α} (h1 : a ≤ i) (h2 : i < s) (h3 : e ≤ j) (h4 : j < b) (hx : l[i]? = some x) (hy : l[j]? = some y) : Le lt x y := by
  obtain ⟨u, hu⟩ := getE (l := l) (k := s - 1) (by have := c.sm; have := c.me; have := c.eb; omega)
  obtain ⟨v, hv⟩ := getE (l := l) (k := e) (by omega)
  exact H.le_trans (le_or H c.first h1 (by omega) (by have := c.sm; omega) hx hu) (H.le_trans (c.low u v (by omega) (by omega) hu hv) (le_or H c.second c.me h3 h4 hv hy))

theorem Cut.high_all (H : Tot lt) {a m b s e mid : Nat} {l : List α} (c : Cut lt a m b s e mid l) (hb : b ≤ l.length) {i j : Nat} {x y : α} (h1 : s ≤ i) (h2 : i < m) (h3 : m ≤ j) (h4 : j < e) (hx : l[i]? = some x) (hy : l[j]? = some y) : Le lt y x := by
  obtain ⟨u, hu⟩ := getE (l := l) (k := s) (by have := c.sm; have := c.me; have := c.eb; omega)
  obtain ⟨v, hv⟩ := getE (l := l) (k := e - 1) (by have := c.eb; omega)
  exact H.le_trans (le_or H c.second h3 (by omega) (by have := c.eb; omega) hy hv) (H.le_trans (H.lt_le (c.high u v (by omega) (by omega) hv hu)) (le_or H c.first c.as h1 h2 hu hx))

structure Halves (lt : α → α → Bool) (a b s e mid : Nat) (l : List α) : Prop where
  one : Inc lt a s l
  two : Inc lt s mid l
  three : Inc lt mid e l
  four : Inc lt e b l
  cross : ∀ i j x y, a ≤ i → i < mid → mid ≤ j → j < b → l[i]? = some x → l[j]? = some y → Le lt x y

theorem Cut.turn (H : Tot lt) {a m b s e mid : Nat} {l l' : List α} (c : Cut lt a m b s e mid l) (hb : b ≤ l.length) (hm : Mv (rotS s m e) l l') : Halves lt a b s e mid l' := by
  obtain ⟨c1, c2, c3, c4, c5, c6, c7, _, _⟩ := id c
  refine ⟨?_, ?_, ?_, ?_, ?_⟩
  · intro i j x y h1 h2 h3 h4 h5
    rw [hm.at_] at h4 h5
    unfold rotS at h4 h5
    rw [if_neg (by omega)] at h4 h5
    exact c1 i j x y h1 h2 (by omega) h4 h5
  · intro i j x y h1 h2 h3 h4 h5
    rw [hm.at_] at h4 h5
    unfold rotS at h4 h5
    rw [if_pos (by omega), if_pos (by omega)] at h4 h5
    exact c2 _ _ x y (by omega) (by omega) (by omega) h4 h5
  · intro i j x y h1 h2 h3 h4 h5
    rw [hm.at_] at h4 h5
    unfold rotS at h4 h5
    rw [if_pos (by omega), if_neg (by omega)] at h4 h5
    exact c1 _ _ x y (by omega) (by omega) (by omega) h4 h5
  · intro i j x y h1 h2 h3 h4 h5
    rw [hm.at_] at h4 h5
    unfold rotS at h4 h5
    rw [if_neg (by omega)] at h4 h5
    exact c2 _ _ x y (by omega) (by omega) (by omega) h4 h5
  · intro i j x y h1 h2 h3 h4 h5 h6
    rw [hm.at_] at h5 h6
    unfold rotS at h5 h6
    by_cases hi : i < s
    · rw [if_neg (by omega)] at h5
      by_cases hj : j < e
      · rw [if_pos (by omega), if_neg (by omega)] at h6
        exact c1 _ _ x y (by omega) (by omega) (by omega) h5 h6
      · rw [if_neg (by omega)] at h6
        exact c.low_all H hb h1 hi (by omega) h4 h5 h6
    · rw [if_pos (by omega), if_pos (by omega)] at h5
      by_cases hj : j < e
      · rw [if_pos (by omega), if_neg (by omega)] at h6
        exact c.high_all H hb (by omega) (by omega) (by omega) (by omega) h6 h5
      · rw [if_neg (by omega)] at h6
        exact c2 _ _ x y (by omega) (by omega) (by omega) h5 h6

/-- Both halves in order, none of the first behind any of the second. -/
theorem Halves.done {a b mid : Nat} {l l2 l3 : List α} (hc : ∀ i j x y, a ≤ i → i < mid → mid ≤ j → j < b → l[i]? = some x → l[j]? = some y → Le lt x y)
    (h2 : Moved a mid l l2) (i2 : Inc lt a mid l2) (h3 : Moved mid b l2 l3) (i3 : Inc lt mid b l3) : Inc lt a b l3 := by
  intro i j x y g1 g2 g3 g4 g5
  by_cases hj : j < mid
  · rw [h3.out _ (by omega)] at g4 g5
    exact i2 i j x y g1 g2 hj g4 g5
  · by_cases hi : i < mid
    · rw [h3.out _ (by omega)] at g4
      obtain ⟨k, k1, k2, k3⟩ := h3.ins j (by omega) g3
      rw [k3, h2.out _ (by omega)] at g5
      obtain ⟨q, q1, q2, q3⟩ := h2.ins i g1 hi
      rw [q3] at g4
      exact hc _ _ x y q1 q2 k1 k2 g4 g5
    · exact i3 i j x y (by omega) g2 g3 g4 g5

theorem Inc.pair {n : Nat} {l : List α} (h : Inc lt 0 n l) (hn : l.length ≤ n) : l.Pairwise (Le lt) :=
  List.pairwise_iff_getElem.2 fun i j hi hj hij => h i j _ _ (Nat.zero_le _) hij (by omega) (List.getElem?_eq_getElem hi) (List.getElem?_eq_getElem hj)

theorem Inc.same (H : Tot lt) {l1 l2 : List α} (h1 : Inc lt 0 l1.length l1) (h2 : Inc lt 0 l2.length l2) (hp : l1.Perm l2) : l1 = l2 :=
  List.Perm.eq_of_pairwise (fun a b _ _ h k => H.tot a b k h) (h1.pair (Nat.le_refl _)) (h2.pair (Nat.le_refl _)) hp

end Srt
end Go.Proofs.Ytkjdnmlaehjmgaa
