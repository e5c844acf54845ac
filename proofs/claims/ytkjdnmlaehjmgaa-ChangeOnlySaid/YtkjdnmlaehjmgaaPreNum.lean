/-
  Plain data of layer 17 (no program): vectors, which is better, the least of a row, and its first place.
-/
import Derived.Test.YtkjdnmlaehjmgaaSrtNum
namespace Go.Proofs.Ytkjdnmlaehjmgaa
namespace Pre

/-- A way to a root: the root, what it costs, the bridge that tells it, and that one's port. -/
structure Vc where
  r : Nat
  c : Nat
  b : Nat
  p : Int
  deriving DecidableEq, Inhabited

def cmpZ (x y : Int) : Int := if x < y then -1 else if y < x then 1 else 0
def orL (a b c d : Int) : Int := if a ≠ 0 then a else if b ≠ 0 then b else if c ≠ 0 then c else d
def ordV (x y : Vc) : Int := orL (cmpZ x.r y.r) (cmpZ x.c y.c) (cmpZ x.b y.b) (cmpZ x.p y.p)
def ltV (x y : Vc) : Bool := decide (x.r < y.r ∨ (x.r = y.r ∧ (x.c < y.c ∨ (x.c = y.c ∧ (x.b < y.b ∨ (x.b = y.b ∧ x.p < y.p))))))

theorem ord_lt (x y : Vc) : decide (ordV x y < 0) = ltV x y := by
  unfold ltV ordV orL cmpZ
  rw [decide_eq_decide]
  repeat' split
  all_goals omega

theorem eq_iff (x y : Vc) : x = y ↔ x.r = y.r ∧ x.c = y.c ∧ x.b = y.b ∧ x.p = y.p := by
  obtain ⟨x1, x2, x3, x4⟩ := x
  obtain ⟨y1, y2, y3, y4⟩ := y
  simp

theorem tot : Srt.Tot ltV where
  irr x := by unfold ltV; rw [decide_eq_false_iff_not]; omega
  tr x y z h k := by unfold ltV at *; rw [decide_eq_true_iff] at *; omega
  tot x y h k := by unfold ltV at *; rw [decide_eq_false_iff_not] at *; rw [eq_iff]; omega

def minV (m x : Vc) : Vc := if ltV x m then x else m
/-- The least of a row that begins with x. -/
def leastV (x : Vc) (l : List Vc) : Vc := l.foldl minV x

theorem least_cons (x y : Vc) (l : List Vc) : leastV x (y :: l) = leastV (minV x y) l := rfl
theorem least_next (x : Vc) (l : List Vc) (y : Vc) : leastV x (l ++ [y]) = minV (leastV x l) y := by unfold leastV; rw [List.foldl_append]; rfl

theorem min_le (x y : Vc) : Srt.Le ltV (minV x y) x ∧ Srt.Le ltV (minV x y) y := by
  unfold minV
  split
  · rename_i h; exact ⟨tot.lt_le h, tot.irr y⟩
  · rename_i h; exact ⟨tot.irr x, by simpa using h⟩

theorem least_is : ∀ (l : List Vc) (x : Vc), (leastV x l = x ∨ leastV x l ∈ l) ∧ Srt.Le ltV (leastV x l) x ∧ ∀ y ∈ l, Srt.Le ltV (leastV x l) y
  | [], x => ⟨.inl rfl, tot.irr x, fun y h => by simp at h⟩
  | y :: l, x => by
    obtain ⟨h1, h2, h3⟩ := least_is l (minV x y)
    rw [least_cons]
    obtain ⟨k1, k2⟩ := min_le x y
    refine ⟨?_, tot.le_trans h2 k1, fun z hz => ?_⟩
    · rcases h1 with h1 | h1
      · rw [h1]
        unfold minV
        split
        · exact .inr (by simp)
        · exact .inl rfl
      · exact .inr (by simp [h1])
    · rcases List.mem_cons.1 hz with rfl | hz
      · exact tot.le_trans h2 k2
      · exact h3 z hz

/-- The first place than which none is better: none of nothing. -/
def Fst (l : List Vc) (k : Nat) : Prop := ∃ x : Vc, l[k]? = some x ∧ (∀ (j : Nat) (y : Vc), l[j]? = some y → Srt.Le ltV x y) ∧ ∀ (j : Nat) (y : Vc), j < k → l[j]? = some y → ¬ y = x
def FstZ (l : List Vc) (z : Int) : Prop := (l = [] ∧ z = -1) ∨ ∃ k : Nat, z = k ∧ Fst l k

theorem Fst.uniq {l : List Vc} {k k' : Nat} (h : Fst l k) (h' : Fst l k') : k = k' := by
  obtain ⟨x, h1, h2, h3⟩ := h
  obtain ⟨y, g1, g2, g3⟩ := h'
  have e : x = y := tot.tot x y (g2 _ _ h1) (h2 _ _ g1)
  subst e
  rcases Nat.lt_trichotomy k k' with h | h | h
  · exact absurd rfl (g3 _ _ h h1)
  · exact h
  · exact absurd rfl (h3 _ _ h g1)

theorem FstZ.uniq {l : List Vc} {z z' : Int} (h : FstZ l z) (h' : FstZ l z') : z = z' := by
  rcases h with ⟨rfl, rfl⟩ | ⟨k, rfl, h⟩ <;> rcases h' with ⟨h1, rfl⟩ | ⟨k', rfl, h'⟩
  · rfl
  · obtain ⟨x, h, _⟩ := h'; simp at h
  · subst h1; obtain ⟨x, h, _⟩ := h; simp at h
  · rw [h.uniq h']

/-- Where the least first stands. -/
theorem first_of_least (x : Vc) (l : List Vc) (k : Nat) (h : (x :: l)[k]? = some (leastV x l)) (hf : ∀ j y, j < k → (x :: l)[j]? = some y → ¬ y = leastV x l) : Fst (x :: l) k := by
  obtain ⟨_, h2, h3⟩ := least_is l x
  refine ⟨_, h, fun j y hy => ?_, hf⟩
  rcases List.mem_cons.1 (List.mem_of_getElem? hy) with rfl | hm
  · exact h2
  · exact h3 y hm

theorem least_at (x : Vc) (l : List Vc) : ∃ k : Nat, (x :: l)[k]? = some (leastV x l) := by
  obtain ⟨h, _⟩ := least_is l x
  exact List.getElem?_of_mem (by rcases h with h | h <;> simp [h])

/-- The document's search: the first place of those gone by. -/
def Fto (l : List Vc) (n k : Nat) : Prop := k < n ∧ ∃ x : Vc, l[k]? = some x ∧ (∀ (j : Nat) (y : Vc), j < n → l[j]? = some y → Srt.Le ltV x y) ∧ ∀ (j : Nat) (y : Vc), j < k → l[j]? = some y → ltV x y = true

theorem Fto.one (l : List Vc) (h : 0 < l.length) : Fto l 1 0 := by
  refine ⟨by omega, l[0], List.getElem?_eq_getElem h, fun j y hj hy => ?_, fun j y hj => absurd hj (by omega)⟩
  have : j = 0 := by omega
  subst this
  rw [List.getElem?_eq_getElem h] at hy
  cases hy
  exact tot.irr _

theorem Fto.better {l : List Vc} {n k : Nat} (h : Fto l n k) (hn : n < l.length) (hk : k < l.length) (hb : ltV l[n] l[k] = true) : Fto l (n + 1) n := by
  obtain ⟨h0, x, h1, h2, h3⟩ := h
  rw [List.getElem?_eq_getElem hk] at h1
  cases h1
  refine ⟨by omega, l[n], List.getElem?_eq_getElem hn, fun j y hj hy => ?_, fun j y hj hy => ?_⟩
  · by_cases e : j = n
    · subst e
      rw [List.getElem?_eq_getElem hn] at hy
      cases hy
      exact tot.irr _
    · exact tot.lt_le (tot.lt_le_lt hb (h2 j y (by omega) hy))
  · exact tot.lt_le_lt hb (h2 j y hj hy)

theorem Fto.not {l : List Vc} {n k : Nat} (h : Fto l n k) (hn : n < l.length) (hk : k < l.length) (hb : ltV l[n] l[k] = false) : Fto l (n + 1) k := by
  obtain ⟨h0, x, h1, h2, h3⟩ := h
  rw [List.getElem?_eq_getElem hk] at h1
  cases h1
  refine ⟨by omega, l[k], List.getElem?_eq_getElem hk, fun j y hj hy => ?_, h3⟩
  by_cases e : j = n
  · subst e
    rw [List.getElem?_eq_getElem hn] at hy
    cases hy
    exact hb
  · exact h2 j y (by omega) hy

theorem Fto.fst {l : List Vc} {k : Nat} (h : Fto l l.length k) : Fst l k := by
  obtain ⟨h0, x, h1, h2, h3⟩ := h
  refine ⟨x, h1, fun j y hy => h2 j y (List.getElem?_eq_some_iff.1 hy).1 hy, fun j y hj hy e => ?_⟩
  subst e
  have := h3 j y hj hy
  rw [tot.irr] at this
  cases this

theorem exists_fst : ∀ l : List Vc, l ≠ [] → ∃ k, Fst l k
  | x :: l, _ => by
    have h : ∀ n, ∀ m, 0 < m → m ≤ (x :: l).length → m ≤ n → ∃ k, Fto (x :: l) m k := by
      intro n
      induction n with
      | zero => intro m h1 _ h3; omega
      | succ n ih =>
        intro m h1 h2 h3
        by_cases hm : m = 1
        · subst hm; exact ⟨0, Fto.one _ (by simp)⟩
        · obtain ⟨k, hk⟩ := ih (m - 1) (by omega) (by omega) (by omega)
          have hkl : k < (x :: l).length := by have := hk.1; omega
          have hml : m - 1 < (x :: l).length := by omega
          cases hb : ltV (x :: l)[m - 1] (x :: l)[k] with
          | true => exact ⟨m - 1, by have := hk.better hml hkl hb; rwa [show m - 1 + 1 = m by omega] at this⟩
          | false => exact ⟨k, by have := hk.not hml hkl hb; rwa [show m - 1 + 1 = m by omega] at this⟩
    obtain ⟨k, hk⟩ := h _ (x :: l).length (by simp) (Nat.le_refl _) (Nat.le_refl _)
    exact ⟨k, hk.fst⟩

/-- A way on. -/
def viaN (c k : Nat) : Nat := min (min c 4294967295 + min k 4294967295) 4294967295

end Pre
end Go.Proofs.Ytkjdnmlaehjmgaa
