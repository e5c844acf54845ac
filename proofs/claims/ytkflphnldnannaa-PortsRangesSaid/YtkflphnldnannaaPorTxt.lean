/-
  Plain data of layer 13 (no program): which set a text is the Text of, and the Ranges of; what reading it rune by rune makes of it.
-/
import Derived.Test.YtkflphnldnannaaPorNum
namespace Go.Proofs.Ytkflphnldnannaa
namespace Por

/-- The set whose Text is s, if there is one. -/
def readT (s : ByteArray) : Option Nat := (List.range 256).find? fun m => decide (textL m = s.data.toList)

def valT (s : ByteArray) : Nat := (readT s).getD 0
def errT (s : ByteArray) : Int := if (readT s).isSome then 0 else 3

def foldP (rs : List Int) (m : Nat) : Nat := rs.foldl (fun m r => withN m (portI r)) m

theorem foldP_cons (r : Int) (rs : List Int) (m : Nat) : foldP (r :: rs) m = foldP rs (withN m (portI r)) := rfl

theorem foldP_lt : ∀ (rs : List Int) (m : Nat), m < 256 → foldP rs m < 256
  | [], _, h => h
  | _ :: rs, m, h => foldP_lt rs _ (withN_lt m _ h)

theorem foldP_fin : ∀ m : Fin 256, foldP (nums (textL m.val)) 0 = m.val := by decide +kernel

theorem foldP_text (m : Nat) (h : m < 256) : foldP (nums (textL m)) 0 = m := foldP_fin ⟨m, h⟩

theorem text_ascii_fin : ∀ m : Fin 256, (textL m.val).all (fun b => decide (b.toNat < 128)) = true := by decide +kernel

theorem text_ascii (m : Nat) (h : m < 256) : ∀ b ∈ textL m, b.toNat < 128 := by
  have := text_ascii_fin ⟨m, h⟩
  rw [List.all_eq_true] at this
  exact fun b hb => of_decide_eq_true (this b hb)

theorem readT_some (s : ByteArray) (m : Nat) : readT s = some m ↔ m < 256 ∧ textL m = s.data.toList := by
  constructor
  · intro h
    unfold readT at h
    exact ⟨List.mem_range.1 (List.mem_of_find?_eq_some h), of_decide_eq_true (List.find?_some (p := fun m => decide (textL m = s.data.toList)) h)⟩
  · rintro ⟨h1, h2⟩
    cases hr : readT s with
    | none =>
      exfalso
      unfold readT at hr
      have := List.find?_eq_none.1 hr m (List.mem_range.2 h1)
      simp [h2] at this
    | some n =>
      unfold readT at hr
      have h3 := List.mem_range.1 (List.mem_of_find?_eq_some hr)
      have h4 := of_decide_eq_true (List.find?_some (p := fun m => decide (textL m = s.data.toList)) hr)
      have h5 := foldP_text n h3
      have h6 := foldP_text m h1
      rw [h4] at h5
      rw [h2, h5] at h6
      rw [h6]

theorem bytes_eq (s : ByteArray) (l : List UInt8) : (⟨l.toArray⟩ : ByteArray) = s ↔ l = s.data.toList := by
  constructor
  · intro h
    rw [← h]
  · intro h
    rw [h]

theorem readT_yes (s : ByteArray) (h : textB (foldP (runes s 0) 0) = s) : valT s = foldP (runes s 0) 0 ∧ errT s = 0 := by
  have h1 := (readT_some s (foldP (runes s 0) 0)).2 ⟨foldP_lt _ _ (by decide), (bytes_eq s _).1 h⟩
  unfold valT errT
  rw [h1]
  exact ⟨rfl, rfl⟩

theorem readT_no (s : ByteArray) (h : ¬ textB (foldP (runes s 0) 0) = s) : valT s = 0 ∧ errT s = 3 := by
  have h1 : readT s = none := by
    cases hr : readT s with
    | none => rfl
    | some m =>
      exfalso
      obtain ⟨h1, h2⟩ := (readT_some s m).1 hr
      have h3 : runes s 0 = nums s.data.toList := runes_of_list s (by rw [← h2]; exact text_ascii m h1)
      rw [h3, ← h2, foldP_text m h1] at h
      exact h ((bytes_eq s _).2 h2)
  unfold valT errT
  rw [h1]
  exact ⟨rfl, rfl⟩

/-- The document's Parse behind its first test. -/
def runR : List Int → Nat → Int → Option Nat
  | [], m, _ => some m
  | c :: cs, m, last => if (c < 48 ∨ 55 < c) ∨ c - 48 ≤ last then none else runR cs (withN m (c - 48)) (c - 48)

theorem runR_bad (c : Int) (cs : List Int) (m : Nat) (last : Int) (h : (c < 48 ∨ 55 < c) ∨ c - 48 ≤ last) : runR (c :: cs) m last = none := by
  simp only [runR, if_pos h]

theorem runR_good (c : Int) (cs : List Int) (m : Nat) (last : Int) (h : ¬ ((c < 48 ∨ 55 < c) ∨ c - 48 ≤ last)) : runR (c :: cs) m last = runR cs (withN m (c - 48)) (c - 48) := by
  simp only [runR, if_neg h]

theorem runR_small : ∀ (cs : List Int) (m : Nat) (last : Int) (n : Nat), runR cs m last = some n → ∀ r ∈ cs, r < 128
  | [], _, _, _, _ => by simp
  | c :: cs, m, last, n, h => by
    by_cases hc : (c < 48 ∨ 55 < c) ∨ c - 48 ≤ last
    · rw [runR_bad _ _ _ _ hc] at h
      cases h
    · rw [runR_good _ _ _ _ hc] at h
      intro r hr
      rcases List.mem_cons.1 hr with rfl | hr
      · omega
      · exact runR_small cs _ _ n h r hr

theorem digit_more_fin : ∀ k : Fin 8, ∀ m : Fin 256, m.val < 2 ^ k.val → digL (m.val ||| 2 ^ k.val) 8 = digL m.val 8 ++ [dig k.val] ∧ m.val ||| 2 ^ k.val < 2 ^ (k.val + 1) := by decide +kernel

theorem runR_says : ∀ (l : List UInt8) (m k n : Nat), k ≤ 8 → m < 2 ^ k → runR (nums l) m ((k : Int) - 1) = some n → digL n 8 = digL m 8 ++ l ∧ n < 256
  | [], m, k, n, hk, hm, h => by
    simp only [nums, List.map_nil, runR, Option.some.injEq] at h
    subst h
    exact ⟨by simp, Nat.lt_of_lt_of_le hm (Nat.pow_le_pow_right (n := 2) (by decide) hk)⟩
  | b :: l, m, k, n, hk, hm, h => by
    have hcons : nums (b :: l) = (b.toNat : Int) :: nums l := rfl
    rw [hcons] at h
    by_cases hc : ((b.toNat : Int) < 48 ∨ 55 < (b.toNat : Int)) ∨ (b.toNat : Int) - 48 ≤ (k : Int) - 1
    · rw [runR_bad _ _ _ _ hc] at h
      cases h
    · rw [runR_good _ _ _ _ hc] at h
      obtain ⟨j, hj, hj8, hkj⟩ : ∃ j : Nat, (b.toNat : Int) - 48 = (j : Int) ∧ j < 8 ∧ k ≤ j := ⟨b.toNat - 48, by omega, by omega, by omega⟩
      have hmj : m < 2 ^ j := Nat.lt_of_lt_of_le hm (Nat.pow_le_pow_right (n := 2) (by decide) hkj)
      have hm256 : m < 256 := Nat.lt_of_lt_of_le hmj (Nat.pow_le_pow_right (n := 2) (by decide) (by omega : j ≤ 8))
      obtain ⟨f1, f2⟩ := digit_more_fin ⟨j, hj8⟩ ⟨m, hm256⟩ hmj
      simp only at f1 f2
      rw [hj] at h
      have hw : withN m (j : Int) = m ||| 2 ^ j := by
        unfold withN
        rw [if_pos (by omega)]
        rfl
      rw [hw, show (j : Int) = ((j + 1 : Nat) : Int) - 1 by omega] at h
      obtain ⟨g1, g2⟩ := runR_says l (m ||| 2 ^ j) (j + 1) n (by omega) f2 h
      refine ⟨?_, g2⟩
      rw [g1, f1, List.append_assoc]
      have : dig j = b := by
        unfold dig
        apply UInt8.toNat.inj
        have := b.toNat_lt
        simp
        omega
      rw [this]
      rfl

/-- The document's Parse. -/
def rpT (s : ByteArray) : Option Nat := if s.data.toList = [45] then some 0 else match runR (runes s 0) 0 (-1) with
  | none => none
  | some m => if s.data.toList = [] then none else some m

theorem runR_fin : ∀ m : Fin 256, m.val ≠ 0 → (textL m.val = [45]) = False ∧ (textL m.val = []) = False ∧ runR (nums (textL m.val)) 0 (-1) = some m.val := by
  have h : ∀ m : Fin 256, m.val ≠ 0 → decide (textL m.val = [45]) = false ∧ decide (textL m.val = []) = false ∧ runR (nums (textL m.val)) 0 (-1) = some m.val := by decide +kernel
  intro m hm
  obtain ⟨h1, h2, h3⟩ := h m hm
  exact ⟨eq_false (of_decide_eq_false h1), eq_false (of_decide_eq_false h2), h3⟩

theorem digL_zero : digL 0 8 = [] := rfl

theorem rpT_is (s : ByteArray) : rpT s = readT s := by
  apply Option.ext
  intro m
  rw [readT_some]
  unfold rpT
  constructor
  · intro h
    split at h
    · rename_i h0
      obtain rfl : m = 0 := by simpa using h.symm
      exact ⟨by decide, h0.symm⟩
    · split at h
      · cases h
      · rename_i n hr
        split at h
        · cases h
        · rename_i h0
          obtain rfl : n = m := by simpa using h
          have h1 := list_of_runes s (runR_small _ _ _ _ hr)
          rw [h1] at hr
          obtain ⟨g1, g2⟩ := runR_says s.data.toList 0 0 n (by decide) (by decide) hr
          rw [digL_zero, List.nil_append] at g1
          refine ⟨g2, ?_⟩
          unfold textL
          rw [if_neg, g1]
          intro hz
          subst hz
          rw [digL_zero] at g1
          exact h0 g1.symm
  · rintro ⟨h1, h2⟩
    rw [← h2]
    have h3 : runes s 0 = nums (textL m) := by rw [h2]; exact runes_of_list s (by rw [← h2]; exact text_ascii m h1)
    rw [h3]
    by_cases h0 : m = 0
    · subst h0
      rfl
    · obtain ⟨f1, f2, f3⟩ := runR_fin ⟨m, h1⟩ h0
      simp only at f1 f2 f3
      rw [f3]
      simp only [f1, f2, if_false]

/-! ### Ranges -/

def readR (s : ByteArray) : Option Nat := (List.range 256).find? fun m => decide (rangesL m = s.data.toList)

def valR (s : ByteArray) : Nat := (readR s).getD 0
def errR (s : ByteArray) : Int := if (readR s).isSome then 0 else 3

/-- A step of ParseRanges: the set, the port told last, and the one with a hyphen behind it. -/
structure Qs where
  m : Nat
  last : Int
  fro : Int

def stepQ (q : Qs) (r : Int) : Qs :=
  if 0 ≤ portI r ∧ portI r < 8 then ⟨q.m ||| fillN q.fro (portI r), portI r, -1⟩
  else if r = 45 then ⟨q.m, q.last, q.last⟩ else q

def foldQ (rs : List Int) (q : Qs) : Qs := rs.foldl stepQ q

theorem stepQ_port (q : Qs) (r : Int) (h : 0 ≤ portI r ∧ portI r < 8) : stepQ q r = ⟨q.m ||| fillN q.fro (portI r), portI r, -1⟩ := by unfold stepQ; rw [if_pos h]
theorem stepQ_hyphen (q : Qs) (r : Int) (h : ¬ (0 ≤ portI r ∧ portI r < 8)) (h1 : r = 45) : stepQ q r = ⟨q.m, q.last, q.last⟩ := by unfold stepQ; rw [if_neg h, if_pos h1]
theorem stepQ_else (q : Qs) (r : Int) (h : ¬ (0 ≤ portI r ∧ portI r < 8)) (h1 : ¬ r = 45) : stepQ q r = q := by unfold stepQ; rw [if_neg h, if_neg h1]

def okQ (q : Qs) : Prop := q.m < 256 ∧ (-1 ≤ q.last ∧ q.last < 8) ∧ (-1 ≤ q.fro ∧ q.fro < 8)

theorem okQ_step (q : Qs) (r : Int) (h : okQ q) : okQ (stepQ q r) := by
  obtain ⟨h1, h2, h3⟩ := h
  by_cases hp : 0 ≤ portI r ∧ portI r < 8
  · rw [stepQ_port q r hp]
    exact ⟨Nat.or_lt_two_pow (n := 8) h1 (fillN_lt _ _), ⟨by show -1 ≤ portI r; omega, hp.2⟩, ⟨by show (-1 : Int) ≤ -1; omega, by show (-1 : Int) < 8; omega⟩⟩
  · by_cases hh : r = 45
    · rw [stepQ_hyphen q r hp hh]
      exact ⟨h1, h2, h2⟩
    · rw [stepQ_else q r hp hh]
      exact ⟨h1, h2, h3⟩

theorem okQ_fold : ∀ (rs : List Int) (q : Qs), okQ q → okQ (foldQ rs q)
  | [], _, h => h
  | r :: rs, q, h => okQ_fold rs _ (okQ_step q r h)

theorem okQ_zero : okQ ⟨0, -1, -1⟩ := ⟨by decide, by decide, by decide⟩

theorem foldQ_fin : ∀ m : Fin 256, (foldQ (nums (rangesL m.val)) ⟨0, -1, -1⟩).m = m.val := by decide +kernel

theorem foldQ_ranges (m : Nat) (h : m < 256) : (foldQ (nums (rangesL m)) ⟨0, -1, -1⟩).m = m := foldQ_fin ⟨m, h⟩

theorem ranges_ascii_fin : ∀ m : Fin 256, (rangesL m.val).all (fun b => decide (b.toNat < 128)) = true := by decide +kernel

theorem ranges_ascii (m : Nat) (h : m < 256) : ∀ b ∈ rangesL m, b.toNat < 128 := by
  have := ranges_ascii_fin ⟨m, h⟩
  rw [List.all_eq_true] at this
  exact fun b hb => of_decide_eq_true (this b hb)

theorem readR_some (s : ByteArray) (m : Nat) : readR s = some m ↔ m < 256 ∧ rangesL m = s.data.toList := by
  constructor
  · intro h
    unfold readR at h
    exact ⟨List.mem_range.1 (List.mem_of_find?_eq_some h), of_decide_eq_true (List.find?_some (p := fun m => decide (rangesL m = s.data.toList)) h)⟩
  · rintro ⟨h1, h2⟩
    cases hr : readR s with
    | none =>
      exfalso
      unfold readR at hr
      have := List.find?_eq_none.1 hr m (List.mem_range.2 h1)
      simp [h2] at this
    | some n =>
      unfold readR at hr
      have h3 := List.mem_range.1 (List.mem_of_find?_eq_some hr)
      have h4 := of_decide_eq_true (List.find?_some (p := fun m => decide (rangesL m = s.data.toList)) hr)
      have h5 := foldQ_ranges n h3
      have h6 := foldQ_ranges m h1
      rw [h4] at h5
      rw [h2, h5] at h6
      rw [h6]

theorem readR_yes (s : ByteArray) (h : rangesB (foldQ (runes s 0) ⟨0, -1, -1⟩).m = s) : valR s = (foldQ (runes s 0) ⟨0, -1, -1⟩).m ∧ errR s = 0 := by
  have h1 := (readR_some s (foldQ (runes s 0) ⟨0, -1, -1⟩).m).2 ⟨(okQ_fold _ _ okQ_zero).1, (bytes_eq s _).1 h⟩
  unfold valR errR
  rw [h1]
  exact ⟨rfl, rfl⟩

theorem readR_no (s : ByteArray) (h : ¬ rangesB (foldQ (runes s 0) ⟨0, -1, -1⟩).m = s) : valR s = 0 ∧ errR s = 3 := by
  have h1 : readR s = none := by
    cases hr : readR s with
    | none => rfl
    | some m =>
      exfalso
      obtain ⟨h1, h2⟩ := (readR_some s m).1 hr
      have h3 : runes s 0 = nums s.data.toList := runes_of_list s (by rw [← h2]; exact ranges_ascii m h1)
      rw [h3, ← h2, foldQ_ranges m h1] at h
      exact h ((bytes_eq s _).2 h2)
  unfold valR errR
  rw [h1]
  exact ⟨rfl, rfl⟩

/-- The document's ParseRanges: the ports of a range. -/
def fillT : Nat → Nat → Int → Int → Nat
  | 0, m, _, _ => m
  | f + 1, m, p, t => if p ≤ t then fillT f (withN m p) (p + 1) t else m

theorem fillT_lt : ∀ (f m : Nat) (p t : Int), m < 256 → fillT f m p t < 256
  | 0, m, _, _, h => h
  | f + 1, m, p, t, h => by
    simp only [fillT]
    split
    · exact fillT_lt f _ _ _ (withN_lt m p h)
    · exact h

theorem fillT_end (f m : Nat) (p t : Int) (h : ¬ p ≤ t) : fillT f m p t = m := by
  cases f with
  | zero => rfl
  | succ f => simp only [fillT, if_neg h]

/-- Its state: the set, the two ports, and what comes next. -/
structure Ms where
  m : Nat
  fro : Int
  to : Int
  st : Int

def stepM (q : Ms) (c : Int) : Option Ms :=
  if (48 ≤ c ∧ c ≤ 55) ∧ q.st = 0 then some ⟨q.m, c - 48, c - 48, 1⟩
  else if c = 45 ∧ q.st = 1 then some ⟨q.m, q.fro, q.to, 2⟩
  else if (48 ≤ c ∧ c ≤ 55) ∧ q.st = 2 then some ⟨q.m, q.fro, c - 48, 3⟩
  else if c = 44 ∧ (q.st = 1 ∨ q.st = 3) then some ⟨fillT 8 q.m q.fro q.to, q.fro, q.to, 0⟩
  else none

def runM : List Int → Ms → Option Ms
  | [], q => some q
  | c :: cs, q => match stepM q c with
    | none => none
    | some q' => runM cs q'

def okM (q : Ms) : Prop := q.m < 256 ∧ (0 ≤ q.fro ∧ q.fro < 8) ∧ (0 ≤ q.to ∧ q.to < 8) ∧ (0 ≤ q.st ∧ q.st ≤ 3)

theorem okM_step (q q' : Ms) (c : Int) (h : okM q) (hs : stepM q c = some q') : okM q' := by
  obtain ⟨h1, h2, h3, h4⟩ := h
  unfold stepM at hs
  split at hs
  · cases hs
    refine ⟨h1, ?_, ?_, ?_⟩ <;> simp only <;> omega
  · split at hs
    · cases hs
      exact ⟨h1, h2, h3, by simp only; omega⟩
    · split at hs
      · cases hs
        refine ⟨h1, h2, ?_, ?_⟩ <;> simp only <;> omega
      · split at hs
        · cases hs
          exact ⟨fillT_lt 8 _ _ _ h1, h2, h3, by simp only; omega⟩
        · cases hs

theorem okM_run : ∀ (cs : List Int) (q q' : Ms), okM q → runM cs q = some q' → okM q'
  | [], q, q', h, hr => by
    simp only [runM, Option.some.injEq] at hr
    subst hr
    exact h
  | c :: cs, q, q', h, hr => by
    simp only [runM] at hr
    split at hr
    · cases hr
    · rename_i q1 h1
      exact okM_run cs q1 q' (okM_step q q1 c h h1) hr

def rpR (s : ByteArray) : Option Nat := if s.data.toList = [110, 111, 110, 101] then some 0 else match runM (runes (s ++ (⟨#[44]⟩ : ByteArray)) 0) ⟨0, 0, 0, 0⟩ with
  | none => none
  | some q => if rangesL q.m = s.data.toList then some q.m else none

theorem runM_fin : ∀ m : Fin 256, m.val ≠ 0 → decide (rangesL m.val = [110, 111, 110, 101]) = false ∧ (runM (nums (rangesL m.val ++ [44])) ⟨0, 0, 0, 0⟩).map Ms.m = some m.val := by decide +kernel

theorem okM_zero : okM ⟨0, 0, 0, 0⟩ := ⟨by decide, by decide, by decide, by decide⟩

theorem rpR_is (s : ByteArray) : rpR s = readR s := by
  apply Option.ext
  intro m
  rw [readR_some]
  unfold rpR
  constructor
  · intro h
    split at h
    · rename_i h0
      obtain rfl : m = 0 := by simpa using h.symm
      exact ⟨by decide, h0.symm⟩
    · split at h
      · cases h
      · rename_i q hr
        split at h
        · rename_i h1
          obtain rfl : q.m = m := by simpa using h
          exact ⟨(okM_run _ _ _ okM_zero hr).1, h1⟩
        · cases h
  · rintro ⟨h1, h2⟩
    have h3 : (s ++ (⟨#[44]⟩ : ByteArray)).data.toList = rangesL m ++ [44] := by
      rw [h2]
      simp
    have h4 : runes (s ++ (⟨#[44]⟩ : ByteArray)) 0 = nums (rangesL m ++ [44]) := by
      rw [← h3]
      refine runes_of_list _ ?_
      rw [h3]
      intro b hb
      rcases List.mem_append.1 hb with hb | hb
      · exact ranges_ascii m h1 b hb
      · simp only [List.mem_singleton] at hb
        subst hb
        decide
    rw [← h2, h4]
    by_cases h0 : m = 0
    · subst h0
      rfl
    · obtain ⟨f1, f2⟩ := runM_fin ⟨m, h1⟩ h0
      simp only at f1 f2
      rw [if_neg (of_decide_eq_false f1)]
      cases hr : runM (nums (rangesL m ++ [44])) ⟨0, 0, 0, 0⟩ with
      | none =>
        rw [hr] at f2
        cases f2
      | some q =>
        rw [hr] at f2
        have hq : q.m = m := by simpa using f2
        simp only [hq, if_true]

end Por
end Go.Proofs.Ytkflphnldnannaa
