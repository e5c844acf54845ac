/-
  Entries of a table as plain data: which stands ahead of which, what a right one is, what is learnt, and that all of it keeps a table in order.
-/
import Derived.Test.YtfnjgjehmddkcaaDoorMacA
import Derived.Test.YtfnjgjehmddkcaaDoorPorNum
namespace Go.Proofs.YtfnjgjehmddkcaaDoor
namespace Tab

/-- An entry: its VLAN, its address, its port, and how old it is. -/
structure En where
  v : Int
  m : Nat
  p : Int
  a : Int

def rightP (p : Int) : Bool := decide (0 ≤ p ∧ p < 8)
def rightV (v : Int) : Bool := decide (1 ≤ v ∧ v ≤ 4094)
/-- Is it the entry of that VLAN and address? -/
def isK (v : Int) (m : Nat) (e : En) : Bool := decide (v = e.v ∧ m = e.m)
/-- Does one stand ahead of another one? -/
def ahd (x y : En) : Bool := decide (x.v < y.v ∨ (x.v = y.v ∧ x.m < y.m))
def okE (long : Int) (e : En) : Bool := decide (0 ≤ e.a ∧ e.a < long) && rightP e.p && !Mac.groupB e.m && rightV e.v

/-- All right, each ahead of the next one. -/
def chB (long : Int) : Option En → List En → Bool
  | _, [] => true
  | none, e :: l => okE long e && chB long (some e) l
  | some x, e :: l => okE long e && ahd x e && chB long (some e) l
def sndB (most long : Int) (l : List En) : Bool := decide ((l.length : Int) ≤ most) && chB long none l

/-- A sound table. -/
structure Snd (most long : Int) (l : List En) : Prop where
  len : (l.length : Int) ≤ most
  ok : ∀ e ∈ l, okE long e = true
  srt : l.Pairwise fun x y => ahd x y = true

theorem ahd_iff (x y : En) : ahd x y = true ↔ x.v < y.v ∨ (x.v = y.v ∧ x.m < y.m) := by unfold ahd; exact decide_eq_true_iff
theorem isK_iff (v : Int) (m : Nat) (e : En) : isK v m e = true ↔ v = e.v ∧ m = e.m := by unfold isK; exact decide_eq_true_iff

theorem ahd_trans {x y z : En} (h : ahd x y = true) (g : ahd y z = true) : ahd x z = true := by
  rw [ahd_iff] at *
  omega

theorem ahd_total {x y : En} (h : ahd x y = false) (hk : isK y.v y.m x = false) : ahd y x = true := by
  have h1 : ¬ (x.v < y.v ∨ (x.v = y.v ∧ x.m < y.m)) := by rw [← ahd_iff, h]; simp
  have h2 : ¬ (y.v = x.v ∧ y.m = x.m) := by rw [← isK_iff, hk]; simp
  rw [ahd_iff]
  omega

theorem ahd_key {x y : En} (h : ahd x y = true) : isK x.v x.m y = false := by
  rw [ahd_iff] at h
  cases e : isK x.v x.m y with
  | false => rfl
  | true => rw [isK_iff] at e; omega

theorem ch_of {long : Int} : ∀ (l : List En) (q : Option En), (∀ e ∈ l, okE long e = true) → (l.Pairwise fun x y => ahd x y = true) → (∀ x, q = some x → ∀ e ∈ l, ahd x e = true) → chB long q l = true
  | [], q, _, _, _ => by cases q <;> rfl
  | e :: l, q, h1, h2, h3 => by
    have ih := ch_of l (some e) (fun x hx => h1 x (List.mem_cons_of_mem _ hx)) (List.pairwise_cons.1 h2).2 (fun x hx y hy => by cases hx; exact (List.pairwise_cons.1 h2).1 y hy)
    have e1 := h1 e List.mem_cons_self
    cases q with
    | none => rw [chB, e1, ih]; rfl
    | some x => rw [chB, e1, ih, h3 x rfl e List.mem_cons_self]; rfl

theorem Snd.b {most long : Int} {l : List En} (h : Snd most long l) : sndB most long l = true := by
  unfold sndB
  rw [decide_eq_true h.len, ch_of l none h.ok h.srt (fun x hx => by cases hx)]
  rfl

theorem ch_ok {long : Int} : ∀ (l : List En) (q : Option En), chB long q l = true → ∀ e ∈ l, okE long e = true
  | [], _, _, e, h => by simp at h
  | x :: l, q, hc, e, h => by
    have : okE long x = true ∧ chB long (some x) l = true := by
      cases q with
      | none => rw [chB, Bool.and_eq_true] at hc; exact hc
      | some y => rw [chB, Bool.and_eq_true, Bool.and_eq_true] at hc; exact ⟨hc.1.1, hc.2⟩
    rcases List.mem_cons.1 h with rfl | h
    · exact this.1
    · exact ch_ok l _ this.2 e h

theorem snd_ok {most long : Int} {l : List En} (h : sndB most long l = true) : ∀ e ∈ l, okE long e = true := by
  unfold sndB at h
  rw [Bool.and_eq_true] at h
  exact ch_ok l none h.2

theorem Snd.nil {most long : Int} (h : 0 ≤ most) : Snd most long [] := ⟨h, fun e he => by simp at he, List.Pairwise.nil⟩

theorem Snd.filter {most long : Int} {l : List En} (h : Snd most long l) (f : En → Bool) : Snd most long (l.filter f) :=
  ⟨by have := List.length_filter_le f l; have := h.len; omega, fun e he => h.ok e (List.mem_filter.1 he).1, h.srt.filter _⟩

/-- The place behind all that stand ahead of e; i are gone by, and at is the place so far. -/
def behF : Nat → Nat → List En → En → Nat
  | at', _, [], _ => at'
  | at', i, x :: l, e => behF (if ahd x e then i + 1 else at') (i + 1) l e

theorem beh_none (e : En) : ∀ (l : List En) (n i : Nat), (∀ x ∈ l, ahd x e = false) → behF n i l e = n
  | [], _, _, _ => rfl
  | x :: l, n, i, h => by
    rw [behF, h x List.mem_cons_self]
    exact beh_none e l n (i + 1) (fun y hy => h y (List.mem_cons_of_mem _ hy))

theorem beh_le (e : En) : ∀ (l : List En) (n i : Nat), n ≤ i → behF n i l e ≤ i + l.length
  | [], n, i, h => by simpa [behF] using h
  | x :: l, n, i, h => by
    rw [behF, List.length_cons]
    have : (if ahd x e then i + 1 else n) ≤ i + 1 := by split <;> omega
    have := beh_le e l _ (i + 1) this
    omega

theorem none_ahead {x e : En} {l : List En} (h : (x :: l).Pairwise fun x y => ahd x y = true) (hx : ahd x e = false) : ∀ y ∈ x :: l, ahd y e = false := by
  intro y hy
  rcases List.mem_cons.1 hy with rfl | hy
  · exact hx
  · have := (List.pairwise_cons.1 h).1 y hy
    cases hc : ahd y e with
    | false => rfl
    | true => rw [ahd_trans this hc] at hx; cases hx

theorem beh_eq (e : En) : ∀ (l : List En) (i : Nat), (l.Pairwise fun x y => ahd x y = true) → behF i i l e = i + (l.takeWhile (ahd · e)).length
  | [], i, _ => rfl
  | x :: l, i, h => by
    rw [behF, List.takeWhile_cons]
    cases hx : ahd x e with
    | true =>
      have := beh_eq e l (i + 1) (List.pairwise_cons.1 h).2
      simp only [if_true, List.length_cons]
      omega
    | false =>
      have := beh_none e l i (i + 1) (fun y hy => none_ahead h hx y (List.mem_cons_of_mem _ hy))
      simpa using this

/-- l with e behind all that stand ahead of it. -/
def insL (l : List En) (e : En) : List En := l.take (behF 0 0 l e) ++ e :: l.drop (behF 0 0 l e)

theorem ins_eq {l : List En} (h : l.Pairwise fun x y => ahd x y = true) (e : En) : insL l e = l.takeWhile (ahd · e) ++ e :: l.dropWhile (ahd · e) := by
  unfold insL
  rw [beh_eq e l 0 h, Nat.zero_add]
  have h1 : l.takeWhile (ahd · e) ++ l.dropWhile (ahd · e) = l := List.takeWhile_append_dropWhile
  have h2 : ∀ n, n = (l.takeWhile (ahd · e)).length → l.take n = l.takeWhile (ahd · e) ∧ l.drop n = l.dropWhile (ahd · e) := fun n hn => by
    generalize l.takeWhile (ahd · e) = a at *
    generalize l.dropWhile (ahd · e) = b at *
    subst h1 hn
    exact ⟨List.take_left, List.drop_left⟩
  rw [(h2 _ rfl).1, (h2 _ rfl).2]

theorem drop_ahead (e : En) : ∀ (l : List En), (l.Pairwise fun x y => ahd x y = true) → ∀ y ∈ l.dropWhile (ahd · e), ahd y e = false
  | [], _, y, hy => by simp at hy
  | x :: l, h, y, hy => by
    rw [List.dropWhile_cons] at hy
    cases hx : ahd x e with
    | true =>
      rw [hx] at hy
      exact drop_ahead e l (List.pairwise_cons.1 h).2 y (by simpa using hy)
    | false =>
      rw [hx] at hy
      exact none_ahead h hx y (by simpa using hy)

theorem take_ahead (e : En) (l : List En) : ∀ y ∈ l.takeWhile (ahd · e), ahd y e = true := fun y hy => by
  have := List.all_takeWhile (p := (ahd · e)) (l := l)
  exact List.all_eq_true.1 this y hy

theorem ins_mem {l : List En} {e y : En} : y ∈ insL l e ↔ y = e ∨ y ∈ l := by
  unfold insL
  conv => rhs; rw [← List.take_append_drop (behF 0 0 l e) l]
  simp only [List.mem_append, List.mem_cons]
  constructor
  · rintro (h | rfl | h)
    · exact .inr (.inl h)
    · exact .inl rfl
    · exact .inr (.inr h)
  · rintro (rfl | h | h)
    · exact .inr (.inl rfl)
    · exact .inl h
    · exact .inr (.inr h)

theorem ins_length (l : List En) (e : En) : (insL l e).length = l.length + 1 := by
  unfold insL
  rw [List.length_append, List.length_cons, List.length_take, List.length_drop]
  have := beh_le e l 0 0 (Nat.le_refl _)
  omega

theorem ins_sorted {l : List En} (h : l.Pairwise fun x y => ahd x y = true) (e : En) (hk : ∀ x ∈ l, isK e.v e.m x = false) : (insL l e).Pairwise fun x y => ahd x y = true := by
  rw [ins_eq h, List.pairwise_append]
  have hd : ∀ y ∈ l.dropWhile (ahd · e), ahd e y = true := fun y hy =>
    ahd_total (drop_ahead e l h y hy) (hk y ((List.dropWhile_sublist _).subset hy))
  refine ⟨h.sublist (List.takeWhile_sublist _), List.pairwise_cons.2 ⟨hd, h.sublist (List.dropWhile_sublist _)⟩, fun x hx y hy => ?_⟩
  rcases List.mem_cons.1 hy with rfl | hy
  · exact take_ahead _ l x hx
  · exact ahd_trans (take_ahead e l x hx) (hd y hy)

/-- All but the entry of that VLAN and address. -/
def rest (v : Int) (m : Nat) (l : List En) : List En := l.filter fun e => !isK v m e

def learnE (most : Int) (l : List En) (v : Int) (m : Nat) (p : Int) : Int :=
  if rightV v && Mac.rightB m && !Mac.groupB m && rightP p then if (rest v m l).length = l.length ∧ most ≤ (l.length : Int) then 8 else 0 else 1
def learnL (most : Int) (l : List En) (v : Int) (m : Nat) (p : Int) : List En :=
  if learnE most l v m p = 0 then insL (rest v m l) ⟨v, m, p, 0⟩ else l

theorem learn_err {most : Int} {l : List En} {v : Int} {m : Nat} {p : Int} (h : learnE most l v m p ≠ 0) : learnL most l v m p = l := if_neg h
theorem learn_ok {most : Int} {l : List En} {v : Int} {m : Nat} {p : Int} (h : learnE most l v m p = 0) : learnL most l v m p = insL (rest v m l) ⟨v, m, p, 0⟩ := if_pos h

theorem learn_right {most : Int} {l : List En} {v : Int} {m : Nat} {p : Int} (h : learnE most l v m p = 0) : rightV v = true ∧ Mac.rightB m = true ∧ Mac.groupB m = false ∧ rightP p = true ∧ ((rest v m l).length + 1 ≤ l.length ∨ (l.length : Int) < most) := by
  unfold learnE at h
  have hl : (rest v m l).length ≤ l.length := List.length_filter_le _ _
  split at h
  · rename_i h1
    simp only [Bool.and_eq_true, Bool.not_eq_true'] at h1
    split at h
    · cases h
    · rename_i h2
      exact ⟨h1.1.1.1, h1.1.1.2, h1.1.2, h1.2, by omega⟩
  · cases h

theorem rest_key (v : Int) (m : Nat) (l : List En) : ∀ x ∈ rest v m l, isK v m x = false := fun x hx => by
  have := (List.mem_filter.1 hx).2
  simpa using this

theorem Snd.learn {most long : Int} {l : List En} (h : Snd most long l) (hL : 1 ≤ long) (v : Int) (m : Nat) (p : Int) : Snd most long (learnL most l v m p) := by
  by_cases he : learnE most l v m p = 0
  · rw [learn_ok he]
    obtain ⟨h1, _, h2, h3, h4⟩ := learn_right he
    have hf := h.filter fun e => !isK v m e
    refine ⟨?_, fun e hm => ?_, ins_sorted hf.srt _ (rest_key v m l)⟩
    · rw [ins_length]
      have := hf.len
      have := h.len
      have : (rest v m l).length ≤ l.length := List.length_filter_le _ _
      omega
    · rcases ins_mem.1 hm with rfl | hm
      · unfold okE
        rw [decide_eq_true (by simp; omega), h1, h2, h3]
        rfl
      · exact hf.ok e hm
  · rw [learn_err he]
    exact h

theorem learn_len (most : Int) (l : List En) (v : Int) (m : Nat) (p : Int) : (learnL most l v m p).length ≤ l.length + 1 := by
  unfold learnL
  have : (rest v m l).length ≤ l.length := List.length_filter_le _ _
  split
  · rw [ins_length]; omega
  · omega

/-- The entry of that VLAN and address. -/
def findE (l : List En) (v : Int) (m : Nat) : Option En := l.find? (isK v m)

theorem find_mem {l : List En} (h : l.Pairwise fun x y => ahd x y = true) {e : En} (he : e ∈ l) : findE l e.v e.m = some e := by
  unfold findE
  induction l with
  | nil => simp at he
  | cons x l ih =>
    rw [List.find?_cons]
    have hp := List.pairwise_cons.1 h
    rcases List.mem_cons.1 he with rfl | he
    · rw [(isK_iff _ _ _).2 ⟨rfl, rfl⟩]
    · have h1 := hp.1 e he
      have : isK e.v e.m x = false := by
        rw [ahd_iff] at h1
        cases e1 : isK e.v e.m x with
        | false => rfl
        | true => rw [isK_iff] at e1; omega
      rw [this]
      exact ih hp.2 he

theorem learn_find {most long : Int} {l : List En} (h : Snd most long l) (hL : 1 ≤ long) {v : Int} {m : Nat} {p : Int} (he : learnE most l v m p = 0) : findE (learnL most l v m p) v m = some ⟨v, m, p, 0⟩ := by
  refine find_mem (e := ⟨v, m, p, 0⟩) (h.learn hL v m p).srt ?_
  rw [learn_ok he]
  exact ins_mem.2 (.inl rfl)

/-- Does it stay for a tick more? -/
def outl (long : Int) (e : En) : Bool := decide (e.a < long) && decide (e.a + 1 < long)
def older (e : En) : En := ⟨e.v, e.m, e.p, e.a + 1⟩
def tickL (long : Int) (l : List En) : List En := (l.filter (outl long)).map older

theorem Snd.tick {most long : Int} {l : List En} (h : Snd most long l) : Snd most long (tickL long l) := by
  have hf := h.filter (outl long)
  refine ⟨by unfold tickL; rw [List.length_map]; exact hf.len, fun e he => ?_, ?_⟩
  · unfold tickL at he
    obtain ⟨x, hx, rfl⟩ := List.mem_map.1 he
    have h1 := hf.ok x hx
    have h2 := (List.mem_filter.1 hx).2
    unfold outl at h2
    unfold okE at h1 ⊢
    simp only [Bool.and_eq_true, decide_eq_true_eq] at h1 h2 ⊢
    refine ⟨⟨⟨⟨?_, ?_⟩, h1.1.1.2⟩, h1.1.2⟩, h1.2⟩
    · show 0 ≤ x.a + 1; omega
    · exact h2.2
  · unfold tickL
    rw [List.pairwise_map]
    exact hf.srt.imp fun {x y} hxy => by rw [ahd_iff] at *; exact hxy

/-- Are they at the port, and of the VLAN (of any, if that is 0)? -/
def lackE (p v : Int) (e : En) : Bool := decide (e.p ≠ p) || (decide (v ≠ 0) && decide (e.v ≠ v))
def flushE (set : Nat) (e : En) : Bool := !Por.hasZ set e.p

end Tab
end Go.Proofs.YtfnjgjehmddkcaaDoor
