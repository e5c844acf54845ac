/-
  Packed in one text: TabNum, TabA, TabB, TabC, TabD, TabE, CopyK.
-/
import Derived.Test.YtmojegnflcokjaaDoorPkOctNum
import Derived.Test.YtmojegnflcokjaaDoorPorNum
import Derived.Test.YtmojegnflcokjaaDoorBox
import Derived.Test.YtmojegnflcokjaaDoorPorA
import Derived.Deep.RegionHeld3
import Derived.Maps.AppendAt
import Derived.Shelf.Abstract
import Derived.Laws.CopyOwn
import Derived.WalkKit
/-
  Entries of a table as plain data: which stands ahead of which, what a right one is, what is learnt, and that all of it keeps a table in order.
-/
namespace Go.Proofs.YtmojegnflcokjaaDoor
namespace Tab

/-- An entry: its VLAN, its address, its port, and how old it is. -/
structure En where
  v : Int
  m : Nat
  p : Int
  a : Int

def rightP (p : Int) : Bool := decide (0 ≤ p ∧ p < 8)
def rightV (v : Int) : Bool := decide (1 ≤ v ∧ v ≤ 4094)
/-- Is it the entry of that VLAN and address? -/
def isK (v : Int) (m : Nat) (e : En) : Bool := decide (v = e.v ∧ m = e.m)
/-- Does one stand ahead of another one? -/
def ahd (x y : En) : Bool := decide (x.v < y.v ∨ (x.v = y.v ∧ x.m < y.m))
def okE (long : Int) (e : En) : Bool := decide (0 ≤ e.a ∧ e.a < long) && rightP e.p && !Mac.groupB e.m && rightV e.v

/-- All right, each ahead of the next one. -/
def chB (long : Int) : Option En → List En → Bool
  | _, [] => true
  | none, e :: l => okE long e && chB long (some e) l
  | some x, e :: l => okE long e && ahd x e && chB long (some e) l
def sndB (most long : Int) (l : List En) : Bool := decide ((l.length : Int) ≤ most) && chB long none l

/-- A sound table. -/
structure Snd (most long : Int) (l : List En) : Prop where
  len : (l.length : Int) ≤ most
  ok : ∀ e ∈ l, okE long e = true
  srt : l.Pairwise fun x y => ahd x y = true

theorem ahd_iff (x y : En) : ahd x y = true ↔ x.v < y.v ∨ (x.v = y.v ∧ x.m < y.m) := by unfold ahd; exact decide_eq_true_iff
theorem isK_iff (v : Int) (m : Nat) (e : En) : isK v m e = true ↔ v = e.v ∧ m = e.m := by unfold isK; exact decide_eq_true_iff

theorem ahd_trans {x y z : En} (h : ahd x y = true) (g : ahd y z = true) : ahd x z = true := by
  rw [ahd_iff] at *
  omega

theorem ahd_total {x y : En} (h : ahd x y = false) (hk : isK y.v y.m x = false) : ahd y x = true := by
  have h1 : ¬ (x.v < y.v ∨ (x.v = y.v ∧ x.m < y.m)) := by rw [← ahd_iff, h]; simp
  have h2 : ¬ (y.v = x.v ∧ y.m = x.m) := by rw [← isK_iff, hk]; simp
  rw [ahd_iff]
  omega

theorem ahd_key {x y : En} (h : ahd x y = true) : isK x.v x.m y = false := by
  rw [ahd_iff] at h
  cases e : isK x.v x.m y with
  | false => rfl
  | true => rw [isK_iff] at e; omega

theorem ch_of {long : Int} : ∀ (l : List En) (q : Option En), (∀ e ∈ l, okE long e = true) → (l.Pairwise fun x y => ahd x y = true) → (∀ x, q = some x → ∀ e ∈ l, ahd x e = true) → chB long q l = true
  | [], q, _, _, _ => by cases q <;> rfl
  | e :: l, q, h1, h2, h3 => by
    have ih := ch_of l (some e) (fun x hx => h1 x (List.mem_cons_of_mem _ hx)) (List.pairwise_cons.1 h2).2 (fun x hx y hy => by cases hx; exact (List.pairwise_cons.1 h2).1 y hy)
    have e1 := h1 e List.mem_cons_self
    cases q with
    | none => rw [chB, e1, ih]; rfl
    | some x => rw [chB, e1, ih, h3 x rfl e List.mem_cons_self]; rfl

theorem Snd.b {most long : Int} {l : List En} (h : Snd most long l) : sndB most long l = true := by
  unfold sndB
  rw [decide_eq_true h.len, ch_of l none h.ok h.srt (fun x hx => by cases hx)]
  rfl

theorem ch_ok {long : Int} : ∀ (l : List En) (q : Option En), chB long q l = true → ∀ e ∈ l, okE long e = true
  | [], _, _, e, h => by simp at h
  | x :: l, q, hc, e, h => by
    have : okE long x = true ∧ chB long (some x) l = true := by
      cases q with
      | none => rw [chB, Bool.and_eq_true] at hc; exact hc
      | some y => rw [chB, Bool.and_eq_true, Bool.and_eq_true] at hc; exact ⟨hc.1.1, hc.2⟩
    rcases List.mem_cons.1 h with rfl | h
    · exact this.1
    · exact ch_ok l _ this.2 e h

theorem snd_ok {most long : Int} {l : List En} (h : sndB most long l = true) : ∀ e ∈ l, okE long e = true := by
  unfold sndB at h
  rw [Bool.and_eq_true] at h
  exact ch_ok l none h.2

theorem Snd.nil {most long : Int} (h : 0 ≤ most) : Snd most long [] := ⟨h, fun e he => by simp at he, List.Pairwise.nil⟩

theorem Snd.filter {most long : Int} {l : List En} (h : Snd most long l) (f : En → Bool) : Snd most long (l.filter f) :=
  ⟨by have := List.length_filter_le f l; have := h.len; omega, fun e he => h.ok e (List.mem_filter.1 he).1, h.srt.filter _⟩

/-- The place behind all that stand ahead of e; i are gone by, and at is the place so far. -/
def behF : Nat → Nat → List En → En → Nat
  | at', _, [], _ => at'
  | at', i, x :: l, e => behF (if ahd x e then i + 1 else at') (i + 1) l e

theorem beh_none (e : En) : ∀ (l : List En) (n i : Nat), (∀ x ∈ l, ahd x e = false) → behF n i l e = n
  | [], _, _, _ => rfl
  | x :: l, n, i, h => by
    rw [behF, h x List.mem_cons_self]
    exact beh_none e l n (i + 1) (fun y hy => h y (List.mem_cons_of_mem _ hy))

theorem beh_le (e : En) : ∀ (l : List En) (n i : Nat), n ≤ i → behF n i l e ≤ i + l.length
  | [], n, i, h => by simpa [behF] using h
  | x :: l, n, i, h => by
    rw [behF, List.length_cons]
    have : (if ahd x e then i + 1 else n) ≤ i + 1 := by split <;> omega
    have := beh_le e l _ (i + 1) this
    omega

theorem none_ahead {x e : En} {l : List En} (h : (x :: l).Pairwise fun x y => ahd x y = true) (hx : ahd x e = false) : ∀ y ∈ x :: l, ahd y e = false := by
  intro y hy
  rcases List.mem_cons.1 hy with rfl | hy
  · exact hx
  · have := (List.pairwise_cons.1 h).1 y hy
    cases hc : ahd y e with
    | false => rfl
    | true => rw [ahd_trans this hc] at hx; cases hx

theorem beh_eq (e : En) : ∀ (l : List En) (i : Nat), (l.Pairwise fun x y => ahd x y = true) → behF i i l e = i + (l.takeWhile (ahd · e)).length
  | [], i, _ => rfl
  | x :: l, i, h => by
    rw [behF, List.takeWhile_cons]
    cases hx : ahd x e with
    | true =>
      have := beh_eq e l (i + 1) (List.pairwise_cons.1 h).2
      simp only [if_true, List.length_cons]
      omega
    | false =>
      have := beh_none e l i (i + 1) (fun y hy => none_ahead h hx y (List.mem_cons_of_mem _ hy))
      simpa using this

/-- l with e behind all that stand ahead of it. -/
def insL (l : List En) (e : En) : List En := l.take (behF 0 0 l e) ++ e :: l.drop (behF 0 0 l e)

theorem ins_eq {l : List En} (h : l.Pairwise fun x y => ahd x y = true) (e : En) : insL l e = l.takeWhile (ahd · e) ++ e :: l.dropWhile (ahd · e) := by
  unfold insL
  rw [beh_eq e l 0 h, Nat.zero_add]
  have h1 : l.takeWhile (ahd · e) ++ l.dropWhile (ahd · e) = l := List.takeWhile_append_dropWhile
  have h2 : ∀ n, n = (l.takeWhile (ahd · e)).length → l.take n = l.takeWhile (ahd · e) ∧ l.drop n = l.dropWhile (ahd · e) := fun n hn => by
    generalize l.takeWhile (ahd · e) = a at *
    generalize l.dropWhile (ahd · e) = b at *
    subst h1 hn
    exact ⟨List.take_left, List.drop_left⟩
  rw [(h2 _ rfl).1, (h2 _ rfl).2]

theorem drop_ahead (e : En) : ∀ (l : List En), (l.Pairwise fun x y => ahd x y = true) → ∀ y ∈ l.dropWhile (ahd · e), ahd y e = false
  | [], _, y, hy => by simp at hy
  | x :: l, h, y, hy => by
    rw [List.dropWhile_cons] at hy
    cases hx : ahd x e with
    | true =>
      rw [hx] at hy
      exact drop_ahead e l (List.pairwise_cons.1 h).2 y (by simpa using hy)
    | false =>
      rw [hx] at hy
      exact none_ahead h hx y (by simpa using hy)

theorem take_ahead (e : En) (l : List En) : ∀ y ∈ l.takeWhile (ahd · e), ahd y e = true := fun y hy => by
  have := List.all_takeWhile (p := (ahd · e)) (l := l)
  exact List.all_eq_true.1 this y hy

theorem ins_mem {l : List En} {e y : En} : y ∈ insL l e ↔ y = e ∨ y ∈ l := by
  unfold insL
  conv => rhs; rw [← List.take_append_drop (behF 0 0 l e) l]
  simp only [List.mem_append, List.mem_cons]
  constructor
  · rintro (h | rfl | h)
    · exact .inr (.inl h)
    · exact .inl rfl
    · exact .inr (.inr h)
  · rintro (rfl | h | h)
    · exact .inr (.inl rfl)
    · exact .inl h
    · exact .inr (.inr h)

theorem ins_length (l : List En) (e : En) : (insL l e).length = l.length + 1 := by
  unfold insL
  rw [List.length_append, List.length_cons, List.length_take, List.length_drop]
  have := beh_le e l 0 0 (Nat.le_refl _)
  omega

theorem ins_sorted {l : List En} (h : l.Pairwise fun x y => ahd x y = true) (e : En) (hk : ∀ x ∈ l, isK e.v e.m x = false) : (insL l e).Pairwise fun x y => ahd x y = true := by
  rw [ins_eq h, List.pairwise_append]
  have hd : ∀ y ∈ l.dropWhile (ahd · e), ahd e y = true := fun y hy =>
    ahd_total (drop_ahead e l h y hy) (hk y ((List.dropWhile_sublist _).subset hy))
  refine ⟨h.sublist (List.takeWhile_sublist _), List.pairwise_cons.2 ⟨hd, h.sublist (List.dropWhile_sublist _)⟩, fun x hx y hy => ?_⟩
  rcases List.mem_cons.1 hy with rfl | hy
  · exact take_ahead _ l x hx
  · exact ahd_trans (take_ahead e l x hx) (hd y hy)

/-- All but the entry of that VLAN and address. -/
def rest (v : Int) (m : Nat) (l : List En) : List En := l.filter fun e => !isK v m e

def learnE (most : Int) (l : List En) (v : Int) (m : Nat) (p : Int) : Int :=
  if rightV v && Mac.rightB m && !Mac.groupB m && rightP p then if (rest v m l).length = l.length ∧ most ≤ (l.length : Int) then 8 else 0 else 1
def learnL (most : Int) (l : List En) (v : Int) (m : Nat) (p : Int) : List En :=
  if learnE most l v m p = 0 then insL (rest v m l) ⟨v, m, p, 0⟩ else l

theorem learn_err {most : Int} {l : List En} {v : Int} {m : Nat} {p : Int} (h : learnE most l v m p ≠ 0) : learnL most l v m p = l := if_neg h
theorem learn_ok {most : Int} {l : List En} {v : Int} {m : Nat} {p : Int} (h : learnE most l v m p = 0) : learnL most l v m p = insL (rest v m l) ⟨v, m, p, 0⟩ := if_pos h

theorem learn_right {most : Int} {l : List En} {v : Int} {m : Nat} {p : Int} (h : learnE most l v m p = 0) : rightV v = true ∧ Mac.rightB m = true ∧ Mac.groupB m = false ∧ rightP p = true ∧ ((rest v m l).length + 1 ≤ l.length ∨ (l.length : Int) < most) := by
  unfold learnE at h
  have hl : (rest v m l).length ≤ l.length := List.length_filter_le _ _
  split at h
  · rename_i h1
    simp only [Bool.and_eq_true, Bool.not_eq_true'] at h1
    split at h
    · cases h
    · rename_i h2
      exact ⟨h1.1.1.1, h1.1.1.2, h1.1.2, h1.2, by omega⟩
  · cases h

theorem rest_key (v : Int) (m : Nat) (l : List En) : ∀ x ∈ rest v m l, isK v m x = false := fun x hx => by
  have := (List.mem_filter.1 hx).2
  simpa using this

theorem Snd.learn {most long : Int} {l : List En} (h : Snd most long l) (hL : 1 ≤ long) (v : Int) (m : Nat) (p : Int) : Snd most long (learnL most l v m p) := by
  by_cases he : learnE most l v m p = 0
  · rw [learn_ok he]
    obtain ⟨h1, _, h2, h3, h4⟩ := learn_right he
    have hf := h.filter fun e => !isK v m e
    refine ⟨?_, fun e hm => ?_, ins_sorted hf.srt _ (rest_key v m l)⟩
    · rw [ins_length]
      have := hf.len
      have := h.len
      have : (rest v m l).length ≤ l.length := List.length_filter_le _ _
      omega
    · rcases ins_mem.1 hm with rfl | hm
      · unfold okE
        rw [decide_eq_true (by simp; omega), h1, h2, h3]
        rfl
      · exact hf.ok e hm
  · rw [learn_err he]
    exact h

theorem learn_len (most : Int) (l : List En) (v : Int) (m : Nat) (p : Int) : (learnL most l v m p).length ≤ l.length + 1 := by
  unfold learnL
  have : (rest v m l).length ≤ l.length := List.length_filter_le _ _
  split
  · rw [ins_length]; omega
  · omega

/-- The entry of that VLAN and address. -/
def findE (l : List En) (v : Int) (m : Nat) : Option En := l.find? (isK v m)

theorem find_mem {l : List En} (h : l.Pairwise fun x y => ahd x y = true) {e : En} (he : e ∈ l) : findE l e.v e.m = some e := by
  unfold findE
  induction l with
  | nil => simp at he
  | cons x l ih =>
    rw [List.find?_cons]
    have hp := List.pairwise_cons.1 h
    rcases List.mem_cons.1 he with rfl | he
    · rw [(isK_iff _ _ _).2 ⟨rfl, rfl⟩]
    · have h1 := hp.1 e he
      have : isK e.v e.m x = false := by
        rw [ahd_iff] at h1
        cases e1 : isK e.v e.m x with
        | false => rfl
        | true => rw [isK_iff] at e1; omega
      rw [this]
      exact ih hp.2 he

theorem learn_find {most long : Int} {l : List En} (h : Snd most long l) (hL : 1 ≤ long) {v : Int} {m : Nat} {p : Int} (he : learnE most l v m p = 0) : findE (learnL most l v m p) v m = some ⟨v, m, p, 0⟩ := by
  refine find_mem (e := ⟨v, m, p, 0⟩) (h.learn hL v m p).srt ?_
  rw [learn_ok he]
  exact ins_mem.2 (.inl rfl)

/-- Does it stay for a tick more? -/
def outl (long : Int) (e : En) : Bool := decide (e.a < long) && decide (e.a + 1 < long)
def older (e : En) : En := ⟨e.v, e.m, e.p, e.a + 1⟩
def tickL (long : Int) (l : List En) : List En := (l.filter (outl long)).map older

theorem Snd.tick {most long : Int} {l : List En} (h : Snd most long l) : Snd most long (tickL long l) := by
  have hf := h.filter (outl long)
  refine ⟨by unfold tickL; rw [List.length_map]; exact hf.len, fun e he => ?_, ?_⟩
  · unfold tickL at he
    obtain ⟨x, hx, rfl⟩ := List.mem_map.1 he
    have h1 := hf.ok x hx
    have h2 := (List.mem_filter.1 hx).2
    unfold outl at h2
    unfold okE at h1 ⊢
    simp only [Bool.and_eq_true, decide_eq_true_eq] at h1 h2 ⊢
    refine ⟨⟨⟨⟨?_, ?_⟩, h1.1.1.2⟩, h1.1.2⟩, h1.2⟩
    · show 0 ≤ x.a + 1; omega
    · exact h2.2
  · unfold tickL
    rw [List.pairwise_map]
    exact hf.srt.imp fun {x y} hxy => by rw [ahd_iff] at *; exact hxy

/-- Are they at the port, and of the VLAN (of any, if that is 0)? -/
def lackE (p v : Int) (e : En) : Bool := decide (e.p ≠ p) || (decide (v ≠ 0) && decide (e.v ≠ v))
def flushE (set : Nat) (e : En) : Bool := !Por.hasZ set e.p

end Tab
end Go.Proofs.YtmojegnflcokjaaDoor

/-
  Entries in memory; what the method values of package table say of any entry.
-/
namespace Go.Proofs.YtmojegnflcokjaaDoor
open Go.RowKit
namespace Tab
open Oct

/-- An entry as a value, and its four cells. -/
abbrev ev (e : En) : Value := .agg #[.int .i64 e.v, .int .u64 e.m, .int .i64 e.p, .int .i64 e.a]
def enc (e : En) : List Value := [.int .i64 e.v, .int .u64 e.m, .int .i64 e.p, .int .i64 e.a]
abbrev eo (e : En) : Obj := .cells #[.int .i64 e.v, .int .u64 e.m, .int .i64 e.p, .int .i64 e.a] 62
abbrev tv (most long : Int) (A : Option Addr) (n c : Nat) : Value := .agg #[.int .i64 most, .int .i64 long, .slice A n c]
abbrev to (most long : Int) (A : Option Addr) (n c : Nat) : Obj := .cells #[.int .i64 most, .int .i64 long, .slice A n c] 24

/-- The slice that begins at A reads as the entries l. -/
def Ents (w : World) (A : Option Addr) (l : List En) : Prop := ∀ j x, l[j]? = some x → ∃ b o, A = some ⟨b, o, none⟩ ∧ b < w.heap.size ∧ w.cell? ⟨b, o + j * 4, none⟩ = some (.int .i64 x.v) ∧ w.cell? ⟨b, o + j * 4 + 1, none⟩ = some (.int .u64 x.m) ∧ w.cell? ⟨b, o + j * 4 + 2, none⟩ = some (.int .i64 x.p) ∧ w.cell? ⟨b, o + j * 4 + 3, none⟩ = some (.int .i64 x.a)

theorem Ents.below {w w' : World} {A : Option Addr} {l : List En} (h : Ents w A l) (hb : Below w.heap.size w w') : Ents w' A l := fun j x hj => by
  obtain ⟨b, o, e, h1, h2, h3, h4, h5⟩ := h j x hj
  exact ⟨b, o, e, Nat.lt_of_lt_of_le h1 hb.size, Bx.keep_cell hb h2, Bx.keep_cell hb h3, Bx.keep_cell hb h4, Bx.keep_cell hb h5⟩

theorem Ents.nil (w : World) (A : Option Addr) : Ents w A [] := fun j x h => by simp at h

theorem Ents.at {w : World} {A : Option Addr} {l : List En} (h : Ents w A l) {k : Nat} (hk : k < l.length) : ∃ b o, A = some ⟨b, o, none⟩ ∧ b < w.heap.size ∧ w.cell? ⟨b, o + k * 4, none⟩ = some (.int .i64 l[k].v) ∧ w.cell? ⟨b, o + k * 4 + 1, none⟩ = some (.int .u64 l[k].m) ∧ w.cell? ⟨b, o + k * 4 + 2, none⟩ = some (.int .i64 l[k].p) ∧ w.cell? ⟨b, o + k * 4 + 3, none⟩ = some (.int .i64 l[k].a) := h k l[k] (List.getElem?_eq_getElem hk)

theorem enc_flat : ∀ (l : List En) (j : Nat) (x : En), l[j]? = some x → (l.flatMap enc)[j * 4]? = some (.int .i64 x.v) ∧ (l.flatMap enc)[j * 4 + 1]? = some (.int .u64 x.m) ∧ (l.flatMap enc)[j * 4 + 2]? = some (.int .i64 x.p) ∧ (l.flatMap enc)[j * 4 + 3]? = some (.int .i64 x.a)
  | [], j, x, h => by simp at h
  | a :: l, 0, x, h => by
    simp at h
    subst h
    exact ⟨rfl, rfl, rfl, rfl⟩
  | a :: l, j + 1, x, h => by
    have := enc_flat l j x (by simpa using h)
    rw [List.flatMap_cons, show (j + 1) * 4 = j * 4 + 4 by omega]
    exact this

theorem enc_length (l : List En) : (l.flatMap enc).length = l.length * 4 := by
  induction l with
  | nil => rfl
  | cons a l ih => rw [List.flatMap_cons, List.length_append, ih, List.length_cons]; show 4 + _ = _; omega

theorem enc_one (l : List En) : ∀ u ∈ l.flatMap enc, u.oneCell' = true := by
  intro u hu
  obtain ⟨a, _, ha⟩ := List.mem_flatMap.1 hu
  simp [enc] at ha
  rcases ha with rfl | rfl | rfl | rfl <;> rfl

/-- A row of the call's own, as a slice of entries. -/
theorem Ents.of_own {w : World} {base : Nat} {e : TypeId} {v : Value} {l : List En} (h : w.ownsRow base e 4 v l.length (l.flatMap enc)) :
    ∃ A cap, v = .slice A l.length cap ∧ Ents w A l := by
  rcases h.2 with ⟨rfl, h0⟩ | ⟨g, cap, cur, rfl, hb, hg, _⟩
  · have : l = [] := List.eq_nil_of_length_eq_zero h0
    subst this
    exact ⟨none, 0, rfl, Ents.nil _ _⟩
  · refine ⟨_, _, rfl, fun j x hj => ?_⟩
    obtain ⟨e0, e1, e2, e3⟩ := enc_flat l j x hj
    have c := h.cells (g := g) rfl
    refine ⟨g, 0, rfl, (Array.getElem?_eq_some_iff.1 hg).1, ?_, ?_, ?_, ?_⟩
    · have := c _ _ e0
      rwa [Addr.add_lit] at this
    · have := c _ _ e1
      rwa [Addr.add_lit] at this
    · have := c _ _ e2
      rwa [Addr.add_lit] at this
    · have := c _ _ e3
      rwa [Addr.add_lit] at this

theorem ret_bool {a b : Bool} (h : a = b) : Ending.returned (.bool a) = .returned (.bool b) := by rw [h]

set_option maxRecDepth 20000 in
theorem of_any (v : Int) (m : Nat) (e : En) (w : World) :
    Calls Tryd.prog 63 #[.agg #[.int .i64 v, .int .u64 m], ev e] w fun r w' => r = .returned (.bool (isK v m e)) ∧ Below w.heap.size w w' := by
  obtain ⟨v', m', p, a⟩ := e
  have bel := Lib.hid (Bx.bel_box (Bx.box_below w (.cells #[.int .i64 v, .int .u64 m] 96)) (.cells #[.int .i64 v', .int .u64 m', .int .i64 p, .int .i64 a] 62))
  unfold isK
  simp only
  by_cases h1 : v = v' <;> by_cases h2 : m = m'
  all_goals
    try subst h1
    try subst h2
    have h3 : ∀ z : Nat, ¬ m = z → ¬ ((m : Int) = z) := fun z h => by omega
    try have h4 := h3 _ h2
    clear h3
    go_enter Tryd.func63, Tryd.ntmps63
    go_wp2
    go_ret
    exact ⟨ret_bool (by simp [*]), bel.out⟩

set_option maxRecDepth 20000 in
theorem other_any (v : Int) (m : Nat) (e : En) (w : World) :
    Calls Tryd.prog 75 #[.agg #[.int .i64 v, .int .u64 m], ev e] w fun r w' => r = .returned (.bool (!isK v m e)) ∧ Below w.heap.size w w' := by
  have H := Lib.hid (of_any v m e)
  obtain ⟨v', m', p, a⟩ := e
  have bel := Lib.hid (Bx.bel_box (Bx.box_below w (.cells #[.int .i64 v, .int .u64 m] 96)) (.cells #[.int .i64 v', .int .u64 m', .int .i64 p, .int .i64 a] 62))
  generalize isK v m ⟨v', m', p, a⟩ = r at *
  go_enter Tryd.func75, Tryd.ntmps75
  go_wp2_with fail
  refine (H.out _).mono ?_; rintro e w1 ⟨rfl, hb1⟩
  have B2 := Lib.hid (Bx.then_below bel.out hb1)
  go_wp2
  go_ret
  exact ⟨rfl, B2.out⟩

theorem wrap_next {a long : Int} (h0 : -9223372036854775808 ≤ a) (h1 : a < long) (hL : long ≤ 9223372036854775807) : wrap64 (a + 1) = a + 1 := by unfold wrap64; omega

set_option maxRecDepth 20000 in
theorem outl_any (long : Int) (hL : long ≤ 9223372036854775807) (e : En) (he : -9223372036854775808 ≤ e.a) (w : World) :
    Calls Tryd.prog 80 #[.int .i64 long, ev e] w fun r w' => r = .returned (.bool (outl long e)) ∧ Below w.heap.size w w' := by
  obtain ⟨v', m', p, a⟩ := e
  have bel := Lib.hid (Bx.box_below w (.cells #[.int .i64 v', .int .u64 m', .int .i64 p, .int .i64 a] 62))
  unfold outl
  simp only at he ⊢
  by_cases h1 : a < long
  · have h2 := wrap_next he h1 hL
    by_cases h3 : a + 1 < long
    all_goals
      go_enter Tryd.func80, Tryd.ntmps80
      go_wp2
      go_ret
      exact ⟨ret_bool (by rw [Bool.eq_iff_iff]; simp <;> omega), bel.out⟩
  · go_enter Tryd.func80, Tryd.ntmps80
    go_wp2
    go_ret
    exact ⟨ret_bool (by rw [Bool.eq_iff_iff]; simp <;> omega), bel.out⟩

set_option maxRecDepth 20000 in
theorem plack_any (x : Int) (e : En) (w : World) :
    Calls Tryd.prog 81 #[.int .i64 x, ev e] w fun r w' => r = .returned (.bool (flushE (Por.low x) e)) ∧ Below w.heap.size w w' := by
  obtain ⟨v', m', p, a⟩ := e
  have H := Lib.hid (Por.has_any x p)
  have bel := Lib.hid (Bx.box_below w (.cells #[.int .i64 v', .int .u64 m', .int .i64 p, .int .i64 a] 62))
  unfold flushE
  simp only
  generalize Por.hasZ (Por.low x) p = r at *
  go_enter Tryd.func81, Tryd.ntmps81
  go_wp2_with fail
  refine (H.out _).mono ?_; rintro e w1 ⟨rfl, rfl⟩
  go_wp2
  go_ret
  exact ⟨rfl, bel.out⟩

set_option maxRecDepth 20000 in
theorem lack_any (q v : Int) (e : En) (w : World) :
    Calls Tryd.prog 82 #[.agg #[.int .i64 q, .int .i64 v], ev e] w fun r w' => r = .returned (.bool (lackE q v e)) ∧ Below w.heap.size w w' := by
  obtain ⟨v', m', p, a⟩ := e
  have bel := Lib.hid (Bx.bel_box (Bx.box_below w (.cells #[.int .i64 q, .int .i64 v] 109)) (.cells #[.int .i64 v', .int .u64 m', .int .i64 p, .int .i64 a] 62))
  unfold lackE
  simp only
  by_cases h1 : p = q <;> by_cases h2 : v = 0 <;> by_cases h3 : v' = v
  all_goals
    try subst h1
    try subst h3
    try subst h2
    go_enter Tryd.func82, Tryd.ntmps82
    go_wp2
    go_ret
    exact ⟨ret_bool (by simp [*]), bel.out⟩

end Tab
end Go.Proofs.YtmojegnflcokjaaDoor

/-
  What is found in a table; and table.kept: the entries that a method value keeps, in a row of the call's own.
-/
namespace Go.Proofs.YtmojegnflcokjaaDoor
open Go.RowKit
namespace Tab
open Oct

theorem info_en : (Tryd.prog.info? 62).map (fun i => (i.zero, i.size, i.bytes)) = some (some (.agg #[.int .i64 0, .int .u64 0, .int .i64 0, .int .i64 0]), 4, 32) := by kernel_rfl

/-- A block that may be written: its first cells. -/
def Fre (W : World) (k : Nat) (l : List Value) : Prop := Bx.Blk W k l ∧ k < W.heap.size ∧ ∀ j, W.frozen? ⟨k, j, none⟩ = false

theorem Fre.new (W : World) (l : List Value) (t : TypeId) : Fre (W.alloc (.cells l.toArray t)) W.heap.size l := ⟨Bx.Blk.new W l t, by simp, fun j => World.frozen?_alloc_new W l.toArray t j⟩

theorem Fre.keep {W w1 : World} {k : Nat} {l : List Value} (h : Fre W k l) (hb : Below W.heap.size W w1) : Fre w1 k l :=
  ⟨h.1.keep hb, Nat.lt_of_lt_of_le h.2.1 hb.size, fun j => by rw [hb.frozen (p := ⟨k, j, none⟩) h.2.1]; exact h.2.2 j⟩

theorem Fre.drew {W : World} {k : Nat} {l : List Value} (h : Fre W k l) : Fre W.drew k l := h

theorem Fre.all3 {W : World} {k : Nat} {x0 x1 x2 : Value} (h : Fre W k [x0, x1, x2]) : (W.cell? ⟨k, 0, none⟩ = some x0 ∧ W.cell? ⟨k, 1, none⟩ = some x1 ∧ W.cell? ⟨k, 2, none⟩ = some x2) ∧
    W.frozen? ⟨k, 0, none⟩ = false ∧ W.frozen? ⟨k, 1, none⟩ = false ∧ W.frozen? ⟨k, 2, none⟩ = false := ⟨h.1.all3, h.2.2 0, h.2.2 1, h.2.2 2⟩

theorem Fre.all4 {W : World} {k : Nat} {x0 x1 x2 x3 : Value} (h : Fre W k [x0, x1, x2, x3]) : (W.cell? ⟨k, 0, none⟩ = some x0 ∧ W.cell? ⟨k, 1, none⟩ = some x1 ∧ W.cell? ⟨k, 2, none⟩ = some x2 ∧ W.cell? ⟨k, 3, none⟩ = some x3) ∧
    W.frozen? ⟨k, 0, none⟩ = false ∧ W.frozen? ⟨k, 1, none⟩ = false ∧ W.frozen? ⟨k, 2, none⟩ = false ∧ W.frozen? ⟨k, 3, none⟩ = false := ⟨h.1.all4, h.2.2 0, h.2.2 1, h.2.2 2, h.2.2 3⟩

/-- The place of the first entry of that VLAN and address, or the place behind all. -/
def posE (l : List En) (v : Int) (m : Nat) : Nat := l.findIdx (isK v m)
theorem posE_le (l : List En) (v : Int) (m : Nat) : posE l v m ≤ l.length := List.findIdx_le_length

theorem posE_hit {l : List En} {v : Int} {m j : Nat} (hj : j < l.length) (h : j ≤ posE l v m) (hk : isK v m l[j] = true) : posE l v m = j := by
  unfold posE at *
  by_cases e : j < l.findIdx (isK v m)
  · have := List.not_of_lt_findIdx e
    simp [hk] at this
  · omega

theorem posE_miss {l : List En} {v : Int} {m j : Nat} (hj : j < l.length) (h : j ≤ posE l v m) (hk : isK v m l[j] = false) : j + 1 ≤ posE l v m := by
  unfold posE at *
  by_cases e : j < l.findIdx (isK v m)
  · omega
  · have e2 : l.findIdx (isK v m) = j := by omega
    have := List.findIdx_getElem (xs := l) (p := isK v m) (w := by omega)
    simp only [e2] at this
    rw [hk] at this
    cases this

theorem find_pos : ∀ (l : List En) (v : Int) (m : Nat), findE l v m = l[posE l v m]?
  | [], _, _ => rfl
  | x :: l, v, m => by
    have ih := find_pos l v m
    unfold findE posE at *
    rw [List.find?_cons, List.findIdx_cons]
    cases isK v m x with
    | true => rfl
    | false => simpa using ih

/-- What IndexFunc answers. -/
def idxE (l : List En) (v : Int) (m : Nat) : Int := if posE l v m < l.length then posE l v m else -1

set_option maxRecDepth 20000 in
set_option maxHeartbeats 2000000 in
theorem idx_any (l : List En) (hl : l.length ≤ maxLen) (v : Int) (m : Nat) (A : Option Addr) (c : Nat) (w : World) (hA : Ents w A l) :
    Calls Tryd.prog 62 #[.slice A l.length c, .func (.func 63) #[.agg #[.int .i64 v, .int .u64 m]] #[]] w fun e w' => e = .returned (.int .i64 (idxE l v m)) ∧ Below w.heap.size w w' := by
  have HA := Lib.hid hA
  have HR := Lib.hid (fun x w => of_any v m x w)
  have eg : ∀ args w, (callFunc 63 args).run Tryd.prog w = .ok (.enter 63 args) w := enters_of Tryd.func63 (by kernel_rfl) rfl
  clear hA
  have hl' : l.length ≤ 9223372036854775807 := hl
  go_enter Tryd.func62, Tryd.ntmps62
  go_wp2
  go_loopw [5, 8] (fun _ ix wr => ∃ k : Nat, k ≤ l.length ∧ ix = .int .i64 k ∧ Aside (k ≤ posE l v m) ∧ Aside (Below w.heap.size w wr)) (fun _ ix _ => l.length - (intOf ix).toNat)
  case atStart => exact ⟨0, Nat.zero_le _, rfl, Nat.zero_le _, Below.refl _ _⟩
  case round =>
    obtain ⟨k, hk, rfl, HP, HB⟩ := hrel
    by_cases hlt : k < l.length
    · obtain ⟨b', o', rfl, _, c0, c1, c2, c3⟩ := (HA.out.below HB.out).at hlt
      have HR' := Lib.hid (fun w => HR.out l[k] w)
      cases hx : isK v m l[k] with
      | true =>
        have HE := Lib.hid (show idxE l v m = k by unfold idxE; rw [posE_hit hlt HP.out hx, if_pos hlt])
        rw [hx] at HR'
        clear hx
        generalize l[k] = x at *
        obtain ⟨x1, x2, x3, x4⟩ := x
        simp only at c0 c1 c2 c3 HR'
        go_wp2_with fail
        refine (HR'.out _).mono ?_; rintro e w1 ⟨rfl, hb1⟩
        have B2 := Lib.hid (Bx.then_below HB.out hb1)
        clear hb1
        go_wp2_with fail
        go_ret
        exact ⟨by rw [HE.out]; rfl, B2.out⟩
      | false =>
        have HP2 := Lib.hid (posE_miss hlt HP.out hx)
        rw [hx] at HR'
        clear hx
        generalize l[k] = x at *
        obtain ⟨x1, x2, x3, x4⟩ := x
        simp only at c0 c1 c2 c3 HR'
        go_wp2_with fail
        refine (HR'.out _).mono ?_; rintro e w1 ⟨rfl, hb1⟩
        have B2 := Lib.hid (Bx.then_below HB.out hb1)
        clear hb1
        go_wp2_with fail
        go_roundw
        case rel => exact ⟨k + 1, by omega, by go_num, HP2.out, B2.out⟩
        case measure => simp [intOf]; omega
    · have e1 : idxE l v m = -1 := by unfold idxE; rw [if_neg (by have := HP.out; omega)]
      go_wp2
      go_ret
      exact ⟨by rw [e1]; rfl, HB.out⟩

/-- What is found, or nothing. -/
def gotE (l : List En) (v : Int) (m : Nat) : En := (findE l v m).getD ⟨0, 0, 0, 0⟩
def isE (l : List En) (v : Int) (m : Nat) : Bool := (findE l v m).isSome

set_option maxRecDepth 20000 in
set_option maxHeartbeats 2000000 in
theorem find_any (most long : Int) (l : List En) (hl : l.length ≤ maxLen) (v : Int) (m : Nat) (A : Option Addr) (c : Nat) (w : World) (hA : Ents w A l) :
    Calls Tryd.prog 25 #[tv most long A l.length c, .int .i64 v, .int .u64 m] w fun e w' => e = .returned (.tuple #[ev (gotE l v m), .bool (isE l v m)]) ∧ Below w.heap.size w w' := by
  have HI := Lib.hid (fun (w : World) hA => idx_any l hl v m A c w hA)
  have bel := Lib.hid (Bx.bel_box (Bx.box_below w (to most long A l.length c)) (eo ⟨0, 0, 0, 0⟩))
  have A1 := Lib.hid (hA.below bel.out)
  have K := Lib.hid ((Fre.new w [.int .i64 most, .int .i64 long, .slice A l.length c] 24).keep (Bx.box_below _ (eo ⟨0, 0, 0, 0⟩)))
  have R : Hid (Fre ((w.alloc (to most long A l.length c)).alloc (eo ⟨0, 0, 0, 0⟩)) (w.heap.size + 1) [.int .i64 0, .int .u64 0, .int .i64 0, .int .i64 0]) := Lib.hid (by
    have := Fre.new (w.alloc (to most long A l.length c)) [.int .i64 0, .int .u64 0, .int .i64 0, .int .i64 0] 62
    rwa [show (w.alloc (to most long A l.length c)).heap.size = w.heap.size + 1 by simp] at this)
  clear hA
  have hle : w.heap.size ≤ w.heap.size + 1 := Nat.le_succ _
  by_cases hp : posE l v m < l.length
  · have e1 : idxE l v m = posE l v m := if_pos hp
    have e2 : findE l v m = some (l[posE l v m]) := by rw [find_pos, List.getElem?_eq_getElem hp]
    have e3 : gotE l v m = l[posE l v m] := by unfold gotE; rw [e2]; rfl
    have e4 : isE l v m = true := by unfold isE; rw [e2]; rfl
    rw [e1] at HI
    rw [e3, e4]
    have HX := Lib.hid (fun w (h : Ents w A l) => h.at hp)
    clear e1 e2 e3 e4
    generalize posE l v m = p at *
    generalize l[p] = x at *
    obtain ⟨x1, x2, x3, x4⟩ := x
    go_enter Tryd.func25, Tryd.ntmps25
    go_wp2_with fail
    refine (HI.out _ A1.out).mono ?_; rintro e w1 ⟨rfl, hb1⟩
    have bel2 := Lib.hid (Bx.then_below bel.out hb1)
    have A2 := Lib.hid (A1.out.below hb1)
    obtain ⟨⟨c0, c1, c2⟩, _⟩ := (K.out.keep hb1).all3
    have R1 := Lib.hid (R.out.keep hb1)
    obtain ⟨⟨r0, r1, r2, r3⟩, f0, f1, f2, f3⟩ := R1.out.all4
    clear hb1 HI K R A1 bel
    obtain ⟨b, o, hb, _, d0, d1, d2, d3⟩ := HX.out _ A2.out
    subst hb
    have R2 := Lib.hid ((R1.out.1.put4 (x0 := .int .i64 x1) (x1 := .int .u64 x2) (x2 := .int .i64 x3) (x3 := .int .i64 x4)).all4)
    have bel3 := Lib.hid ((((bel2.out.setCell (p := ⟨w.heap.size + 1, 0, none⟩) hle (.int .i64 x1)).setCell (p := ⟨w.heap.size + 1, 1, none⟩) hle (.int .u64 x2)).setCell (p := ⟨w.heap.size + 1, 2, none⟩) hle (.int .i64 x3)).setCell (p := ⟨w.heap.size + 1, 3, none⟩) hle (.int .i64 x4))
    clear A2 bel2 R1 HX
    go_wp2_with fail
    refine bodyPost_ret (v := .tuple #[ev ⟨x1, x2, x3, x4⟩, .bool true]) ?_ rfl ?_
    · obtain ⟨d0, d1, d2, d3⟩ := R2.out
      simp [results, Tryd.results25, d0, d1, d2, d3, go_sem]
    · exact ⟨rfl, bel3.out⟩
  · have e1 : idxE l v m = -1 := if_neg hp
    have e2 : findE l v m = none := by rw [find_pos, List.getElem?_eq_none (by omega)]
    have e3 : gotE l v m = ⟨0, 0, 0, 0⟩ := by unfold gotE; rw [e2]; rfl
    have e4 : isE l v m = false := by unfold isE; rw [e2]; rfl
    rw [e1] at HI
    rw [e3, e4]
    clear e1 e2 e3 e4
    go_enter Tryd.func25, Tryd.ntmps25
    go_wp2_with fail
    refine (HI.out _ A1.out).mono ?_; rintro e w1 ⟨rfl, hb1⟩
    have bel2 := Lib.hid (Bx.then_below bel.out hb1)
    have A2 := Lib.hid (A1.out.below hb1)
    obtain ⟨⟨c0, c1, c2⟩, _⟩ := (K.out.keep hb1).all3
    have R1 := Lib.hid (R.out.keep hb1)
    obtain ⟨⟨r0, r1, r2, r3⟩, f0, f1, f2, f3⟩ := R1.out.all4
    clear hb1 HI K R A1 bel
    have R2 := Lib.hid ((R1.out.1.put4 (x0 := .int .i64 0) (x1 := .int .u64 0) (x2 := .int .i64 0) (x3 := .int .i64 0)).all4)
    have bel3 := Lib.hid ((((bel2.out.setCell (p := ⟨w.heap.size + 1, 0, none⟩) hle (.int .i64 0)).setCell (p := ⟨w.heap.size + 1, 1, none⟩) hle (.int .u64 0)).setCell (p := ⟨w.heap.size + 1, 2, none⟩) hle (.int .i64 0)).setCell (p := ⟨w.heap.size + 1, 3, none⟩) hle (.int .i64 0))
    clear A2 bel2 R1
    go_wp2_with fail
    refine bodyPost_ret (v := .tuple #[ev ⟨0, 0, 0, 0⟩, .bool false]) ?_ rfl ?_
    · obtain ⟨d0, d1, d2, d3⟩ := R2.out
      simp [results, Tryd.results25, d0, d1, d2, d3, go_sem]
    · exact ⟨rfl, bel3.out⟩

end Tab
end Go.Proofs.YtmojegnflcokjaaDoor

/-
  table.kept: the entries that a method value keeps, in a row of the call's own; Flush and Forget.
-/
namespace Go.Proofs.YtmojegnflcokjaaDoor
open Go.RowKit
namespace Tab
open Oct

theorem own_form {w : World} {base : Nat} {e : TypeId} {v : Value} {l : List En} (h : w.ownsRow base e 4 v l.length (l.flatMap enc)) : ∃ B c, v = .slice B l.length c ∧ w.ownsRow base e 4 (.slice B l.length c) l.length (l.flatMap enc) := by
  obtain ⟨B, c, rfl, _⟩ := Ents.of_own h
  exact ⟨B, c, rfl, h⟩

theorem own_next {w : World} {base : Nat} {e : TypeId} {v : Value} {l : List En} {x : En} (h : w.ownsRow base e 4 v (l.length + 1) (l.flatMap enc ++ enc x)) : ∃ B c, v = .slice B (l ++ [x]).length c ∧ w.ownsRow base e 4 (.slice B (l ++ [x]).length c) (l ++ [x]).length ((l ++ [x]).flatMap enc) := by
  refine own_form (l := l ++ [x]) ?_
  simpa using h

theorem own_mono {w : World} {base b' : Nat} {e : TypeId} {v : Value} {n : Nat} {xs : List Value} (h : w.ownsRow base e 4 v n xs) (hb : b' ≤ base) : w.ownsRow b' e 4 v n xs := by
  refine ⟨h.1, ?_⟩
  rcases h.2 with hn | ⟨g, cap, cur, h1, h2, h3⟩
  · exact .inl hn
  · exact .inr ⟨g, cap, cur, h1, Nat.le_trans hb h2, h3⟩

theorem own_below {w w' : World} {base : Nat} {e : TypeId} {v : Value} {n : Nat} {xs : List Value} (h : w.ownsRow base e 4 v n xs) (hb : Below w.heap.size w w') : w'.ownsRow base e 4 v n xs := by
  refine ⟨h.1, ?_⟩
  rcases h.2 with hn | ⟨g, cap, cur, h1, h2, h3, h4⟩
  · exact .inl hn
  · refine .inr ⟨g, cap, cur, h1, h2, ?_, h4⟩
    rw [hb.block g (Array.getElem?_eq_some_iff.1 h3).1]
    exact h3

/-- A store into a block of before. -/
theorem own_set {w : World} {base b o : Nat} {e : TypeId} {v x : Value} {n : Nat} {xs : List Value} (h : w.ownsRow base e 4 v n xs) (hb : b < base) : (w.setCell ⟨b, o, none⟩ x).ownsRow base e 4 v n xs := by
  refine ⟨h.1, ?_⟩
  rcases h.2 with hn | ⟨g, cap, cur, h1, h2, h3, h4⟩
  · exact .inl hn
  · refine .inr ⟨g, cap, cur, h1, h2, ?_, h4⟩
    rw [← h3]
    exact Below.heap_setCell w ⟨b, o, none⟩ x g (by show g ≠ b; omega)

theorem four_new (w : World) (e : En) (t : TypeId) (n : Nat) (h : n = w.heap.size := by rfl) : ∀ j u, (enc e)[j]? = some u → (w.alloc (.cells (enc e).toArray t)).cell? (Addr.add ⟨n, 0, none⟩ j) = some u := fun j u hu => by
  subst h
  rw [Addr.add_lit]
  simpa using (Bx.Blk.new w (enc e) t) j u hu

/-- A table handed back, its entries in a row of the call's own, and a number beside it. -/
def KeptG (most long : Int) (l : List En) (n : Int) (w : World) (e : Ending) (w' : World) : Prop :=
  ∃ B c, e = .returned (.tuple #[tv most long B l.length c, .int .i64 n]) ∧ w'.ownsRow w.heap.size 62 4 (.slice B l.length c) l.length (l.flatMap enc) ∧ Below w.heap.size w w'

theorem filter_take (l : List En) (keep : En → Bool) (k : Nat) (h : k < l.length) : (l.take (k + 1)).filter keep = (l.take k).filter keep ++ if keep l[k] then [l[k]] else [] := by
  rw [List.take_succ_eq_append_getElem h, List.filter_append]
  congr 1
  rw [List.filter_cons]
  split <;> rfl

set_option maxRecDepth 20000 in
set_option maxHeartbeats 4000000 in
theorem kept_any (most long : Int) (l : List En) (hl : l.length ≤ 100000) (A : Option Addr) (c g : Nat) (r : Value) (keep : En → Bool)
    (hg : ∀ e ∈ l, ∀ w, Calls Tryd.prog g #[r, ev e] w fun x w' => x = .returned (.bool (keep e)) ∧ Below w.heap.size w w')
    (eg : ∀ args w, (callFunc g args).run Tryd.prog w = .ok (.enter g args) w) (w : World) (hA : Ents w A l) :
    Calls Tryd.prog 74 #[tv most long A l.length c, .func (.func g) #[r] #[]] w (KeptG most long (l.filter keep) ((l.length : Int) - (l.filter keep).length) w) := by
  obtain ⟨i0, hi, hz0, hz1, hz2⟩ := info_parts info_en
  have bel := Lib.hid (Bx.bel_box (Bx.box_below w (to most long A l.length c)) (to 0 0 none 0 0))
  have A1 := Lib.hid (hA.below bel.out)
  have K := Lib.hid ((Fre.new w [.int .i64 most, .int .i64 long, .slice A l.length c] 24).keep (Bx.box_below _ (to 0 0 none 0 0)))
  have R : Hid (Fre ((w.alloc (to most long A l.length c)).alloc (to 0 0 none 0 0)) (w.heap.size + 1) [.int .i64 0, .int .i64 0, .slice none 0 0]) := Lib.hid (by
    have := Fre.new (w.alloc (to most long A l.length c)) [.int .i64 0, .int .i64 0, .slice none 0 0] 24
    rwa [show (w.alloc (to most long A l.length c)).heap.size = w.heap.size + 1 by simp] at this)
  have HG := Lib.hid hg
  clear hA hg
  obtain ⟨⟨k0, k1, k2⟩, _⟩ := K.out.all3
  have hfl := List.length_filter_le keep l
  have HF := Lib.hid (filter_take l keep)
  have HT := Lib.hid (show (l.take l.length).filter keep = l.filter keep by rw [List.take_length])
  have hsz := Lib.hid (show ((w.alloc (to most long A l.length c)).alloc (to 0 0 none 0 0)).heap.size = w.heap.size + 2 by simp)
  go_enter Tryd.func74, Tryd.ntmps74
  go_wp2
  generalize (w.alloc (to most long A l.length c)).alloc (to 0 0 none 0 0) = W0 at *
  go_loopw [6, 8, 13] (fun v _ ix wr => ∃ (k : Nat) (B : Option Addr) (cc : Nat) (o : List En), k ≤ l.length ∧ ix = .int .i64 k ∧ v = .slice B o.length cc ∧ o.length ≤ k ∧ Aside ((l.take k).filter keep = o) ∧
    Aside (wr.ownsRow W0.heap.size 62 4 (.slice B o.length cc) o.length (o.flatMap enc)) ∧ Aside (Below W0.heap.size W0 wr)) (fun _ _ ix _ => l.length - (intOf ix).toNat)
  case atStart => exact ⟨0, none, 0, [], Nat.zero_le _, rfl, rfl, Nat.le_refl _, rfl, World.ownsRow_nil _ _ _ _, Below.refl _ _⟩
  case round =>
    obtain ⟨k, B, cc, o, hk, rfl, rfl, ho, HO, HW, HB⟩ := hrel
    by_cases hlt : k < l.length
    · obtain ⟨b, q, rfl, _, c0, c1, c2, c3⟩ := (A1.out.below HB.out).at hlt
      have HG' := Lib.hid (HG.out l[k] (List.getElem_mem hlt))
      have HN := Lib.hid (HF.out k hlt)
      rw [HO.out] at HN
      cases hx : keep l[k] with
      | true =>
        rw [hx] at HG' HN
        clear hx
        generalize l[k] = x at *
        have BX := Lib.hid (Bx.bel_box HB.out (eo x))
        have HW1 := Lib.hid (HW.out.alloc (eo x))
        have HE := Lib.hid (Bx.Blk.new wr (enc x) 62)
        have HN2 : Hid ((l.take (k + 1)).filter keep = o ++ [x]) := HN
        obtain ⟨x1, x2, x3, x4⟩ := x
        simp only at c0 c1 c2 c3
        go_wp2_with fail
        refine (HG'.out _).mono ?_; rintro e w1 ⟨rfl, hb1⟩
        have B2 := Lib.hid (Bx.then_below BX.out hb1)
        have HW2 := Lib.hid (own_below HW1.out hb1)
        obtain ⟨d0, d1, d2, d3⟩ := (HE.out.keep hb1).all4
        clear hb1 HE HW1 BX c0 c1 c2 c3
        have hw1 := B2.out.size
        go_wp2_with (at_builtin; refine wpList_append_own _ rfl _ _ 22 rfl W0.heap.size 62 i0 (.agg #[.int .i64 0, .int .u64 0, .int .i64 0, .int .i64 0]) 4 32 Tryd.underlying22 hi hz0 hz1 hz2 rfl (by decide) _ _ _ rfl (HW2.out.alloc _) ⟨_, 0, none⟩ 1 1 (enc ⟨x1, x2, x3, x4⟩) rfl rfl ?c1 ?c2 ?c3 ?c4 ?c5 ?_)
        case c1 => exact four_new _ _ _ _
        case c2 => intro u hu; exact enc_one [⟨x1, x2, x3, x4⟩] u (by simpa using hu)
        case c3 => unfold maxLen; omega
        case c4 => omega
        case c5 => simp; omega
        intro v' w5 hown' hgrow _
        have hrow := (HW.out).lt
        have bel5 := (Bx.bel_box B2.out (eo ⟨x1, x2, x3, x4⟩)).grown hgrow (by simp; omega) (fun q hq => (hrow q hq).1)
        obtain ⟨B', c', rfl, hW'⟩ := own_next hown'
        have HW3 := Lib.hid hW'
        have HBL := Lib.hid bel5
        clear hown' hgrow hrow hW' bel5
        go_wp2
        go_roundw
        case rel => exact ⟨k + 1, B', c', o ++ [(⟨x1, x2, x3, x4⟩ : En)], by omega, by go_num, rfl, by simp; omega, HN2.out, HW3.out, HBL.out⟩
        case measure => simp [intOf]; omega
      | false =>
        rw [hx] at HG' HN
        clear hx
        generalize l[k] = x at *
        have BX := Lib.hid (Bx.bel_box HB.out (eo x))
        have HW1 := Lib.hid (HW.out.alloc (eo x))
        have HN2 : Hid ((l.take (k + 1)).filter keep = o) := Lib.hid (by rw [HN.out]; simp)
        obtain ⟨x1, x2, x3, x4⟩ := x
        simp only at c0 c1 c2 c3
        go_wp2_with fail
        refine (HG'.out _).mono ?_; rintro e w1 ⟨rfl, hb1⟩
        have B2 := Lib.hid (Bx.then_below BX.out hb1)
        have HW2 := Lib.hid (own_below HW1.out hb1)
        clear hb1
        go_wp2
        go_roundw
        case rel => exact ⟨k + 1, B, cc, o, by omega, by go_num, rfl, by omega, HN2.out, HW2.out, B2.out⟩
        case measure => simp [intOf]; omega
    · obtain rfl : k = l.length := by omega
      rw [HT.out] at HO
      obtain rfl := HO.out
      obtain ⟨⟨c0, c1, c2⟩, f0, f1, f2⟩ := (K.out.keep HB.out).all3
      have R1 := Lib.hid (R.out.keep HB.out)
      obtain ⟨⟨r0, r1, r2⟩, s0, s1, s2⟩ := R1.out.all3
      clear k0 k1 k2 ho
      generalize l.filter keep = o at *
      have hwr : IntKind.i64.wrap ((l.length : Int) - (o.length : Int)) = (l.length : Int) - (o.length : Int) := by rw [IntKind.wrap_i64]; omega
      have hle : w.heap.size ≤ w.heap.size + 1 := Nat.le_succ _
      have n5 : w.heap.size + 1 ≠ w.heap.size := by omega
      have hb0 : w.heap.size < W0.heap.size := by rw [hsz.out]; omega
      have hb1 : w.heap.size + 1 < W0.heap.size := by rw [hsz.out]; omega
      have HB0 := Lib.hid ((Bx.then_below bel.out HB.out))
      have HB4 := Lib.hid ((((HB0.out.setCell (p := ⟨w.heap.size, 2, none⟩) (Nat.le_refl _) (.slice B o.length cc)).setCell (p := ⟨w.heap.size + 1, 0, none⟩) hle (.int .i64 most)).setCell (p := ⟨w.heap.size + 1, 1, none⟩) hle (.int .i64 long)).setCell (p := ⟨w.heap.size + 1, 2, none⟩) hle (.slice B o.length cc))
      have R5 := Lib.hid (((R1.out.1.other (o := 2) (x := .slice B o.length cc) n5).put3 (x0 := .int .i64 most) (x1 := .int .i64 long) (x2 := .slice B o.length cc)).all3)
      have HW5 := Lib.hid (own_mono (own_set (o := 2) (x := .slice B o.length cc) (own_set (o := 1) (x := .int .i64 long) (own_set (o := 0) (x := .int .i64 most) (own_set (o := 2) (x := .slice B o.length cc) HW.out hb0) hb1) hb1) hb1) (Nat.le_of_lt hb0))
      clear HB0 R1 HW HB K R bel A1 HG HF HT HO hb0 hb1 hsz
      go_wp2_with fail
      refine bodyPost_ret (v := .tuple #[tv most long B o.length cc, .int .i64 ((l.length : Int) - o.length)]) ?_ rfl ?_
      · obtain ⟨d0, d1, d2⟩ := R5.out
        simp [results, Tryd.results74, d0, d1, d2, go_sem]
      · exact ⟨B, cc, rfl, HW5.out, HB4.out⟩

end Tab
end Go.Proofs.YtmojegnflcokjaaDoor

/-
  Flush and Forget: the entries that stay, in a row of the call's own; New.
-/
namespace Go.Proofs.YtmojegnflcokjaaDoor
open Go.RowKit
namespace Tab
open Oct

set_option maxRecDepth 20000 in
set_option maxHeartbeats 4000000 in
theorem flush_any (most long : Int) (l : List En) (hl : l.length ≤ 100000) (A : Option Addr) (c : Nat) (x : Int) (w : World) (hA : Ents w A l) :
    Calls Tryd.prog 53 #[tv most long A l.length c, .int .i64 x] w (KeptG most long (l.filter (flushE (Por.low x))) ((l.length : Int) - (l.filter (flushE (Por.low x))).length) w) := by
  have HK := Lib.hid (fun w hA => kept_any most long l hl A c 81 (.int .i64 x) (flushE (Por.low x)) (fun e _ w => plack_any x e w) (enters_of Tryd.func81 (by kernel_rfl) rfl) w hA)
  generalize l.filter (flushE (Por.low x)) = o at *
  have bel := Lib.hid (Bx.bel_box (Bx.box_below w (to most long A l.length c)) (to 0 0 none 0 0))
  have A1 := Lib.hid (hA.below bel.out)
  have R : Hid (Fre ((w.alloc (to most long A l.length c)).alloc (to 0 0 none 0 0)) (w.heap.size + 1) [.int .i64 0, .int .i64 0, .slice none 0 0]) := Lib.hid (by
    have := Fre.new (w.alloc (to most long A l.length c)) [.int .i64 0, .int .i64 0, .slice none 0 0] 24
    rwa [show (w.alloc (to most long A l.length c)).heap.size = w.heap.size + 1 by simp] at this)
  have hsz := Lib.hid (show ((w.alloc (to most long A l.length c)).alloc (to 0 0 none 0 0)).heap.size = w.heap.size + 2 by simp)
  have hle : w.heap.size ≤ w.heap.size + 1 := Nat.le_succ _
  clear hA
  go_enter Tryd.func53, Tryd.ntmps53
  go_wp2_with fail
  refine (HK.out _ A1.out).mono ?_; rintro e w1 ⟨B, cc, rfl, hown, hb1⟩
  have bel2 := Lib.hid (Bx.then_below bel.out hb1)
  have R1 := Lib.hid (R.out.keep hb1)
  have HW := Lib.hid hown
  obtain ⟨⟨r0, r1, r2⟩, s0, s1, s2⟩ := R1.out.all3
  rw [hsz.out] at HW
  have HB4 := Lib.hid (((bel2.out.setCell (p := ⟨w.heap.size + 1, 0, none⟩) hle (.int .i64 most)).setCell (p := ⟨w.heap.size + 1, 1, none⟩) hle (.int .i64 long)).setCell (p := ⟨w.heap.size + 1, 2, none⟩) hle (.slice B o.length cc))
  have R5 := Lib.hid (((R1.out.1).put3 (x0 := .int .i64 most) (x1 := .int .i64 long) (x2 := .slice B o.length cc)).all3)
  have HW5 := Lib.hid (own_mono (own_set (o := 2) (x := .slice B o.length cc) (own_set (o := 1) (x := .int .i64 long) (own_set (o := 0) (x := .int .i64 most) HW.out (Nat.lt_succ_self _)) (Nat.lt_succ_self _)) (Nat.lt_succ_self _)) (Nat.le_add_right w.heap.size 2))
  clear hown hb1 HK bel A1 R hsz bel2 R1 HW
  go_wp2_with fail
  refine bodyPost_ret (v := .tuple #[tv most long B o.length cc, .int .i64 ((l.length : Int) - o.length)]) ?_ rfl ?_
  · obtain ⟨d0, d1, d2⟩ := R5.out
    simp [results, Tryd.results53, d0, d1, d2, go_sem]
  · exact ⟨B, cc, rfl, HW5.out, HB4.out⟩

set_option maxRecDepth 20000 in
set_option maxHeartbeats 4000000 in
theorem forget_any (most long : Int) (l : List En) (hl : l.length ≤ 100000) (A : Option Addr) (c : Nat) (p v : Int) (w : World) (hA : Ents w A l) :
    Calls Tryd.prog 54 #[tv most long A l.length c, .int .i64 p, .int .i64 v] w (KeptG most long (l.filter (lackE p v)) ((l.length : Int) - (l.filter (lackE p v)).length) w) := by
  have HK := Lib.hid (fun w hA => kept_any most long l hl A c 82 (.agg #[.int .i64 p, .int .i64 v]) (lackE p v) (fun e _ w => lack_any p v e w) (enters_of Tryd.func82 (by kernel_rfl) rfl) w hA)
  generalize l.filter (lackE p v) = o at *
  have bel := Lib.hid (Bx.bel_box (Bx.box_below w (to most long A l.length c)) (to 0 0 none 0 0))
  have A1 := Lib.hid (hA.below bel.out)
  have R : Hid (Fre ((w.alloc (to most long A l.length c)).alloc (to 0 0 none 0 0)) (w.heap.size + 1) [.int .i64 0, .int .i64 0, .slice none 0 0]) := Lib.hid (by
    have := Fre.new (w.alloc (to most long A l.length c)) [.int .i64 0, .int .i64 0, .slice none 0 0] 24
    rwa [show (w.alloc (to most long A l.length c)).heap.size = w.heap.size + 1 by simp] at this)
  have hsz := Lib.hid (show ((w.alloc (to most long A l.length c)).alloc (to 0 0 none 0 0)).heap.size = w.heap.size + 2 by simp)
  have hle : w.heap.size ≤ w.heap.size + 1 := Nat.le_succ _
  clear hA
  go_enter Tryd.func54, Tryd.ntmps54
  go_wp2_with fail
  refine (HK.out _ A1.out).mono ?_; rintro e w1 ⟨B, cc, rfl, hown, hb1⟩
  have bel2 := Lib.hid (Bx.then_below bel.out hb1)
  have R1 := Lib.hid (R.out.keep hb1)
  have HW := Lib.hid hown
  obtain ⟨⟨r0, r1, r2⟩, s0, s1, s2⟩ := R1.out.all3
  rw [hsz.out] at HW
  have HB4 := Lib.hid (((bel2.out.setCell (p := ⟨w.heap.size + 1, 0, none⟩) hle (.int .i64 most)).setCell (p := ⟨w.heap.size + 1, 1, none⟩) hle (.int .i64 long)).setCell (p := ⟨w.heap.size + 1, 2, none⟩) hle (.slice B o.length cc))
  have R5 := Lib.hid (((R1.out.1).put3 (x0 := .int .i64 most) (x1 := .int .i64 long) (x2 := .slice B o.length cc)).all3)
  have HW5 := Lib.hid (own_mono (own_set (o := 2) (x := .slice B o.length cc) (own_set (o := 1) (x := .int .i64 long) (own_set (o := 0) (x := .int .i64 most) HW.out (Nat.lt_succ_self _)) (Nat.lt_succ_self _)) (Nat.lt_succ_self _)) (Nat.le_add_right w.heap.size 2))
  clear hown hb1 HK bel A1 R hsz bel2 R1 HW
  go_wp2_with fail
  refine bodyPost_ret (v := .tuple #[tv most long B o.length cc, .int .i64 ((l.length : Int) - o.length)]) ?_ rfl ?_
  · obtain ⟨d0, d1, d2⟩ := R5.out
    simp [results, Tryd.results54, d0, d1, d2, go_sem]
  · exact ⟨B, cc, rfl, HW5.out, HB4.out⟩

/-- What New answers: an error, and how many entries the table may have, how old they grow. -/
def newE (most long : Int) : Int := if 0 ≤ most ∧ most ≤ 256 ∧ 1 ≤ long ∧ long ≤ 1048576 then 0 else 1
def newM (most long : Int) : Int := if newE most long = 0 then most else 0
def newL (most long : Int) : Int := if newE most long = 0 then long else 0

set_option maxRecDepth 20000 in
set_option maxHeartbeats 4000000 in
theorem new_any (most long : Int) (w : World) :
    Calls Tryd.prog 19 #[.int .i64 most, .int .i64 long] w fun e w' => e = .returned (.tuple #[tv (newM most long) (newL most long) none 0 0, .int .i64 (newE most long)]) ∧ Below w.heap.size w w' := by
  by_cases h : 0 ≤ most ∧ most ≤ 256 ∧ 1 ≤ long ∧ long ≤ 1048576
  · have e0 : newE most long = 0 := if_pos h
    have e1 : newM most long = most := if_pos e0
    have e2 : newL most long = long := if_pos e0
    rw [e0, e1, e2]
    obtain ⟨h1, h2, h3, h4⟩ := h
    clear e0 e1 e2
    have R5 := Lib.hid (Bx.Blk.new w [.int .i64 most, .int .i64 long, .slice none 0 0] 24).all3
    have HB4 := Lib.hid (Bx.box_below w (to most long none 0 0))
    go_enter Tryd.func19, Tryd.ntmps19
    go_wp2_with fail
    refine bodyPost_ret (v := .tuple #[tv most long none 0 0, .int .i64 0]) ?_ rfl ?_
    · obtain ⟨d0, d1, d2⟩ := R5.out
      simp [results, Tryd.results19, d0, d1, d2, go_sem]
    · exact ⟨rfl, HB4.out⟩
  · have e0 : newE most long = 1 := if_neg h
    have e1 : newM most long = 0 := if_neg (by rw [e0]; decide)
    have e2 : newL most long = 0 := if_neg (by rw [e0]; decide)
    rw [e0, e1, e2]
    clear e0 e1 e2
    have R5 := Lib.hid (Bx.Blk.new w [.int .i64 0, .int .i64 0, .slice none 0 0] 24).all3
    have HB4 := Lib.hid (Bx.box_below w (to 0 0 none 0 0))
    rcases (show most < 0 ∨ (¬ most < 0 ∧ 256 < most) ∨ (¬ most < 0 ∧ ¬ 256 < most ∧ long < 1) ∨ (¬ most < 0 ∧ ¬ 256 < most ∧ ¬ long < 1 ∧ 1048576 < long) by omega) with g1 | ⟨g1, g2⟩ | ⟨g1, g2, g3⟩ | ⟨g1, g2, g3, g4⟩
    all_goals
      clear h
      go_enter Tryd.func19, Tryd.ntmps19
      go_wp2_with fail
      refine bodyPost_ret (v := .tuple #[tv 0 0 none 0 0, .int .i64 1]) ?_ rfl ?_
      · obtain ⟨d0, d1, d2⟩ := R5.out
        simp [results, Tryd.results19, d0, d1, d2, go_sem]
      · exact ⟨rfl, HB4.out⟩

end Tab
end Go.Proofs.YtmojegnflcokjaaDoor

/-
  table.Tick: all that stay, each a tick older.
-/
namespace Go.Proofs.YtmojegnflcokjaaDoor
open Go.RowKit
namespace Tab
open Oct

theorem Fre.same {w w' : World} {k : Nat} {l : List Value} (h : Fre w k l) (hs : w'.heap[k]? = w.heap[k]?) (hz : w'.heap.size = w.heap.size) : Fre w' k l := by
  refine ⟨fun j v hv => ?_, by rw [hz]; exact h.2.1, fun j => ?_⟩
  · have := h.1 j v hv
    unfold World.cell? at this ⊢
    rw [hs]
    exact this
  · have := h.2.2 j
    unfold World.frozen? at this ⊢
    rw [hs]
    exact this

theorem Fre.put3 {W : World} {k : Nat} {y0 y1 y2 x0 x1 x2 : Value} (h : Fre W k [y0, y1, y2]) : Fre (((W.setCell ⟨k, 0, none⟩ x0).setCell ⟨k, 1, none⟩ x1).setCell ⟨k, 2, none⟩ x2) k [x0, x1, x2] :=
  ⟨h.1.put3, by simpa using h.2.1, fun j => by rw [World.frozen?_setCell, World.frozen?_setCell, World.frozen?_setCell]; exact h.2.2 j⟩

theorem own_at {w : World} {base n c k : Nat} {e : TypeId} {B : Option Addr} {l : List En} {x : En} (h : w.ownsRow base e 4 (.slice B n c) n (l.flatMap enc)) (hx : l[k]? = some x) :
    ∃ g, B = some ⟨g, 0, none⟩ ∧ base ≤ g ∧ g < w.heap.size ∧ (w.cell? ⟨g, k * 4, none⟩ = some (.int .i64 x.v) ∧ w.cell? ⟨g, k * 4 + 1, none⟩ = some (.int .u64 x.m) ∧ w.cell? ⟨g, k * 4 + 2, none⟩ = some (.int .i64 x.p) ∧ w.cell? ⟨g, k * 4 + 3, none⟩ = some (.int .i64 x.a)) ∧ ∀ j, w.frozen? ⟨g, j, none⟩ = false := by
  have hn : l.length = n := by have := h.1; rw [enc_length] at this; omega
  have hk := (List.getElem?_eq_some_iff.1 hx).1
  rcases h.2 with ⟨h1, h0⟩ | ⟨g, cap, cur, h1, hb, hg, _⟩
  · omega
  · injection h1 with e1 _ _
    subst e1
    have c := h.cells (g := g) rfl
    obtain ⟨e0, e1, e2, e3⟩ := enc_flat l k x hx
    refine ⟨g, rfl, hb, (Array.getElem?_eq_some_iff.1 hg).1, ⟨?_, ?_, ?_, ?_⟩, fun j => frozen_of_row w g j cur e hg⟩
    · have := c _ _ e0
      rwa [Addr.add_lit, Nat.zero_add] at this
    · have := c _ _ e1
      rwa [Addr.add_lit, Nat.zero_add] at this
    · have := c _ _ e2
      rwa [Addr.add_lit, Nat.zero_add] at this
    · have := c _ _ e3
      rwa [Addr.add_lit, Nat.zero_add] at this

theorem enc_set : ∀ (l : List En) (k : Nat) (x : En) (a : Int), l[k]? = some x → (l.flatMap enc).set (k * 4 + 3) (.int .i64 a) = (l.set k ⟨x.v, x.m, x.p, a⟩).flatMap enc
  | [], _, _, _, h => by simp at h
  | y :: l, 0, x, a, h => by
    simp at h
    subst h
    rfl
  | y :: l, k + 1, x, a, h => by
    have := enc_set l k x a (by simpa using h)
    rw [List.set_cons_succ, List.flatMap_cons, List.flatMap_cons, ← this, show (k + 1) * 4 + 3 = k * 4 + 3 + 4 by omega]
    rfl

theorem own_put {w : World} {base n c k g : Nat} {e : TypeId} {l : List En} {x : En} (a : Int) (h : w.ownsRow base e 4 (.slice (some ⟨g, 0, none⟩) n c) n (l.flatMap enc)) (hx : l[k]? = some x) :
    (w.setCell ⟨g, k * 4 + 3, none⟩ (.int .i64 a)).ownsRow base e 4 (.slice (some ⟨g, 0, none⟩) n c) n ((l.set k ⟨x.v, x.m, x.p, a⟩).flatMap enc) := by
  refine ⟨by rw [enc_length, List.length_set, ← enc_length]; exact h.1, ?_⟩
  rcases h.2 with ⟨h1, h0⟩ | ⟨g', cap, cur, h1, hb, hg, h4, h5, h6, h7⟩
  · cases h1
  · injection h1 with e1 e2 e3
    injection e1 with e1
    injection e1 with e1
    subst e1 e3
    refine .inr ⟨g, c, _, rfl, hb, heap_setCell_same w g (k * 4 + 3) cur e _ hg, h4, h5, by simpa using h6, ?_⟩
    rw [Array.toList_setIfInBounds, List.take_set, h7, enc_set l k x a hx]

/-- The first k are a tick older. -/
def olds (o : List En) (k : Nat) : List En := (o.take k).map older ++ o.drop k

theorem olds_at {o : List En} {k : Nat} (h : k < o.length) : (olds o k)[k]? = some o[k] := by
  unfold olds
  rw [List.getElem?_append_right (by simp; omega), List.length_map, List.length_take, Nat.min_eq_left (by omega), Nat.sub_self, List.getElem?_drop, Nat.add_zero, List.getElem?_eq_getElem h]

theorem olds_next {o : List En} {k : Nat} (h : k < o.length) : olds o (k + 1) = (olds o k).set k (older o[k]) := by
  unfold olds
  rw [List.take_succ_eq_append_getElem h, List.map_append, List.drop_eq_getElem_cons h, List.set_append_right _ _ (by simp; omega), List.length_map, List.length_take, Nat.min_eq_left (by omega), Nat.sub_self]
  simp only [List.map_cons, List.map_nil, List.set_cons_zero, List.append_assoc, List.cons_append, List.nil_append]

theorem olds_end (o : List En) : olds o o.length = o.map older := by unfold olds; simp

set_option maxRecDepth 20000 in
set_option maxHeartbeats 4000000 in
theorem tick_any (most long : Int) (hL : long ≤ 9223372036854775807) (l : List En) (hl : l.length ≤ 100000) (hle : ∀ e ∈ l, -9223372036854775808 ≤ e.a) (A : Option Addr) (c : Nat) (w : World) (hA : Ents w A l) :
    Calls Tryd.prog 52 #[tv most long A l.length c] w (KeptG most long (tickL long l) ((l.length : Int) - (tickL long l).length) w) := by
  have HK := Lib.hid (fun w hA => kept_any most long l hl A c 80 (.int .i64 long) (outl long) (fun e he w => outl_any long hL e (hle e he) w) (enters_of Tryd.func80 (by kernel_rfl) rfl) w hA)
  have HQ := Lib.hid (show ∀ e ∈ l.filter (outl long), wrap64 (e.a + 1) = e.a + 1 from fun e he => by
    obtain ⟨h1, h2⟩ := List.mem_filter.1 he
    unfold outl at h2
    rw [Bool.and_eq_true, decide_eq_true_eq, decide_eq_true_eq] at h2
    exact wrap_next (hle e h1) h2.1 hL)
  have HE := Lib.hid (show (l.filter (outl long)).map older = tickL long l from rfl)
  have hlen : (tickL long l).length = (l.filter (outl long)).length := by unfold tickL; rw [List.length_map]
  have hfl := List.length_filter_le (outl long) l
  rw [hlen]
  generalize l.filter (outl long) = o at *
  have bel := Lib.hid (Bx.bel_box (Bx.box_below w (to most long A l.length c)) (to 0 0 none 0 0))
  have A1 := Lib.hid (hA.below bel.out)
  have K := Lib.hid ((Fre.new w [.int .i64 most, .int .i64 long, .slice A l.length c] 24).keep (Bx.box_below _ (to 0 0 none 0 0)))
  have R : Hid (Fre ((w.alloc (to most long A l.length c)).alloc (to 0 0 none 0 0)) (w.heap.size + 1) [.int .i64 0, .int .i64 0, .slice none 0 0]) := Lib.hid (by
    have := Fre.new (w.alloc (to most long A l.length c)) [.int .i64 0, .int .i64 0, .slice none 0 0] 24
    rwa [show (w.alloc (to most long A l.length c)).heap.size = w.heap.size + 1 by simp] at this)
  have hsz := Lib.hid (show ((w.alloc (to most long A l.length c)).alloc (to 0 0 none 0 0)).heap.size = w.heap.size + 2 by simp)
  obtain ⟨⟨k0, k1, k2⟩, _⟩ := K.out.all3
  have hle1 : w.heap.size ≤ w.heap.size + 1 := Nat.le_succ _
  have hle2 : w.heap.size ≤ w.heap.size + 2 := Nat.le_add_right _ _
  clear hA hle K hlen
  go_enter Tryd.func52, Tryd.ntmps52
  go_wp2_with fail
  refine (HK.out _ A1.out).mono ?_; rintro e w1 ⟨B, cc, rfl, hown, hb1⟩
  have bel2 := Lib.hid (Bx.bel_box (Bx.then_below bel.out hb1) (to most long B o.length cc))
  have R1 := Lib.hid ((R.out.keep hb1).keep (Bx.box_below w1 (to most long B o.length cc)))
  have T1 := Lib.hid (Fre.new w1 [.int .i64 most, .int .i64 long, .slice B o.length cc] 24)
  have HW := Lib.hid (hown.alloc (to most long B o.length cc))
  have HLT := Lib.hid hown.lt
  have hs1 : w.heap.size + 2 ≤ w1.heap.size := by have := hb1.size; rw [hsz.out] at this; exact this
  rw [hsz.out] at HW HLT
  obtain ⟨⟨c0, c1, c2⟩, f0, f1, f2⟩ := T1.out.all3
  clear hown hb1 HK bel A1 R hsz k0 k1 k2
  go_wp2
  generalize hW1 : w1.alloc (to most long B o.length cc) = W1 at *
  have HID := Lib.hid hW1
  clear hW1
  go_loopw [6, 18] (fun _ ix wr => ∃ k : Nat, k ≤ o.length ∧ ix = .int .i64 k ∧ Aside (wr.ownsRow (w.heap.size + 2) 62 4 (.slice B o.length cc) o.length ((olds o k).flatMap enc)) ∧
    Aside (∀ b, B ≠ some ⟨b, 0, none⟩ → wr.heap[b]? = W1.heap[b]?) ∧ Aside (wr.heap.size = W1.heap.size) ∧ Aside (Below w.heap.size w wr)) (fun _ ix _ => o.length - (intOf ix).toNat)
  case atStart => exact ⟨0, Nat.zero_le _, rfl, HW.out, fun _ _ => rfl, rfl, bel2.out⟩
  case round =>
    obtain ⟨k, hk, rfl, HO, HS, HZ, HB⟩ := hrel
    by_cases hlt : k < o.length
    · obtain ⟨g, rfl, hg1, hg2, ⟨d0, d1, d2, d3⟩, hf⟩ := own_at HO.out (olds_at hlt)
      have hgw := HLT.out g rfl
      have T2 := Lib.hid (T1.out.same (HS.out w1.heap.size (fun e => by cases e; omega)) HZ.out)
      obtain ⟨⟨t0, t1, t2⟩, s0, s1, s2⟩ := T2.out.all3
      have hq := HQ.out o[k] (List.getElem_mem hlt)
      have HO2 := Lib.hid (own_put (o[k].a + 1) HO.out (olds_at hlt))
      rw [show (⟨o[k].v, o[k].m, o[k].p, o[k].a + 1⟩ : En) = older o[k] from rfl, ← olds_next hlt] at HO2
      have hf3 := hf (k * 4 + 3)
      clear hf c0 c1 c2 f0 f1 f2 T2 HO
      generalize o[k] = x at *
      obtain ⟨x1, x2, x3, x4⟩ := x
      simp only at d0 d1 d2 d3 hq HO2
      go_wp2
      go_roundw
      case rel => exact ⟨k + 1, by omega, by go_num, HO2.out, fun b hb => (Below.heap_setCell _ _ _ b (fun e => hb (by rw [e]))).trans (HS.out b hb), (World.size_setCell wr _ _).trans HZ.out, HB.out.setCell (p := ⟨g, _, none⟩) (by show w.heap.size ≤ g; omega) _⟩
      case measure => simp [intOf]; omega
    · obtain rfl : k = o.length := by omega
      rw [olds_end, HE.out] at HO
      have hne : ∀ b, b < w.heap.size + 2 ∨ w1.heap.size ≤ b → B ≠ some ⟨b, 0, none⟩ := fun b hb e => by
        have := HLT.out b (by rw [e]; rfl)
        omega
      have T2 := Lib.hid (T1.out.same (HS.out w1.heap.size (hne _ (by omega))) HZ.out)
      have R2 := Lib.hid (R1.out.same (HS.out (w.heap.size + 1) (hne _ (by omega))) HZ.out)
      obtain ⟨⟨t0, t1, t2⟩, s0, s1, s2⟩ := T2.out.all3
      obtain ⟨⟨r0, r1, r2⟩, q0, q1, q2⟩ := R2.out.all3
      have HB4 := Lib.hid (((HB.out.setCell (p := ⟨w.heap.size + 1, 0, none⟩) hle1 (.int .i64 most)).setCell (p := ⟨w.heap.size + 1, 1, none⟩) hle1 (.int .i64 long)).setCell (p := ⟨w.heap.size + 1, 2, none⟩) hle1 (.slice B o.length cc))
      have R5 := Lib.hid (((R2.out.1).put3 (x0 := .int .i64 most) (x1 := .int .i64 long) (x2 := .slice B o.length cc)).all3)
      have HW5 := Lib.hid (own_mono (own_set (o := 2) (x := .slice B o.length cc) (own_set (o := 1) (x := .int .i64 long) (own_set (o := 0) (x := .int .i64 most) HO.out (Nat.lt_succ_self _)) (Nat.lt_succ_self _)) (Nat.lt_succ_self _)) hle2)
      clear HO HS HZ HB R1 R2 T1 T2 hne c0 c1 c2 f0 f1 f2 HLT HQ
      go_wp2_with fail
      refine bodyPost_ret (v := .tuple #[tv most long B o.length cc, .int .i64 ((l.length : Int) - o.length)]) ?_ rfl ?_
      · obtain ⟨d0, d1, d2⟩ := R5.out
        simp [results, Tryd.results52, d0, d1, d2, go_sem]
      · have ho : (tickL long l).length = o.length := by rw [← HE.out, List.length_map]
        exact ⟨B, cc, by rw [ho], by rw [ho]; exact HW5.out, HB4.out⟩

end Tab
end Go.Proofs.YtmojegnflcokjaaDoor

/-
  Go's copy where an element has any number of cells (over any program): what lies in the row behind it, at a call and in a region that draws its order.
-/
namespace Go.Proofs.YtmojegnflcokjaaDoor
open Go Go.RowKit
namespace Ck

theorem run_copy_k {P : Program} (w : World) (sz : Nat) (dT sT ty elem : TypeId) (g o dLen dCap : Nat) (a : Addr) (sLen sCap : Nat) (cur : Array Value) (t : TypeId) (cs : List Value) (m : Nat)
    (hu : P.underlying dT = some (.slice elem)) (hs : (P.info? elem).map (·.size) = some sz)
    (hg : w.heap[g]? = some (.cells cur t (0, 0))) (hm : m = Nat.min sLen dLen) (hn : cs.length = m * sz)
    (hsrc : ∀ j v, cs[j]? = some v → w.cell? (a.add j) = some v) (hfit : o + cs.length ≤ cur.size) (h1 : ∀ v ∈ cs, v.oneCell' = true) :
    (Builtin.copy_ #[dT, sT] ty #[.slice (some ⟨g, o, none⟩) dLen dCap, .slice (some a) sLen sCap]).run P w =
      .ok (goInt m) (w.setRow g (cur.toList.take o ++ cs ++ cur.toList.drop (o + cs.length)).toArray) := by
  have hl := run_loadCells_list (P := P) w a cs hsrc
  have hst := run_storeCells_at P g o t cs 0 cur w hg (by simpa using hfit) h1
  rw [hn] at hl
  cases hq : P.info? elem with
  | none => simp [hq] at hs
  | some i =>
    have hi : i.size = sz := by simpa [hq] using hs
    simp [Builtin.copy_, run_underlying hu, Builtin.lenOf, Builtin.firstCells, sizeOf, typeInfo, hq, hi, ← hm, hl, hst]

theorem run_copy_zero {P : Program} (w : World) (sz : Nat) (dT sT ty elem : TypeId) (d a : Option Addr) (dLen dCap sLen sCap : Nat) (hu : P.underlying dT = some (.slice elem)) (hs : (P.info? elem).map (·.size) = some sz) (hn : Nat.min sLen dLen = 0) :
    (Builtin.copy_ #[dT, sT] ty #[.slice d dLen dCap, .slice a sLen sCap]).run P w = .ok (goInt 0) w := by
  cases hq : P.info? elem with
  | none => simp [hq] at hs
  | some i =>
    have hl : ∀ (x : Addr), (loadCells x 0).run P w = .ok #[] w := fun x => by simpa using run_loadCells_list (P := P) w x [] (by simp)
    cases d <;> cases a <;> simp [Builtin.copy_, run_underlying hu, Builtin.lenOf, Builtin.firstCells, sizeOf, typeInfo, hq, hn, storeCells, hl]

/-- What a copy makes of a row that is known whole: m elements of some cells, laid over it from a place on. -/
theorem run_copy_both {P : Program} (w : World) (sz : Nat) (dT sT ty elem : TypeId) (dp sp : Option Addr) (dLen dCap sLen sCap : Nat)
    (hu : P.underlying dT = some (.slice elem)) (hsz : (P.info? elem).map (·.size) = some sz)
    (g off : Nat) (cur : List Value) (t : TypeId) (hg : w.heap[g]? = some (.cells cur.toArray t (0, 0))) (cs : List Value) (m : Nat) (hm : m = Nat.min sLen dLen) (hn : cs.length = m * sz)
    (hpos : 0 < m → dp = some ⟨g, off, none⟩ ∧ ∃ ad, sp = some ad ∧ ∀ j v, cs[j]? = some v → w.cell? (ad.add j) = some v)
    (hfit : off + cs.length ≤ cur.length) (h1 : ∀ v ∈ cs, v.oneCell' = true) (B : Nat) (w0 : World) (hb : Below B w0 w) (hBg : B ≤ g) :
    ∃ w', (Builtin.copy_ #[dT, sT] ty #[.slice dp dLen dCap, .slice sp sLen sCap]).run P w = .ok (goInt m) w' ∧ w'.heap[g]? = some (.cells (splice cur off cs).toArray t (0, 0)) ∧ Below B w0 w' ∧ (∀ k, k ≠ g → w'.heap[k]? = w.heap[k]?) ∧ w'.heap.size = w.heap.size := by
  by_cases h0 : m = 0
  · subst h0
    obtain rfl : cs = [] := List.eq_nil_of_length_eq_zero (by rw [hn, Nat.zero_mul])
    exact ⟨w, run_copy_zero w sz dT sT ty elem dp sp dLen dCap sLen sCap hu hsz hm.symm, by simpa [splice] using hg, hb, fun _ _ => rfl, rfl⟩
  · obtain ⟨rfl, ad, rfl, hsrc⟩ := hpos (by omega)
    exact ⟨_, run_copy_k w sz dT sT ty elem g off dLen dCap ad sLen sCap cur.toArray t cs m hu hsz hg hm hn hsrc (by simpa using hfit) h1,
      by simpa [splice] using setRow_heap w g _ (cur.take off ++ cs ++ cur.drop (off + cs.length)).toArray t _ hg, below_setRow hb hBg _, fun k hk => setRow_other w g k _ hk, by simp [World.setRow]⟩

theorem wpList_copy_k {P : Program} {w : World} {ops : Array Oper} {rest : List Oper} {o : Oper} {a : Act} {Q : Exit → Act → World → Prop} (hgd : o.guard = none) (d s : Operand) (dT sT : TypeId)
    (ho : o.op = .call { callee := .builtin .copy, args := #[d, s], argTypes := #[dT, sT] }) (sz : Nat) (elem : TypeId) (hu : P.underlying dT = some (.slice elem)) (hsz : (P.info? elem).map (·.size) = some sz)
    (dp sp : Option Addr) (dLen dCap sLen sCap : Nat) (hd : a.eval d = .slice dp dLen dCap) (hs : a.eval s = .slice sp sLen sCap)
    (g off : Nat) (cur : List Value) (t : TypeId) (hg : w.heap[g]? = some (.cells cur.toArray t (0, 0))) (cs : List Value) (m : Nat) (hm : m = Nat.min sLen dLen) (hn : cs.length = m * sz)
    (hpos : 0 < m → dp = some ⟨g, off, none⟩ ∧ ∃ ad, sp = some ad ∧ ∀ j v, cs[j]? = some v → w.cell? (ad.add j) = some v)
    (hfit : off + cs.length ≤ cur.length) (h1 : ∀ v ∈ cs, v.oneCell' = true) (B : Nat) (w0 : World) (hb : Below B w0 w) (hBg : B ≤ g)
    (h : ∀ w', Hid (w'.heap[g]? = some (.cells (splice cur off cs).toArray t (0, 0))) → Hid (Below B w0 w') → Hid (∀ k, k ≠ g → w'.heap[k]? = w.heap[k]?) → Hid (w'.heap.size = w.heap.size) → wpList P ops Q rest (a.put o.dst (goInt m)) w') :
    wpList P ops Q (o :: rest) a w := by
  obtain ⟨w', hrun, e1, e2, e3, e4⟩ := run_copy_both (P := P) w sz dT sT o.type elem dp sp dLen dCap sLen sCap hu hsz g off cur t hg cs m hm hn hpos hfit h1 B w0 hb hBg
  refine wpList_plain hgd fun K hK => ?_
  unfold Oper.wp
  simp [execOp, ho, resolve, invoke, builtin, hd, hs, hrun, Result.andThen]
  exact hK _ _ (h w' e1 e2 e3 e4)

theorem step_copy_k {P : Program} {ops : Array Oper} {o : Oper} {a : Act} {w : World} {K : Act → World → Prop} {Q : Exit → Act → World → Prop} {E : Prop} (hgd : o.guard = none) (d s : Operand) (dT sT : TypeId)
    (ho : o.op = .call { callee := .builtin .copy, args := #[d, s], argTypes := #[dT, sT] }) (sz : Nat) (elem : TypeId) (hu : P.underlying dT = some (.slice elem)) (hsz : (P.info? elem).map (·.size) = some sz)
    (dp sp : Option Addr) (dLen dCap sLen sCap : Nat) (hd : a.eval d = .slice dp dLen dCap) (hs : a.eval s = .slice sp sLen sCap)
    (g off : Nat) (cur : List Value) (t : TypeId) (hg : w.heap[g]? = some (.cells cur.toArray t (0, 0))) (cs : List Value) (m : Nat) (hm : m = Nat.min sLen dLen) (hn : cs.length = m * sz)
    (hpos : 0 < m → dp = some ⟨g, off, none⟩ ∧ ∃ ad, sp = some ad ∧ ∀ j v, cs[j]? = some v → w.cell? (ad.add j) = some v)
    (hfit : off + cs.length ≤ cur.length) (h1 : ∀ v ∈ cs, v.oneCell' = true) (B : Nat) (w0 : World) (hb : Below B w0 w) (hBg : B ≤ g)
    (h : ∀ w', Hid (w'.heap[g]? = some (.cells (splice cur off cs).toArray t (0, 0))) → Hid (Below B w0 w') → Hid (∀ k, k ≠ g → w'.heap[k]? = w.heap[k]?) → Hid (w'.heap.size = w.heap.size) → K (a.put o.dst (goInt m)) w') :
    if Region.wanted o (yielded ops a.tmps) = true then Oper.wp P o a w K Q else E := by
  obtain ⟨w', hrun, e1, e2, e3, e4⟩ := run_copy_both (P := P) w sz dT sT o.type elem dp sp dLen dCap sLen sCap hu hsz g off cur t hg cs m hm hn hpos hfit h1 B w0 hb hBg
  have hw : Region.wanted o (yielded ops a.tmps) = true := by simp [Region.wanted, hgd]
  rw [if_pos hw]
  unfold Oper.wp
  simp [execOp, ho, resolve, invoke, builtin, hd, hs, hrun, Result.andThen]
  exact h w' e1 e2 e3 e4

end Ck
end Go.Proofs.YtmojegnflcokjaaDoor
