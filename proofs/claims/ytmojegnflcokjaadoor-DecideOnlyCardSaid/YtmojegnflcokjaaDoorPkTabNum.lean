/-
  Packed in one text: TabNum, TabA, TabB, Whole, EthA, MemNum, MemA, Dict, Fre.
-/
import Derived.Test.YtmojegnflcokjaaDoorPkOctNum
import Derived.Test.YtmojegnflcokjaaDoorPorNum
import Derived.Test.YtmojegnflcokjaaDoorBox
import Derived.Test.YtmojegnflcokjaaDoorPorA
import Derived.Deep.RegionHeld3
import Derived.Maps.AppendAt
import Derived.Shelf.Abstract
import Derived.Deep.MidRow
import Derived.BigFrame
import Derived.Maps.Own
import Derived.Maps.OwnOps
/-
  Entries of a table as plain data: which stands ahead of which, what a right one is, what is learnt, and that all of it keeps a table in order.
-/
namespace Go.Proofs.YtmojegnflcokjaaDoor
namespace Tab

/-- An entry: its VLAN, its address, its port, and how old it is. -/
structure En where
  v : Int
  m : Nat
  p : Int
  a : Int

def rightP (p : Int) : Bool := decide (0 ≤ p ∧ p < 8)
def rightV (v : Int) : Bool := decide (1 ≤ v ∧ v ≤ 4094)
/-- Is it the entry of that VLAN and address? -/
def isK (v : Int) (m : Nat) (e : En) : Bool := decide (v = e.v ∧ m = e.m)
/-- Does one stand ahead of another one? -/
def ahd (x y : En) : Bool := decide (x.v < y.v ∨ (x.v = y.v ∧ x.m < y.m))
def okE (long : Int) (e : En) : Bool := decide (0 ≤ e.a ∧ e.a < long) && rightP e.p && !Mac.groupB e.m && rightV e.v

/-- All right, each ahead of the next one. -/
def chB (long : Int) : Option En → List En → Bool
  | _, [] => true
  | none, e :: l => okE long e && chB long (some e) l
  | some x, e :: l => okE long e && ahd x e && chB long (some e) l
def sndB (most long : Int) (l : List En) : Bool := decide ((l.length : Int) ≤ most) && chB long none l

/-- A sound table. -/
structure Snd (most long : Int) (l : List En) : Prop where
  len : (l.length : Int) ≤ most
  ok : ∀ e ∈ l, okE long e = true
  srt : l.Pairwise fun x y => ahd x y = true

theorem ahd_iff (x y : En) : ahd x y = true ↔ x.v < y.v ∨ (x.v = y.v ∧ x.m < y.m) := by unfold ahd; exact decide_eq_true_iff
theorem isK_iff (v : Int) (m : Nat) (e : En) : isK v m e = true ↔ v = e.v ∧ m = e.m := by unfold isK; exact decide_eq_true_iff

theorem ahd_trans {x y z : En} (h : ahd x y = true) (g : ahd y z = true) : ahd x z = true := by
  rw [ahd_iff] at *
  omega

theorem ahd_total {x y : En} (h : ahd x y = false) (hk : isK y.v y.m x = false) : ahd y x = true := by
  have h1 : ¬ (x.v < y.v ∨ (x.v = y.v ∧ x.m < y.m)) := by rw [← ahd_iff, h]; simp
  have h2 : ¬ (y.v = x.v ∧ y.m = x.m) := by rw [← isK_iff, hk]; simp
  rw [ahd_iff]
  omega

theorem ahd_key {x y : En} (h : ahd x y = true) : isK x.v x.m y = false := by
  rw [ahd_iff] at h
  cases e : isK x.v x.m y with
  | false => rfl
  | true => rw [isK_iff] at e; omega

theorem ch_of {long : Int} : ∀ (l : List En) (q : Option En), (∀ e ∈ l, okE long e = true) → (l.Pairwise fun x y => ahd x y = true) → (∀ x, q = some x → ∀ e ∈ l, ahd x e = true) → chB long q l = true
  | [], q, _, _, _ => by cases q <;> rfl
  | e :: l, q, h1, h2, h3 => by
    have ih := ch_of l (some e) (fun x hx => h1 x (List.mem_cons_of_mem _ hx)) (List.pairwise_cons.1 h2).2 (fun x hx y hy => by cases hx; exact (List.pairwise_cons.1 h2).1 y hy)
    have e1 := h1 e List.mem_cons_self
    cases q with
    | none => rw [chB, e1, ih]; rfl
    | some x => rw [chB, e1, ih, h3 x rfl e List.mem_cons_self]; rfl

theorem Snd.b {most long : Int} {l : List En} (h : Snd most long l) : sndB most long l = true := by
  unfold sndB
  rw [decide_eq_true h.len, ch_of l none h.ok h.srt (fun x hx => by cases hx)]
  rfl

theorem ch_ok {long : Int} : ∀ (l : List En) (q : Option En), chB long q l = true → ∀ e ∈ l, okE long e = true
  | [], _, _, e, h => by simp at h
  | x :: l, q, hc, e, h => by
    have : okE long x = true ∧ chB long (some x) l = true := by
      cases q with
      | none => rw [chB, Bool.and_eq_true] at hc; exact hc
      | some y => rw [chB, Bool.and_eq_true, Bool.and_eq_true] at hc; exact ⟨hc.1.1, hc.2⟩
    rcases List.mem_cons.1 h with rfl | h
    · exact this.1
    · exact ch_ok l _ this.2 e h

theorem snd_ok {most long : Int} {l : List En} (h : sndB most long l = true) : ∀ e ∈ l, okE long e = true := by
  unfold sndB at h
  rw [Bool.and_eq_true] at h
  exact ch_ok l none h.2

theorem Snd.nil {most long : Int} (h : 0 ≤ most) : Snd most long [] := ⟨h, fun e he => by simp at he, List.Pairwise.nil⟩

theorem Snd.filter {most long : Int} {l : List En} (h : Snd most long l) (f : En → Bool) : Snd most long (l.filter f) :=
  ⟨by have := List.length_filter_le f l; have := h.len; omega, fun e he => h.ok e (List.mem_filter.1 he).1, h.srt.filter _⟩

/-- The place behind all that stand ahead of e; i are gone by, and at is the place so far. -/
def behF : Nat → Nat → List En → En → Nat
  | at', _, [], _ => at'
  | at', i, x :: l, e => behF (if ahd x e then i + 1 else at') (i + 1) l e

theorem beh_none (e : En) : ∀ (l : List En) (n i : Nat), (∀ x ∈ l, ahd x e = false) → behF n i l e = n
  | [], _, _, _ => rfl
  | x :: l, n, i, h => by
    rw [behF, h x List.mem_cons_self]
    exact beh_none e l n (i + 1) (fun y hy => h y (List.mem_cons_of_mem _ hy))

theorem beh_le (e : En) : ∀ (l : List En) (n i : Nat), n ≤ i → behF n i l e ≤ i + l.length
  | [], n, i, h => by simpa [behF] using h
  | x :: l, n, i, h => by
    rw [behF, List.length_cons]
    have : (if ahd x e then i + 1 else n) ≤ i + 1 := by split <;> omega
    have := beh_le e l _ (i + 1) this
    omega

theorem none_ahead {x e : En} {l : List En} (h : (x :: l).Pairwise fun x y => ahd x y = true) (hx : ahd x e = false) : ∀ y ∈ x :: l, ahd y e = false := by
  intro y hy
  rcases List.mem_cons.1 hy with rfl | hy
  · exact hx
  · have := (List.pairwise_cons.1 h).1 y hy
    cases hc : ahd y e with
    | false => rfl
    | true => rw [ahd_trans this hc] at hx; cases hx

theorem beh_eq (e : En) : ∀ (l : List En) (i : Nat), (l.Pairwise fun x y => ahd x y = true) → behF i i l e = i + (l.takeWhile (ahd · e)).length
  | [], i, _ => rfl
  | x :: l, i, h => by
    rw [behF, List.takeWhile_cons]
    cases hx : ahd x e with
    | true =>
      have := beh_eq e l (i + 1) (List.pairwise_cons.1 h).2
      simp only [if_true, List.length_cons]
      omega
    | false =>
      have := beh_none e l i (i + 1) (fun y hy => none_ahead h hx y (List.mem_cons_of_mem _ hy))
      simpa using this

/-- l with e behind all that stand ahead of it. -/
def insL (l : List En) (e : En) : List En := l.take (behF 0 0 l e) ++ e :: l.drop (behF 0 0 l e)

theorem ins_eq {l : List En} (h : l.Pairwise fun x y => ahd x y = true) (e : En) : insL l e = l.takeWhile (ahd · e) ++ e :: l.dropWhile (ahd · e) := by
  unfold insL
  rw [beh_eq e l 0 h, Nat.zero_add]
  have h1 : l.takeWhile (ahd · e) ++ l.dropWhile (ahd · e) = l := List.takeWhile_append_dropWhile
  have h2 : ∀ n, n = (l.takeWhile (ahd · e)).length → l.take n = l.takeWhile (ahd · e) ∧ l.drop n = l.dropWhile (ahd · e) := fun n hn => by
    generalize l.takeWhile (ahd · e) = a at *
    generalize l.dropWhile (ahd · e) = b at *
    subst h1 hn
    exact ⟨List.take_left, List.drop_left⟩
  rw [(h2 _ rfl).1, (h2 _ rfl).2]

theorem drop_ahead (e : En) : ∀ (l : List En), (l.Pairwise fun x y => ahd x y = true) → ∀ y ∈ l.dropWhile (ahd · e), ahd y e = false
  | [], _, y, hy => by simp at hy
  | x :: l, h, y, hy => by
    rw [List.dropWhile_cons] at hy
    cases hx : ahd x e with
    | true =>
      rw [hx] at hy
      exact drop_ahead e l (List.pairwise_cons.1 h).2 y (by simpa using hy)
    | false =>
      rw [hx] at hy
      exact none_ahead h hx y (by simpa using hy)

theorem take_ahead (e : En) (l : List En) : ∀ y ∈ l.takeWhile (ahd · e), ahd y e = true := fun y hy => by
  have := List.all_takeWhile (p := (ahd · e)) (l := l)
  exact List.all_eq_true.1 this y hy

theorem ins_mem {l : List En} {e y : En} : y ∈ insL l e ↔ y = e ∨ y ∈ l := by
  unfold insL
  conv => rhs; rw [← List.take_append_drop (behF 0 0 l e) l]
  simp only [List.mem_append, List.mem_cons]
  constructor
  · rintro (h | rfl | h)
    · exact .inr (.inl h)
    · exact .inl rfl
    · exact .inr (.inr h)
  · rintro (rfl | h | h)
    · exact .inr (.inl rfl)
    · exact .inl h
    · exact .inr (.inr h)

theorem ins_length (l : List En) (e : En) : (insL l e).length = l.length + 1 := by
  unfold insL
  rw [List.length_append, List.length_cons, List.length_take, List.length_drop]
  have := beh_le e l 0 0 (Nat.le_refl _)
  omega

theorem ins_sorted {l : List En} (h : l.Pairwise fun x y => ahd x y = true) (e : En) (hk : ∀ x ∈ l, isK e.v e.m x = false) : (insL l e).Pairwise fun x y => ahd x y = true := by
  rw [ins_eq h, List.pairwise_append]
  have hd : ∀ y ∈ l.dropWhile (ahd · e), ahd e y = true := fun y hy =>
    ahd_total (drop_ahead e l h y hy) (hk y ((List.dropWhile_sublist _).subset hy))
  refine ⟨h.sublist (List.takeWhile_sublist _), List.pairwise_cons.2 ⟨hd, h.sublist (List.dropWhile_sublist _)⟩, fun x hx y hy => ?_⟩
  rcases List.mem_cons.1 hy with rfl | hy
  · exact take_ahead _ l x hx
  · exact ahd_trans (take_ahead e l x hx) (hd y hy)

/-- All but the entry of that VLAN and address. -/
def rest (v : Int) (m : Nat) (l : List En) : List En := l.filter fun e => !isK v m e

def learnE (most : Int) (l : List En) (v : Int) (m : Nat) (p : Int) : Int :=
  if rightV v && Mac.rightB m && !Mac.groupB m && rightP p then if (rest v m l).length = l.length ∧ most ≤ (l.length : Int) then 8 else 0 else 1
def learnL (most : Int) (l : List En) (v : Int) (m : Nat) (p : Int) : List En :=
  if learnE most l v m p = 0 then insL (rest v m l) ⟨v, m, p, 0⟩ else l

theorem learn_err {most : Int} {l : List En} {v : Int} {m : Nat} {p : Int} (h : learnE most l v m p ≠ 0) : learnL most l v m p = l := if_neg h
theorem learn_ok {most : Int} {l : List En} {v : Int} {m : Nat} {p : Int} (h : learnE most l v m p = 0) : learnL most l v m p = insL (rest v m l) ⟨v, m, p, 0⟩ := if_pos h

theorem learn_right {most : Int} {l : List En} {v : Int} {m : Nat} {p : Int} (h : learnE most l v m p = 0) : rightV v = true ∧ Mac.rightB m = true ∧ Mac.groupB m = false ∧ rightP p = true ∧ ((rest v m l).length + 1 ≤ l.length ∨ (l.length : Int) < most) := by
  unfold learnE at h
  have hl : (rest v m l).length ≤ l.length := List.length_filter_le _ _
  split at h
  · rename_i h1
    simp only [Bool.and_eq_true, Bool.not_eq_true'] at h1
    split at h
    · cases h
    · rename_i h2
      exact ⟨h1.1.1.1, h1.1.1.2, h1.1.2, h1.2, by omega⟩
  · cases h

theorem rest_key (v : Int) (m : Nat) (l : List En) : ∀ x ∈ rest v m l, isK v m x = false := fun x hx => by
  have := (List.mem_filter.1 hx).2
  simpa using this

theorem Snd.learn {most long : Int} {l : List En} (h : Snd most long l) (hL : 1 ≤ long) (v : Int) (m : Nat) (p : Int) : Snd most long (learnL most l v m p) := by
  by_cases he : learnE most l v m p = 0
  · rw [learn_ok he]
    obtain ⟨h1, _, h2, h3, h4⟩ := learn_right he
    have hf := h.filter fun e => !isK v m e
    refine ⟨?_, fun e hm => ?_, ins_sorted hf.srt _ (rest_key v m l)⟩
    · rw [ins_length]
      have := hf.len
      have := h.len
      have : (rest v m l).length ≤ l.length := List.length_filter_le _ _
      omega
    · rcases ins_mem.1 hm with rfl | hm
      · unfold okE
        rw [decide_eq_true (by simp; omega), h1, h2, h3]
        rfl
      · exact hf.ok e hm
  · rw [learn_err he]
    exact h

theorem learn_len (most : Int) (l : List En) (v : Int) (m : Nat) (p : Int) : (learnL most l v m p).length ≤ l.length + 1 := by
  unfold learnL
  have : (rest v m l).length ≤ l.length := List.length_filter_le _ _
  split
  · rw [ins_length]; omega
  · omega

/-- The entry of that VLAN and address. -/
def findE (l : List En) (v : Int) (m : Nat) : Option En := l.find? (isK v m)

theorem find_mem {l : List En} (h : l.Pairwise fun x y => ahd x y = true) {e : En} (he : e ∈ l) : findE l e.v e.m = some e := by
  unfold findE
  induction l with
  | nil => simp at he
  | cons x l ih =>
    rw [List.find?_cons]
    have hp := List.pairwise_cons.1 h
    rcases List.mem_cons.1 he with rfl | he
    · rw [(isK_iff _ _ _).2 ⟨rfl, rfl⟩]
    · have h1 := hp.1 e he
      have : isK e.v e.m x = false := by
        rw [ahd_iff] at h1
        cases e1 : isK e.v e.m x with
        | false => rfl
        | true => rw [isK_iff] at e1; omega
      rw [this]
      exact ih hp.2 he

theorem learn_find {most long : Int} {l : List En} (h : Snd most long l) (hL : 1 ≤ long) {v : Int} {m : Nat} {p : Int} (he : learnE most l v m p = 0) : findE (learnL most l v m p) v m = some ⟨v, m, p, 0⟩ := by
  refine find_mem (e := ⟨v, m, p, 0⟩) (h.learn hL v m p).srt ?_
  rw [learn_ok he]
  exact ins_mem.2 (.inl rfl)

/-- Does it stay for a tick more? -/
def outl (long : Int) (e : En) : Bool := decide (e.a < long) && decide (e.a + 1 < long)
def older (e : En) : En := ⟨e.v, e.m, e.p, e.a + 1⟩
def tickL (long : Int) (l : List En) : List En := (l.filter (outl long)).map older

theorem Snd.tick {most long : Int} {l : List En} (h : Snd most long l) : Snd most long (tickL long l) := by
  have hf := h.filter (outl long)
  refine ⟨by unfold tickL; rw [List.length_map]; exact hf.len, fun e he => ?_, ?_⟩
  · unfold tickL at he
    obtain ⟨x, hx, rfl⟩ := List.mem_map.1 he
    have h1 := hf.ok x hx
    have h2 := (List.mem_filter.1 hx).2
    unfold outl at h2
    unfold okE at h1 ⊢
    simp only [Bool.and_eq_true, decide_eq_true_eq] at h1 h2 ⊢
    refine ⟨⟨⟨⟨?_, ?_⟩, h1.1.1.2⟩, h1.1.2⟩, h1.2⟩
    · show 0 ≤ x.a + 1; omega
    · exact h2.2
  · unfold tickL
    rw [List.pairwise_map]
    exact hf.srt.imp fun {x y} hxy => by rw [ahd_iff] at *; exact hxy

/-- Are they at the port, and of the VLAN (of any, if that is 0)? -/
def lackE (p v : Int) (e : En) : Bool := decide (e.p ≠ p) || (decide (v ≠ 0) && decide (e.v ≠ v))
def flushE (set : Nat) (e : En) : Bool := !Por.hasZ set e.p

end Tab
end Go.Proofs.YtmojegnflcokjaaDoor

/-
  Entries in memory; what the method values of package table say of any entry.
-/
namespace Go.Proofs.YtmojegnflcokjaaDoor
open Go.RowKit
namespace Tab
open Oct

/-- An entry as a value, and its four cells. -/
abbrev ev (e : En) : Value := .agg #[.int .i64 e.v, .int .u64 e.m, .int .i64 e.p, .int .i64 e.a]
def enc (e : En) : List Value := [.int .i64 e.v, .int .u64 e.m, .int .i64 e.p, .int .i64 e.a]
abbrev eo (e : En) : Obj := .cells #[.int .i64 e.v, .int .u64 e.m, .int .i64 e.p, .int .i64 e.a] 62
abbrev tv (most long : Int) (A : Option Addr) (n c : Nat) : Value := .agg #[.int .i64 most, .int .i64 long, .slice A n c]
abbrev to (most long : Int) (A : Option Addr) (n c : Nat) : Obj := .cells #[.int .i64 most, .int .i64 long, .slice A n c] 24

/-- The slice that begins at A reads as the entries l. -/
def Ents (w : World) (A : Option Addr) (l : List En) : Prop := ∀ j x, l[j]? = some x → ∃ b o, A = some ⟨b, o, none⟩ ∧ b < w.heap.size ∧ w.cell? ⟨b, o + j * 4, none⟩ = some (.int .i64 x.v) ∧ w.cell? ⟨b, o + j * 4 + 1, none⟩ = some (.int .u64 x.m) ∧ w.cell? ⟨b, o + j * 4 + 2, none⟩ = some (.int .i64 x.p) ∧ w.cell? ⟨b, o + j * 4 + 3, none⟩ = some (.int .i64 x.a)

theorem Ents.below {w w' : World} {A : Option Addr} {l : List En} (h : Ents w A l) (hb : Below w.heap.size w w') : Ents w' A l := fun j x hj => by
  obtain ⟨b, o, e, h1, h2, h3, h4, h5⟩ := h j x hj
  exact ⟨b, o, e, Nat.lt_of_lt_of_le h1 hb.size, Bx.keep_cell hb h2, Bx.keep_cell hb h3, Bx.keep_cell hb h4, Bx.keep_cell hb h5⟩

theorem Ents.nil (w : World) (A : Option Addr) : Ents w A [] := fun j x h => by simp at h

theorem Ents.at {w : World} {A : Option Addr} {l : List En} (h : Ents w A l) {k : Nat} (hk : k < l.length) : ∃ b o, A = some ⟨b, o, none⟩ ∧ b < w.heap.size ∧ w.cell? ⟨b, o + k * 4, none⟩ = some (.int .i64 l[k].v) ∧ w.cell? ⟨b, o + k * 4 + 1, none⟩ = some (.int .u64 l[k].m) ∧ w.cell? ⟨b, o + k * 4 + 2, none⟩ = some (.int .i64 l[k].p) ∧ w.cell? ⟨b, o + k * 4 + 3, none⟩ = some (.int .i64 l[k].a) := h k l[k] (List.getElem?_eq_getElem hk)

theorem enc_flat : ∀ (l : List En) (j : Nat) (x : En), l[j]? = some x → (l.flatMap enc)[j * 4]? = some (.int .i64 x.v) ∧ (l.flatMap enc)[j * 4 + 1]? = some (.int .u64 x.m) ∧ (l.flatMap enc)[j * 4 + 2]? = some (.int .i64 x.p) ∧ (l.flatMap enc)[j * 4 + 3]? = some (.int .i64 x.a)
  | [], j, x, h => by simp at h
  | a :: l, 0, x, h => by
    simp at h
    subst h
    exact ⟨rfl, rfl, rfl, rfl⟩
  | a :: l, j + 1, x, h => by
    have := enc_flat l j x (by simpa using h)
    rw [List.flatMap_cons, show (j + 1) * 4 = j * 4 + 4 by omega]
    exact this

theorem enc_length (l : List En) : (l.flatMap enc).length = l.length * 4 := by
  induction l with
  | nil => rfl
  | cons a l ih => rw [List.flatMap_cons, List.length_append, ih, List.length_cons]; show 4 + _ = _; omega

theorem enc_one (l : List En) : ∀ u ∈ l.flatMap enc, u.oneCell' = true := by
  intro u hu
  obtain ⟨a, _, ha⟩ := List.mem_flatMap.1 hu
  simp [enc] at ha
  rcases ha with rfl | rfl | rfl | rfl <;> rfl

/-- A row of the call's own, as a slice of entries. -/
theorem Ents.of_own {w : World} {base : Nat} {e : TypeId} {v : Value} {l : List En} (h : w.ownsRow base e 4 v l.length (l.flatMap enc)) :
    ∃ A cap, v = .slice A l.length cap ∧ Ents w A l := by
  rcases h.2 with ⟨rfl, h0⟩ | ⟨g, cap, cur, rfl, hb, hg, _⟩
  · have : l = [] := List.eq_nil_of_length_eq_zero h0
    subst this
    exact ⟨none, 0, rfl, Ents.nil _ _⟩
  · refine ⟨_, _, rfl, fun j x hj => ?_⟩
    obtain ⟨e0, e1, e2, e3⟩ := enc_flat l j x hj
    have c := h.cells (g := g) rfl
    refine ⟨g, 0, rfl, (Array.getElem?_eq_some_iff.1 hg).1, ?_, ?_, ?_, ?_⟩
    · have := c _ _ e0
      rwa [Addr.add_lit] at this
    · have := c _ _ e1
      rwa [Addr.add_lit] at this
    · have := c _ _ e2
      rwa [Addr.add_lit] at this
    · have := c _ _ e3
      rwa [Addr.add_lit] at this

theorem ret_bool {a b : Bool} (h : a = b) : Ending.returned (.bool a) = .returned (.bool b) := by rw [h]

set_option maxRecDepth 20000 in
theorem of_any (v : Int) (m : Nat) (e : En) (w : World) :
    Calls Tryd.prog 63 #[.agg #[.int .i64 v, .int .u64 m], ev e] w fun r w' => r = .returned (.bool (isK v m e)) ∧ Below w.heap.size w w' := by
  obtain ⟨v', m', p, a⟩ := e
  have bel := Lib.hid (Bx.bel_box (Bx.box_below w (.cells #[.int .i64 v, .int .u64 m] 96)) (.cells #[.int .i64 v', .int .u64 m', .int .i64 p, .int .i64 a] 62))
  unfold isK
  simp only
  by_cases h1 : v = v' <;> by_cases h2 : m = m'
  all_goals
    try subst h1
    try subst h2
    have h3 : ∀ z : Nat, ¬ m = z → ¬ ((m : Int) = z) := fun z h => by omega
    try have h4 := h3 _ h2
    clear h3
    go_enter Tryd.func63, Tryd.ntmps63
    go_wp2
    go_ret
    exact ⟨ret_bool (by simp [*]), bel.out⟩

set_option maxRecDepth 20000 in
theorem other_any (v : Int) (m : Nat) (e : En) (w : World) :
    Calls Tryd.prog 75 #[.agg #[.int .i64 v, .int .u64 m], ev e] w fun r w' => r = .returned (.bool (!isK v m e)) ∧ Below w.heap.size w w' := by
  have H := Lib.hid (of_any v m e)
  obtain ⟨v', m', p, a⟩ := e
  have bel := Lib.hid (Bx.bel_box (Bx.box_below w (.cells #[.int .i64 v, .int .u64 m] 96)) (.cells #[.int .i64 v', .int .u64 m', .int .i64 p, .int .i64 a] 62))
  generalize isK v m ⟨v', m', p, a⟩ = r at *
  go_enter Tryd.func75, Tryd.ntmps75
  go_wp2_with fail
  refine (H.out _).mono ?_; rintro e w1 ⟨rfl, hb1⟩
  have B2 := Lib.hid (Bx.then_below bel.out hb1)
  go_wp2
  go_ret
  exact ⟨rfl, B2.out⟩

theorem wrap_next {a long : Int} (h0 : -9223372036854775808 ≤ a) (h1 : a < long) (hL : long ≤ 9223372036854775807) : wrap64 (a + 1) = a + 1 := by unfold wrap64; omega

set_option maxRecDepth 20000 in
theorem outl_any (long : Int) (hL : long ≤ 9223372036854775807) (e : En) (he : -9223372036854775808 ≤ e.a) (w : World) :
    Calls Tryd.prog 80 #[.int .i64 long, ev e] w fun r w' => r = .returned (.bool (outl long e)) ∧ Below w.heap.size w w' := by
  obtain ⟨v', m', p, a⟩ := e
  have bel := Lib.hid (Bx.box_below w (.cells #[.int .i64 v', .int .u64 m', .int .i64 p, .int .i64 a] 62))
  unfold outl
  simp only at he ⊢
  by_cases h1 : a < long
  · have h2 := wrap_next he h1 hL
    by_cases h3 : a + 1 < long
    all_goals
      go_enter Tryd.func80, Tryd.ntmps80
      go_wp2
      go_ret
      exact ⟨ret_bool (by rw [Bool.eq_iff_iff]; simp <;> omega), bel.out⟩
  · go_enter Tryd.func80, Tryd.ntmps80
    go_wp2
    go_ret
    exact ⟨ret_bool (by rw [Bool.eq_iff_iff]; simp <;> omega), bel.out⟩

set_option maxRecDepth 20000 in
theorem plack_any (x : Int) (e : En) (w : World) :
    Calls Tryd.prog 81 #[.int .i64 x, ev e] w fun r w' => r = .returned (.bool (flushE (Por.low x) e)) ∧ Below w.heap.size w w' := by
  obtain ⟨v', m', p, a⟩ := e
  have H := Lib.hid (Por.has_any x p)
  have bel := Lib.hid (Bx.box_below w (.cells #[.int .i64 v', .int .u64 m', .int .i64 p, .int .i64 a] 62))
  unfold flushE
  simp only
  generalize Por.hasZ (Por.low x) p = r at *
  go_enter Tryd.func81, Tryd.ntmps81
  go_wp2_with fail
  refine (H.out _).mono ?_; rintro e w1 ⟨rfl, rfl⟩
  go_wp2
  go_ret
  exact ⟨rfl, bel.out⟩

set_option maxRecDepth 20000 in
theorem lack_any (q v : Int) (e : En) (w : World) :
    Calls Tryd.prog 82 #[.agg #[.int .i64 q, .int .i64 v], ev e] w fun r w' => r = .returned (.bool (lackE q v e)) ∧ Below w.heap.size w w' := by
  obtain ⟨v', m', p, a⟩ := e
  have bel := Lib.hid (Bx.bel_box (Bx.box_below w (.cells #[.int .i64 q, .int .i64 v] 109)) (.cells #[.int .i64 v', .int .u64 m', .int .i64 p, .int .i64 a] 62))
  unfold lackE
  simp only
  by_cases h1 : p = q <;> by_cases h2 : v = 0 <;> by_cases h3 : v' = v
  all_goals
    try subst h1
    try subst h3
    try subst h2
    go_enter Tryd.func82, Tryd.ntmps82
    go_wp2
    go_ret
    exact ⟨ret_bool (by simp [*]), bel.out⟩

end Tab
end Go.Proofs.YtmojegnflcokjaaDoor

/-
  What is found in a table; and table.kept: the entries that a method value keeps, in a row of the call's own.
-/
namespace Go.Proofs.YtmojegnflcokjaaDoor
open Go.RowKit
namespace Tab
open Oct

theorem info_en : (Tryd.prog.info? 62).map (fun i => (i.zero, i.size, i.bytes)) = some (some (.agg #[.int .i64 0, .int .u64 0, .int .i64 0, .int .i64 0]), 4, 32) := by kernel_rfl

/-- A block that may be written: its first cells. -/
def Fre (W : World) (k : Nat) (l : List Value) : Prop := Bx.Blk W k l ∧ k < W.heap.size ∧ ∀ j, W.frozen? ⟨k, j, none⟩ = false

theorem Fre.new (W : World) (l : List Value) (t : TypeId) : Fre (W.alloc (.cells l.toArray t)) W.heap.size l := ⟨Bx.Blk.new W l t, by simp, fun j => World.frozen?_alloc_new W l.toArray t j⟩

theorem Fre.keep {W w1 : World} {k : Nat} {l : List Value} (h : Fre W k l) (hb : Below W.heap.size W w1) : Fre w1 k l :=
  ⟨h.1.keep hb, Nat.lt_of_lt_of_le h.2.1 hb.size, fun j => by rw [hb.frozen (p := ⟨k, j, none⟩) h.2.1]; exact h.2.2 j⟩

theorem Fre.drew {W : World} {k : Nat} {l : List Value} (h : Fre W k l) : Fre W.drew k l := h

theorem Fre.all3 {W : World} {k : Nat} {x0 x1 x2 : Value} (h : Fre W k [x0, x1, x2]) : (W.cell? ⟨k, 0, none⟩ = some x0 ∧ W.cell? ⟨k, 1, none⟩ = some x1 ∧ W.cell? ⟨k, 2, none⟩ = some x2) ∧
    W.frozen? ⟨k, 0, none⟩ = false ∧ W.frozen? ⟨k, 1, none⟩ = false ∧ W.frozen? ⟨k, 2, none⟩ = false := ⟨h.1.all3, h.2.2 0, h.2.2 1, h.2.2 2⟩

theorem Fre.all4 {W : World} {k : Nat} {x0 x1 x2 x3 : Value} (h : Fre W k [x0, x1, x2, x3]) : (W.cell? ⟨k, 0, none⟩ = some x0 ∧ W.cell? ⟨k, 1, none⟩ = some x1 ∧ W.cell? ⟨k, 2, none⟩ = some x2 ∧ W.cell? ⟨k, 3, none⟩ = some x3) ∧
    W.frozen? ⟨k, 0, none⟩ = false ∧ W.frozen? ⟨k, 1, none⟩ = false ∧ W.frozen? ⟨k, 2, none⟩ = false ∧ W.frozen? ⟨k, 3, none⟩ = false := ⟨h.1.all4, h.2.2 0, h.2.2 1, h.2.2 2, h.2.2 3⟩

/-- The place of the first entry of that VLAN and address, or the place behind all. -/
def posE (l : List En) (v : Int) (m : Nat) : Nat := l.findIdx (isK v m)
theorem posE_le (l : List En) (v : Int) (m : Nat) : posE l v m ≤ l.length := List.findIdx_le_length

theorem posE_hit {l : List En} {v : Int} {m j : Nat} (hj : j < l.length) (h : j ≤ posE l v m) (hk : isK v m l[j] = true) : posE l v m = j := by
  unfold posE at *
  by_cases e : j < l.findIdx (isK v m)
  · have := List.not_of_lt_findIdx e
    simp [hk] at this
  · omega

theorem posE_miss {l : List En} {v : Int} {m j : Nat} (hj : j < l.length) (h : j ≤ posE l v m) (hk : isK v m l[j] = false) : j + 1 ≤ posE l v m := by
  unfold posE at *
  by_cases e : j < l.findIdx (isK v m)
  · omega
  · have e2 : l.findIdx (isK v m) = j := by omega
    have := List.findIdx_getElem (xs := l) (p := isK v m) (w := by omega)
    simp only [e2] at this
    rw [hk] at this
    cases this

theorem find_pos : ∀ (l : List En) (v : Int) (m : Nat), findE l v m = l[posE l v m]?
  | [], _, _ => rfl
  | x :: l, v, m => by
    have ih := find_pos l v m
    unfold findE posE at *
    rw [List.find?_cons, List.findIdx_cons]
    cases isK v m x with
    | true => rfl
    | false => simpa using ih

/-- What IndexFunc answers. -/
def idxE (l : List En) (v : Int) (m : Nat) : Int := if posE l v m < l.length then posE l v m else -1

set_option maxRecDepth 20000 in
set_option maxHeartbeats 2000000 in
theorem idx_any (l : List En) (hl : l.length ≤ maxLen) (v : Int) (m : Nat) (A : Option Addr) (c : Nat) (w : World) (hA : Ents w A l) :
    Calls Tryd.prog 62 #[.slice A l.length c, .func (.func 63) #[.agg #[.int .i64 v, .int .u64 m]] #[]] w fun e w' => e = .returned (.int .i64 (idxE l v m)) ∧ Below w.heap.size w w' := by
  have HA := Lib.hid hA
  have HR := Lib.hid (fun x w => of_any v m x w)
  have eg : ∀ args w, (callFunc 63 args).run Tryd.prog w = .ok (.enter 63 args) w := enters_of Tryd.func63 (by kernel_rfl) rfl
  clear hA
  have hl' : l.length ≤ 9223372036854775807 := hl
  go_enter Tryd.func62, Tryd.ntmps62
  go_wp2
  go_loopw [5, 8] (fun _ ix wr => ∃ k : Nat, k ≤ l.length ∧ ix = .int .i64 k ∧ Aside (k ≤ posE l v m) ∧ Aside (Below w.heap.size w wr)) (fun _ ix _ => l.length - (intOf ix).toNat)
  case atStart => exact ⟨0, Nat.zero_le _, rfl, Nat.zero_le _, Below.refl _ _⟩
  case round =>
    obtain ⟨k, hk, rfl, HP, HB⟩ := hrel
    by_cases hlt : k < l.length
    · obtain ⟨b', o', rfl, _, c0, c1, c2, c3⟩ := (HA.out.below HB.out).at hlt
      have HR' := Lib.hid (fun w => HR.out l[k] w)
      cases hx : isK v m l[k] with
      | true =>
        have HE := Lib.hid (show idxE l v m = k by unfold idxE; rw [posE_hit hlt HP.out hx, if_pos hlt])
        rw [hx] at HR'
        clear hx
        generalize l[k] = x at *
        obtain ⟨x1, x2, x3, x4⟩ := x
        simp only at c0 c1 c2 c3 HR'
        go_wp2_with fail
        refine (HR'.out _).mono ?_; rintro e w1 ⟨rfl, hb1⟩
        have B2 := Lib.hid (Bx.then_below HB.out hb1)
        clear hb1
        go_wp2_with fail
        go_ret
        exact ⟨by rw [HE.out]; rfl, B2.out⟩
      | false =>
        have HP2 := Lib.hid (posE_miss hlt HP.out hx)
        rw [hx] at HR'
        clear hx
        generalize l[k] = x at *
        obtain ⟨x1, x2, x3, x4⟩ := x
        simp only at c0 c1 c2 c3 HR'
        go_wp2_with fail
        refine (HR'.out _).mono ?_; rintro e w1 ⟨rfl, hb1⟩
        have B2 := Lib.hid (Bx.then_below HB.out hb1)
        clear hb1
        go_wp2_with fail
        go_roundw
        case rel => exact ⟨k + 1, by omega, by go_num, HP2.out, B2.out⟩
        case measure => simp [intOf]; omega
    · have e1 : idxE l v m = -1 := by unfold idxE; rw [if_neg (by have := HP.out; omega)]
      go_wp2
      go_ret
      exact ⟨by rw [e1]; rfl, HB.out⟩

/-- What is found, or nothing. -/
def gotE (l : List En) (v : Int) (m : Nat) : En := (findE l v m).getD ⟨0, 0, 0, 0⟩
def isE (l : List En) (v : Int) (m : Nat) : Bool := (findE l v m).isSome

set_option maxRecDepth 20000 in
set_option maxHeartbeats 2000000 in
theorem find_any (most long : Int) (l : List En) (hl : l.length ≤ maxLen) (v : Int) (m : Nat) (A : Option Addr) (c : Nat) (w : World) (hA : Ents w A l) :
    Calls Tryd.prog 25 #[tv most long A l.length c, .int .i64 v, .int .u64 m] w fun e w' => e = .returned (.tuple #[ev (gotE l v m), .bool (isE l v m)]) ∧ Below w.heap.size w w' := by
  have HI := Lib.hid (fun (w : World) hA => idx_any l hl v m A c w hA)
  have bel := Lib.hid (Bx.bel_box (Bx.box_below w (to most long A l.length c)) (eo ⟨0, 0, 0, 0⟩))
  have A1 := Lib.hid (hA.below bel.out)
  have K := Lib.hid ((Fre.new w [.int .i64 most, .int .i64 long, .slice A l.length c] 24).keep (Bx.box_below _ (eo ⟨0, 0, 0, 0⟩)))
  have R : Hid (Fre ((w.alloc (to most long A l.length c)).alloc (eo ⟨0, 0, 0, 0⟩)) (w.heap.size + 1) [.int .i64 0, .int .u64 0, .int .i64 0, .int .i64 0]) := Lib.hid (by
    have := Fre.new (w.alloc (to most long A l.length c)) [.int .i64 0, .int .u64 0, .int .i64 0, .int .i64 0] 62
    rwa [show (w.alloc (to most long A l.length c)).heap.size = w.heap.size + 1 by simp] at this)
  clear hA
  have hle : w.heap.size ≤ w.heap.size + 1 := Nat.le_succ _
  by_cases hp : posE l v m < l.length
  · have e1 : idxE l v m = posE l v m := if_pos hp
    have e2 : findE l v m = some (l[posE l v m]) := by rw [find_pos, List.getElem?_eq_getElem hp]
    have e3 : gotE l v m = l[posE l v m] := by unfold gotE; rw [e2]; rfl
    have e4 : isE l v m = true := by unfold isE; rw [e2]; rfl
    rw [e1] at HI
    rw [e3, e4]
    have HX := Lib.hid (fun w (h : Ents w A l) => h.at hp)
    clear e1 e2 e3 e4
    generalize posE l v m = p at *
    generalize l[p] = x at *
    obtain ⟨x1, x2, x3, x4⟩ := x
    go_enter Tryd.func25, Tryd.ntmps25
    go_wp2_with fail
    refine (HI.out _ A1.out).mono ?_; rintro e w1 ⟨rfl, hb1⟩
    have bel2 := Lib.hid (Bx.then_below bel.out hb1)
    have A2 := Lib.hid (A1.out.below hb1)
    obtain ⟨⟨c0, c1, c2⟩, _⟩ := (K.out.keep hb1).all3
    have R1 := Lib.hid (R.out.keep hb1)
    obtain ⟨⟨r0, r1, r2, r3⟩, f0, f1, f2, f3⟩ := R1.out.all4
    clear hb1 HI K R A1 bel
    obtain ⟨b, o, hb, _, d0, d1, d2, d3⟩ := HX.out _ A2.out
    subst hb
    have R2 := Lib.hid ((R1.out.1.put4 (x0 := .int .i64 x1) (x1 := .int .u64 x2) (x2 := .int .i64 x3) (x3 := .int .i64 x4)).all4)
    have bel3 := Lib.hid ((((bel2.out.setCell (p := ⟨w.heap.size + 1, 0, none⟩) hle (.int .i64 x1)).setCell (p := ⟨w.heap.size + 1, 1, none⟩) hle (.int .u64 x2)).setCell (p := ⟨w.heap.size + 1, 2, none⟩) hle (.int .i64 x3)).setCell (p := ⟨w.heap.size + 1, 3, none⟩) hle (.int .i64 x4))
    clear A2 bel2 R1 HX
    go_wp2_with fail
    refine bodyPost_ret (v := .tuple #[ev ⟨x1, x2, x3, x4⟩, .bool true]) ?_ rfl ?_
    · obtain ⟨d0, d1, d2, d3⟩ := R2.out
      simp [results, Tryd.results25, d0, d1, d2, d3, go_sem]
    · exact ⟨rfl, bel3.out⟩
  · have e1 : idxE l v m = -1 := if_neg hp
    have e2 : findE l v m = none := by rw [find_pos, List.getElem?_eq_none (by omega)]
    have e3 : gotE l v m = ⟨0, 0, 0, 0⟩ := by unfold gotE; rw [e2]; rfl
    have e4 : isE l v m = false := by unfold isE; rw [e2]; rfl
    rw [e1] at HI
    rw [e3, e4]
    clear e1 e2 e3 e4
    go_enter Tryd.func25, Tryd.ntmps25
    go_wp2_with fail
    refine (HI.out _ A1.out).mono ?_; rintro e w1 ⟨rfl, hb1⟩
    have bel2 := Lib.hid (Bx.then_below bel.out hb1)
    have A2 := Lib.hid (A1.out.below hb1)
    obtain ⟨⟨c0, c1, c2⟩, _⟩ := (K.out.keep hb1).all3
    have R1 := Lib.hid (R.out.keep hb1)
    obtain ⟨⟨r0, r1, r2, r3⟩, f0, f1, f2, f3⟩ := R1.out.all4
    clear hb1 HI K R A1 bel
    have R2 := Lib.hid ((R1.out.1.put4 (x0 := .int .i64 0) (x1 := .int .u64 0) (x2 := .int .i64 0) (x3 := .int .i64 0)).all4)
    have bel3 := Lib.hid ((((bel2.out.setCell (p := ⟨w.heap.size + 1, 0, none⟩) hle (.int .i64 0)).setCell (p := ⟨w.heap.size + 1, 1, none⟩) hle (.int .u64 0)).setCell (p := ⟨w.heap.size + 1, 2, none⟩) hle (.int .i64 0)).setCell (p := ⟨w.heap.size + 1, 3, none⟩) hle (.int .i64 0))
    clear A2 bel2 R1
    go_wp2_with fail
    refine bodyPost_ret (v := .tuple #[ev ⟨0, 0, 0, 0⟩, .bool false]) ?_ rfl ?_
    · obtain ⟨d0, d1, d2, d3⟩ := R2.out
      simp [results, Tryd.results25, d0, d1, d2, d3, go_sem]
    · exact ⟨rfl, bel3.out⟩

end Tab
end Go.Proofs.YtmojegnflcokjaaDoor

/-
  Values of many cells in memory: a whole struct or array read and written at once (no program): what a block holds that may be written, what stays of it, and the steps of a walk over a load and a store of many cells.
-/
namespace Go.Proofs.YtmojegnflcokjaaDoor
open Go.RowKit
namespace Bx

theorem Blk.range {W : World} {k : Nat} {l : List Value} (h : Blk W k l) : W.rangeAt k 0 l := fun j v hv => by rw [Nat.zero_add]; exact h j v hv

/-- The first cells of a block, which may be written. -/
def Own (W : World) (k : Nat) (l : List Value) : Prop := Blk W k l ∧ W.there k 0 l.length

theorem Own.blk {W : World} {k : Nat} {l : List Value} (h : Own W k l) : Blk W k l := h.1

theorem there_keep {W w1 : World} {k n : Nat} (h : W.there k 0 n) (hb : Below W.heap.size W w1) : w1.there k 0 n := fun j hj => by
  obtain ⟨h1, h2⟩ := h j hj
  obtain ⟨u, hu⟩ := Option.isSome_iff_exists.1 h1
  have hlt := World.block_lt_of_cell? W _ hu
  exact ⟨by rw [hb.cell hlt]; exact h1, by rw [hb.frozen hlt]; exact h2⟩

theorem Own.keep {W w1 : World} {k : Nat} {l : List Value} (h : Own W k l) (hb : Below W.heap.size W w1) : Own w1 k l := ⟨h.1.keep hb, there_keep h.2 hb⟩

theorem Own.more {W : World} {k : Nat} {l : List Value} (h : Own W k l) (o : Obj) : Own (W.alloc o) k l := h.keep (box_below W o)

theorem Own.draw {W : World} {k : Nat} {l : List Value} (h : Own W k l) : Own W.drew k l := h

theorem there_new (W : World) (l : List Value) (t : TypeId) : (W.alloc (.cells l.toArray t)).there W.heap.size 0 l.length := fun j hj => by
  rw [Nat.zero_add]
  refine ⟨?_, ?_⟩
  · rw [World.cell?_alloc_new]; simp [hj]
  · simp [go_sem]

theorem Own.new (W : World) (l : List Value) (t : TypeId) : Own (W.alloc (.cells l.toArray t)) W.heap.size l := ⟨Blk.new W l t, there_new W l t⟩

theorem Own.new_at {W : World} {k : Nat} (l : List Value) (t : TypeId) (hk : k = W.heap.size) : Own (W.alloc (.cells l.toArray t)) k l := by subst hk; exact Own.new W l t

theorem Own.put {W : World} {k : Nat} {l m : List Value} (h : Own W k l) (hm : m.length = l.length) : Own (W.setCells k 0 m) k m := by
  refine ⟨fun j v hv => ?_, fun j hj => ?_⟩
  · have := World.rangeAt_setCells_same W k 0 m (by rw [hm]; exact h.2) j v hv
    rwa [Nat.zero_add] at this
  · exact World.there_setCells h.2 k 0 m j (by omega)

theorem Blk.apart {W : World} {k k' : Nat} {l m : List Value} (h : Blk W k l) (hne : k ≠ k') : Blk (W.setCells k' 0 m) k l := fun j v hv => by
  have := World.rangeAt_setCells_apart h.range k' 0 m (.inl hne) j v hv
  rwa [Nat.zero_add] at this

theorem cell_cells {W : World} {m k j : Nat} {v : Value} {l : List Value} (h : W.cell? ⟨m, j, none⟩ = some v) (hne : m ≠ k) : (W.setCells k 0 l).cell? ⟨m, j, none⟩ = some v := by
  rw [World.cell?_setCells_out k l 0 W ⟨m, j, none⟩ (fun hb _ => absurd hb hne)]
  exact h

theorem Own.apart {W : World} {k k' : Nat} {l m : List Value} (h : Own W k l) (hne : k ≠ k') : Own (W.setCells k' 0 m) k l := ⟨h.1.apart hne, World.there_setCells h.2 k' 0 m⟩

theorem below_cells {B : Nat} {a : World} (b : Nat) (hb : B ≤ b) : ∀ (vs : List Value) (o : Nat) {w : World}, Below B a w → Below B a (w.setCells b o vs)
  | [], _, _, h => h
  | v :: r, o, _, h => below_cells b hb r (o + 1) (h.setCell (p := ⟨b, o, none⟩) hb v)

theorem bel_cells {a W : World} {k : Nat} {m : List Value} (h : Below a.heap.size a W) (hb : a.heap.size ≤ k) : Below a.heap.size a (W.setCells k 0 m) := below_cells k hb m 0 h

theorem setCells_new (W : World) (t : TypeId) : ∀ (vs pre zs : List Value), zs.length = vs.length → (W.alloc (.cells (pre ++ zs).toArray t)).setCells W.heap.size pre.length vs = W.alloc (.cells (pre ++ vs).toArray t)
  | [], pre, zs, h => by
    have : zs = [] := List.eq_nil_of_length_eq_zero h
    subst this
    rfl
  | v :: vs, pre, [], h => by simp at h
  | v :: vs, pre, z :: zs, h => by
    have ih := setCells_new W t vs (pre ++ [v]) zs (by simpa using h)
    rw [World.setCells, World.setCell_alloc_new]
    have e : (pre ++ z :: zs).toArray.setIfInBounds pre.length v = (pre ++ [v] ++ zs).toArray := by simp
    rw [e]
    simpa using ih

section
variable {P : Program} {ops : Array Oper} {rest : List Oper} {op : Oper} {a : Act} {W : World} {Q : Exit → Act → World → Prop}

/-- The step over a load of a whole struct or array. -/
theorem step_load (hgd : Region.wanted op (yielded ops a.tmps) = true) (ty : TypeId) (x : Operand) (ho : op.op = .load ty x) (k : Nat) (hx : a.eval x = .pointer (some ⟨k, 0, none⟩)) (l : List Value) (d : TypeDesc)
    (hu : P.underlying ty = some d) (hd : d.isRow = true) (hi : (P.info? ty).map (·.size) = some l.length) (hB : Blk W k l)
    (h : wpList P ops Q rest (a.put op.dst (.agg l.toArray)) W) : wpList P ops Q (op :: rest) a W :=
  BigFrame.wpList_want hgd fun _ hK => wp_load_mid ty x ho k 0 hx l d hB.range hu hd hi (hK _ _ h)

/-- The step over a store of a whole struct or array into a block that was just made. -/
theorem step_new (hgd : Region.wanted op (yielded ops a.tmps) = true) (ty : TypeId) (x y : Operand) (ho : op.op = .store ty x y) (zs l : List Value) (t : TypeId) (hx : a.eval x = .pointer (some ⟨W.heap.size, 0, none⟩)) (hy : a.eval y = .agg l.toArray)
    (hz : zs.length = l.length) (hi : (P.info? ty).map (·.size) = some l.length) (h1 : ∀ v ∈ l, v.oneCell' = true)
    (h : wpList P ops Q rest (a.put op.dst undef) (W.alloc (.cells l.toArray t))) : wpList P ops Q (op :: rest) a (W.alloc (.cells zs.toArray t)) := by
  refine BigFrame.wpList_want hgd fun _ hK => wp_store_mid ty x y ho W.heap.size 0 l.toArray hx hy ?_ (by simpa using hi) (all_oneCell_toArray h1) (hK _ _ ?_)
  · have := there_new W zs t
    rw [hz] at this
    simpa using this
  · have := setCells_new W t l [] zs hz
    simp only [List.nil_append, List.length_nil] at this
    simp only [this]
    exact h

/-- The step over such a store into an older block. -/
theorem step_store (hgd : Region.wanted op (yielded ops a.tmps) = true) (ty : TypeId) (x y : Operand) (ho : op.op = .store ty x y) (k : Nat) (zs l : List Value) (hx : a.eval x = .pointer (some ⟨k, 0, none⟩)) (hy : a.eval y = .agg l.toArray)
    (hz : zs.length = l.length) (hi : (P.info? ty).map (·.size) = some l.length) (h1 : ∀ v ∈ l, v.oneCell' = true) (hO : Own W k zs)
    (h : wpList P ops Q rest (a.put op.dst undef) (W.setCells k 0 l)) : wpList P ops Q (op :: rest) a W := by
  refine BigFrame.wpList_want hgd fun _ hK => wp_store_mid ty x y ho k 0 l.toArray hx hy ?_ (by simpa using hi) (all_oneCell_toArray h1) (hK _ _ ?_)
  · have := hO.2
    rw [hz] at this
    simpa using this
  · simpa using h
end

end Bx
end Go.Proofs.YtmojegnflcokjaaDoor

/-
  What the small functions of package ether, and the document's answers beside them, say of any frame: headOf, within, pair, pairAt, Retag, Vlan, Turn, Short; and that they change nothing that was there.
-/
namespace Go.Proofs.YtmojegnflcokjaaDoor
open Go.RowKit
namespace Eth
open Oct Mac

theorem then_below {a b c : World} (h1 : Below a.heap.size a b) (h2 : Below b.heap.size b c) : Below a.heap.size a c := h1.trans (h2.mono h1.size)

theorem ret_val {a b : Value} (h : a = b) : Ending.returned a = .returned b := by rw [h]

/-- A frame as a value. -/
abbrev fr (d s : Int) (g : Bool) (p v t : Int) (b : ByteArray) : Value := .agg #[.int .u64 d, .int .u64 s, .bool g, .int .i64 p, .int .i64 v, .int .i64 t, .string b]

theorem get2_lt (s : ByteArray) (a : Int) : (getR s a 2).1 < 65536 := by
  unfold getR
  split
  · simp
  · split
    · simp
    · rename_i h
      have h' : cutE s.size a 2 = 0 := by omega
      have hl := getL_lt (cutS s a 2).data.toList
      have hz := cutS_size s a 2 h'
      have hn : (cutS s a 2).data.toList.length = 2 := by
        have : (cutS s a 2).data.toList.length = (cutS s a 2).size := by rw [Array.length_toList]; rfl
        omega
      rw [hn] at hl
      exact hl

set_option maxRecDepth 40000 in
theorem retag_any (d s : Int) (g : Bool) (p v t : Int) (b : ByteArray) (x : Bool) (y : Int) (w : World) :
    Calls Tryd.prog 66 #[fr d s g p v t b, .bool x, .int .i64 y] w fun e w' => e = .returned (fr d s x (if x then p else 0) (if x then y else 0) t b) ∧ Below w.heap.size w w' := by
  cases x
  · go_enter Tryd.func66, Tryd.ntmps66
    go_wp2
    refine bodyPost_ret (v := fr d s false 0 0 t b) ?_ rfl ⟨rfl, ?_⟩
    · simp [results, Tryd.results66, go_sem]
    · exact ((Below.refl _ _).alloc (Nat.le_refl _) _).alloc (by simp) _
  · go_enter Tryd.func66, Tryd.ntmps66
    go_wp2
    refine bodyPost_ret (v := fr d s true p y t b) ?_ rfl ⟨rfl, ?_⟩
    · simp [results, Tryd.results66, go_sem]
    · exact ((Below.refl _ _).alloc (Nat.le_refl _) _).alloc (by simp) _

set_option maxRecDepth 40000 in
theorem rretag_any (d s : Int) (g : Bool) (p v t : Int) (b : ByteArray) (x : Bool) (y : Int) (w : World) :
    Calls Tryd.prog 70 #[fr d s g p v t b, .bool x, .int .i64 y] w fun e w' => e = .returned (fr d s x (if x then p else 0) (if x then y else 0) t b) ∧ Below w.heap.size w w' := by
  cases x
  · go_enter Tryd.func70, Tryd.ntmps70
    go_wp2
    refine bodyPost_ret (v := fr d s false 0 0 t b) ?_ rfl ⟨rfl, ?_⟩
    · simp [results, Tryd.results70, go_sem]
    · exact ((Below.refl _ _).alloc (Nat.le_refl _) _).alloc (by simp) _
  · go_enter Tryd.func70, Tryd.ntmps70
    go_wp2
    refine bodyPost_ret (v := fr d s true p y t b) ?_ rfl ⟨rfl, ?_⟩
    · simp [results, Tryd.results70, go_sem]
    · exact ((Below.refl _ _).alloc (Nat.le_refl _) _).alloc (by simp) _

def vlanN (g : Bool) (v own : Int) : Int := if g = true ∧ 0 < v then v else own

set_option maxRecDepth 40000 in
theorem vlan_any (d s : Int) (g : Bool) (p v t : Int) (b : ByteArray) (own : Int) (w : World) :
    Calls Tryd.prog 57 #[fr d s g p v t b, .int .i64 own] w fun e w' => e = .returned (.int .i64 (vlanN g v own)) ∧ Below w.heap.size w w' := by
  cases g
  · go_enter Tryd.func57, Tryd.ntmps57
    go_wp2
    go_ret
    exact ⟨ret_int (by simp [vlanN]), (Below.refl _ _).alloc (Nat.le_refl _) _⟩
  · by_cases h : 0 < v
    · go_enter Tryd.func57, Tryd.ntmps57
      go_wp2
      go_ret
      exact ⟨ret_int (by simp [vlanN, h]), (Below.refl _ _).alloc (Nat.le_refl _) _⟩
    · go_enter Tryd.func57, Tryd.ntmps57
      go_wp2
      go_ret
      exact ⟨ret_int (by simp [vlanN]; omega), (Below.refl _ _).alloc (Nat.le_refl _) _⟩

set_option maxRecDepth 40000 in
theorem rvlan_any (d s : Int) (g : Bool) (p v t : Int) (b : ByteArray) (own : Int) (w : World) :
    Calls Tryd.prog 68 #[fr d s g p v t b, .int .i64 own] w fun e w' => e = .returned (.int .i64 (vlanN g v own)) ∧ Below w.heap.size w w' := by
  cases g
  · go_enter Tryd.func68, Tryd.ntmps68
    go_wp2
    go_ret
    exact ⟨ret_int (by simp [vlanN]), (Below.refl _ _).alloc (Nat.le_refl _) _⟩
  · by_cases h : 0 < v
    · go_enter Tryd.func68, Tryd.ntmps68
      go_wp2
      go_ret
      exact ⟨ret_int (by simp [vlanN, h]), (Below.refl _ _).alloc (Nat.le_refl _) _⟩
    · go_enter Tryd.func68, Tryd.ntmps68
      go_wp2
      go_ret
      exact ⟨ret_int (by simp [vlanN]; omega), (Below.refl _ _).alloc (Nat.le_refl _) _⟩

theorem bcell {W w1 : World} (hb : Below W.heap.size W w1) : (∀ b o, b < W.heap.size → w1.cell? ⟨b, o, none⟩ = W.cell? ⟨b, o, none⟩) ∧ (∀ b o, b < W.heap.size → w1.frozen? ⟨b, o, none⟩ = W.frozen? ⟨b, o, none⟩) :=
  ⟨fun b o h => hb.cell (p := ⟨b, o, none⟩) h, fun b o h => hb.frozen (p := ⟨b, o, none⟩) h⟩

theorem keep_cell {W w1 : World} {g o : Nat} {v : Value} (hb : Below W.heap.size W w1) (h : W.cell? ⟨g, o, none⟩ = some v) : w1.cell? ⟨g, o, none⟩ = some v := (hb.cell (p := ⟨g, o, none⟩) (World.block_lt_of_cell? _ _ h)).trans h

theorem cell_set (W : World) (b o b' o' : Nat) (v : Value) : (W.setCell ⟨b, o, none⟩ v).cell? ⟨b', o', none⟩ = if b = b' ∧ o = o' then (W.cell? ⟨b', o', none⟩).map (fun _ => v) else W.cell? ⟨b', o', none⟩ := by
  split
  · rename_i h
    obtain ⟨rfl, rfl⟩ := h
    cases hc : W.cell? ⟨b, o, none⟩ with
    | some u => rw [World.cell?_setCell_same _ _ _ hc]; rfl
    | none =>
      simp only [World.setCell, World.cell?, Array.getElem?_modify, ↓reduceIte] at hc ⊢
      cases hh : W.heap[b]? with
      | none => simp
      | some ob => cases ob <;> simp_all
  · rename_i h
    exact World.cell?_setCell_other _ _ _ _ (by intro e; cases e; exact h ⟨rfl, rfl⟩)

end Eth
end Go.Proofs.YtmojegnflcokjaaDoor

/-
  Plain data of layer 15 (no program): VLANs, which is found, a plan's eight ports; what a plan takes and sends; whether it is right.
-/
namespace Go.Proofs.YtmojegnflcokjaaDoor
namespace Mem

/-- A VLAN: its number, the sets of its ports with a tag and without one. -/
structure Vl where
  v : Int
  t : Int
  u : Int
  deriving DecidableEq

abbrev none3 : Vl := ⟨0, 0, 0⟩

def findV (l : List Vl) (n : Int) : Option Vl := l.find? fun x => x.v == n
def gotV (l : List Vl) (n : Int) : Vl := (findV l n).getD none3
def isV (l : List Vl) (n : Int) : Bool := (findV l n).isSome
def ofV (l : List Vl) (n : Int) : Int := bits .or .i64 (gotV l n).t (gotV l n).u

/-- What the map holds behind one more VLAN. -/
def addV (m : List Vl) (x : Vl) : List Vl := if isV m x.v then m else m ++ [x]
def dictV (l : List Vl) : List Vl := l.foldl addV []

theorem find_add (m : List Vl) (x : Vl) (n : Int) : findV (addV m x) n = (findV m n).or (findV [x] n) := by
  unfold addV
  split
  · rename_i h
    unfold isV at h
    cases hm : findV m n with
    | some y => rfl
    | none =>
      have hx : ¬ x.v = n := by
        intro e
        rw [e, hm] at h
        cases h
      have : findV [x] n = none := by simp [findV, hx]
      rw [this]
      rfl
  · unfold findV
    rw [List.find?_append]

theorem find_fold (n : Int) : ∀ (l m : List Vl), findV (l.foldl addV m) n = (findV m n).or (findV l n)
  | [], m => by simp [findV]
  | x :: l, m => by
    rw [List.foldl_cons, find_fold n l, find_add]
    have : findV (x :: l) n = (findV [x] n).or (findV l n) := by
      unfold findV
      rw [show x :: l = [x] ++ l from rfl, List.find?_append]
    rw [this, Option.or_assoc]

theorem find_dict (l : List Vl) (n : Int) : findV (dictV l) n = findV l n := by
  unfold dictV
  rw [find_fold]
  rfl

theorem got_dict (l : List Vl) (n : Int) : gotV (dictV l) n = gotV l n := by unfold gotV; rw [find_dict]
theorem is_dict (l : List Vl) (n : Int) : isV (dictV l) n = isV l n := by unfold isV; rw [find_dict]

theorem take_next {l : List Vl} {k : Nat} (h : k < l.length) : l.take (k + 1) = l.take k ++ [l[k]] := by simp

theorem dict_next {l : List Vl} {k : Nat} (h : k < l.length) : dictV (l.take (k + 1)) = addV (dictV (l.take k)) l[k] := by
  rw [take_next h]
  unfold dictV
  rw [List.foldl_append]
  rfl

theorem dict_len : ∀ (l m : List Vl), (l.foldl addV m).length ≤ m.length + l.length
  | [], m => by simp
  | x :: l, m => by
    have := dict_len l (addV m x)
    have h2 : (addV m x).length ≤ m.length + 1 := by unfold addV; split <;> simp
    rw [List.foldl_cons, List.length_cons]
    omega

/-- The first of a number, gone over from the front. -/
def posV (l : List Vl) (n : Int) : Nat := l.findIdx fun x => x.v == n
theorem posV_le (l : List Vl) (n : Int) : posV l n ≤ l.length := List.findIdx_le_length

theorem find_pos (n : Int) : ∀ l : List Vl, findV l n = l[posV l n]?
  | [] => rfl
  | x :: l => by
    have ih := find_pos n l
    unfold findV posV at *
    rw [List.find?_cons, List.findIdx_cons]
    cases x.v == n with
    | true => rfl
    | false => simpa using ih

theorem posV_hit {l : List Vl} {n : Int} {j : Nat} (hj : j < l.length) (h : j ≤ posV l n) (hk : l[j].v = n) : findV l n = some l[j] := by
  rw [find_pos]
  have : posV l n = j := by
    unfold posV at *
    by_cases e : j < l.findIdx (fun x => x.v == n)
    · have := List.not_of_lt_findIdx e
      simp [hk] at this
    · omega
  rw [this]
  exact List.getElem?_eq_getElem hj

theorem posV_miss {l : List Vl} {n : Int} {j : Nat} (hj : j < l.length) (h : j ≤ posV l n) (hk : ¬ l[j].v = n) : j + 1 ≤ posV l n := by
  unfold posV at *
  by_cases e : j < l.findIdx (fun x => x.v == n)
  · omega
  · have e2 : l.findIdx (fun x => x.v == n) = j := by omega
    have := List.findIdx_getElem (xs := l) (p := fun x => x.v == n) (w := by omega)
    simp only [e2] at this
    simp [hk] at this

theorem posV_end {l : List Vl} {n : Int} (h : l.length ≤ posV l n) : findV l n = none := by
  rw [find_pos]
  exact List.getElem?_eq_none h

/-- A VLAN of its own; which frames a port takes. -/
def ownF (g : Bool) (u : Int) : Bool := g && decide (0 < u)
def admF (t : Int) (w : Bool) : Bool := if t = 1 then w else if t = 2 then !w else true

/-- Of which VLAN a frame is at a port. -/
def vidF (own : Int) (g : Bool) (u : Int) : Int := if g = true ∧ 0 < u then u else own

def takB (o k : Nat → Int) (l : List Vl) (port : Int) (g : Bool) (u : Int) : Bool :=
  decide (0 ≤ port ∧ port < 8) && (admF (k port.toNat) (ownF g u) && (decide (vidF (o port.toNat) g u ≤ 4094) && Por.hasZ (Por.low (ofV l (vidF (o port.toNat) g u))) port))
def takV (o k : Nat → Int) (l : List Vl) (port : Int) (g : Bool) (u : Int) : Int := if takB o k l port g u then vidF (o port.toNat) g u else 0

/-- Whether a port sends with a tag, without one, at all. -/
def sndT (l : List Vl) (n port : Int) : Bool := Por.hasZ (Por.low (gotV l n).t) port
def sndU (l : List Vl) (n port : Int) : Bool := Por.hasZ (Por.low (gotV l n).u) port
def sndB (l : List Vl) (n port : Int) : Bool := sndT l n port || sndU l n port

/-- What is right. -/
def rVid (n : Int) : Bool := decide (1 ≤ n ∧ n ≤ 4094)
def rSet (n : Int) : Bool := decide (0 ≤ n ∧ n ≤ 255)
def rTake (n : Int) : Bool := decide (n = 0 ∨ n = 1 ∨ n = 2)
def rVl (x : Vl) : Bool := rVid x.v && (rSet x.t && (rSet x.u && (bits .and .i64 x.t x.u == 0)))
def okN (l : List Vl) (j : Nat) : Bool :=
  match l[j]? with
  | none => true
  | some x => rVl x && (match j with
    | 0 => true
    | i + 1 => match l[i]? with
      | none => true
      | some y => decide (y.v < x.v))
def portN (o k : Nat → Int) (i : Nat) : Bool := rVid (o i) && rTake (k i)
def rightP (o k : Nat → Int) (l : List Vl) : Bool := decide (l.length ≤ 64) && ((List.range l.length).all (okN l) && (List.range 8).all (portN o k))

theorem has_or (a b p : Nat) : Por.hasN (a ||| b) p = (Por.hasN a p || Por.hasN b p) := by
  have e : ∀ m : Nat, Por.hasN m p = m.testBit p := fun m => by
    unfold Por.hasN
    rw [Nat.testBit_eq_decide_div_mod_eq]
    rfl
  rw [e, e, e, Nat.testBit_or]

theorem hasZ_or (a b : Nat) (p : Int) : Por.hasZ (a ||| b) p = (Por.hasZ a p || Por.hasZ b p) := by
  unfold Por.hasZ
  rw [has_or]
  cases decide (0 ≤ p ∧ p < 8) <;> simp

theorem snd_of (l : List Vl) (n port : Int) : Por.hasZ (Por.low (ofV l n)) port = sndB l n port := by
  unfold ofV sndB sndT sndU
  rw [Por.low_or, hasZ_or]

/-- What is found in a right plan is right. -/
theorem right_all {o k : Nat → Int} {l : List Vl} (h : rightP o k l = true) : (∀ j, j < l.length → okN l j = true) ∧ (∀ i, i < 8 → portN o k i = true) ∧ l.length ≤ 64 := by
  unfold rightP at h
  simp only [Bool.and_eq_true, decide_eq_true_eq, List.all_eq_true, List.mem_range] at h
  exact ⟨h.2.1, h.2.2, h.1⟩

theorem right_vl {o k : Nat → Int} {l : List Vl} (h : rightP o k l = true) {x : Vl} (hx : x ∈ l) : rVl x = true := by
  obtain ⟨j, hj, rfl⟩ := List.getElem_of_mem hx
  have := (right_all h).1 j hj
  unfold okN at this
  rw [List.getElem?_eq_getElem hj] at this
  simp only [Bool.and_eq_true] at this
  exact this.1

theorem right_found {o k : Nat → Int} {l : List Vl} (h : rightP o k l = true) {n port : Int} (hs : sndB l n port = true) : 1 ≤ n ∧ n ≤ 4094 := by
  cases hf : findV l n with
  | none =>
    unfold sndB sndT sndU gotV at hs
    rw [hf] at hs
    simp [none3, Por.hasZ, Por.hasN, Por.low] at hs
  | some x =>
    have hm : x ∈ l := List.mem_of_find?_eq_some hf
    have hv : x.v = n := by simpa using List.find?_some hf
    have := right_vl h hm
    unfold rVl rVid at this
    simp only [Bool.and_eq_true, decide_eq_true_eq] at this
    omega

theorem right_port {o k : Nat → Int} {l : List Vl} (h : rightP o k l = true) {i : Nat} (hi : i < 8) : 1 ≤ o i ∧ o i ≤ 4094 ∧ (k i = 0 ∨ k i = 1 ∨ k i = 2) := by
  have := (right_all h).2.1 i hi
  unfold portN rVid rTake at this
  simp only [Bool.and_eq_true, decide_eq_true_eq] at this
  omega

/-- What a port takes is of a VLAN that it is of. -/
theorem taken_of {o k : Nat → Int} {l : List Vl} (h : rightP o k l = true) {port : Nat} (hp : port < 8) {g : Bool} {u : Int} (ht : takB o k l port g u = true) :
    Por.hasZ (Por.low (ofV l (takV o k l port g u))) port = true ∧ 1 ≤ takV o k l port g u := by
  have hv : takV o k l port g u = vidF (o port) g u := by unfold takV; rw [if_pos ht]; rfl
  rw [hv]
  unfold takB at ht
  simp only [Bool.and_eq_true] at ht
  refine ⟨ht.2.2.2, ?_⟩
  unfold vidF
  split
  · omega
  · exact (right_port h hp).1

/-- What a port sends is taken as of the same VLAN. -/
theorem sent_taken {o k : Nat → Int} {l : List Vl} {n : Int} (h1 : 1 ≤ n ∧ n ≤ 4094) {to : Nat} (hp : to < 8) {g : Bool} {u : Int} (hg : vidF (o to) g u = n) :
    (takB o k l to g u = true → takV o k l to g u = n) ∧ (takB o k l to g u = false → k to = 0 → Por.hasZ (Por.low (ofV l n)) to = false) := by
  refine ⟨fun ht => ?_, fun ht hk => ?_⟩
  · unfold takV
    rw [if_pos ht]
    exact hg
  · unfold takB at ht
    have e1 : decide (0 ≤ (to : Int) ∧ (to : Int) < 8) = true := decide_eq_true (by omega)
    have e2 : admF (k ((to : Int).toNat)) (ownF g u) = true := by unfold admF; rw [Int.toNat_natCast, hk]; rfl
    rw [e1, e2, Int.toNat_natCast, hg] at ht
    have e3 : decide (n ≤ 4094) = true := decide_eq_true h1.2
    rw [e3] at ht
    simpa using ht

end Mem
end Go.Proofs.YtmojegnflcokjaaDoor

/-
  VLANs and plans as values and in memory; what the small functions of package member say of any frame, number and VLAN.
-/
namespace Go.Proofs.YtmojegnflcokjaaDoor
open Go.RowKit
namespace Mem
open Oct Eth

/-- A VLAN as a value, its three cells. -/
abbrev vl (x : Vl) : Value := .agg #[.int .i64 x.v, .int .i64 x.t, .int .i64 x.u]
abbrev vc (x : Vl) : List Value := [.int .i64 x.v, .int .i64 x.t, .int .i64 x.u]
abbrev vo (x : Vl) : Obj := .cells #[.int .i64 x.v, .int .i64 x.t, .int .i64 x.u] 80

/-- A plan's cells, as a value, as an object. -/
abbrev pc (o k : Nat → Int) (A : Option Addr) (n c : Nat) : List Value := [.int .i64 (o 0), .int .i64 (o 1), .int .i64 (o 2), .int .i64 (o 3), .int .i64 (o 4), .int .i64 (o 5), .int .i64 (o 6), .int .i64 (o 7),
  .int .i64 (k 0), .int .i64 (k 1), .int .i64 (k 2), .int .i64 (k 3), .int .i64 (k 4), .int .i64 (k 5), .int .i64 (k 6), .int .i64 (k 7), .slice A n c]
abbrev pv (o k : Nat → Int) (A : Option Addr) (n c : Nat) : Value := .agg #[.int .i64 (o 0), .int .i64 (o 1), .int .i64 (o 2), .int .i64 (o 3), .int .i64 (o 4), .int .i64 (o 5), .int .i64 (o 6), .int .i64 (o 7),
  .int .i64 (k 0), .int .i64 (k 1), .int .i64 (k 2), .int .i64 (k 3), .int .i64 (k 4), .int .i64 (k 5), .int .i64 (k 6), .int .i64 (k 7), .slice A n c]
abbrev po (o k : Nat → Int) (A : Option Addr) (n c : Nat) : Obj := .cells #[.int .i64 (o 0), .int .i64 (o 1), .int .i64 (o 2), .int .i64 (o 3), .int .i64 (o 4), .int .i64 (o 5), .int .i64 (o 6), .int .i64 (o 7),
  .int .i64 (k 0), .int .i64 (k 1), .int .i64 (k 2), .int .i64 (k 3), .int .i64 (k 4), .int .i64 (k 5), .int .i64 (k 6), .int .i64 (k 7), .slice A n c] 28

/-- What is at a place of the two rows. -/
theorem pc_own (o k : Nat → Int) (A : Option Addr) (n c : Nat) {j : Nat} (h : j < 8) : (pc o k A n c)[j]? = some (.int .i64 (o j)) := by
  have : j = 0 ∨ j = 1 ∨ j = 2 ∨ j = 3 ∨ j = 4 ∨ j = 5 ∨ j = 6 ∨ j = 7 := by omega
  rcases this with rfl | rfl | rfl | rfl | rfl | rfl | rfl | rfl <;> rfl
theorem pc_take (o k : Nat → Int) (A : Option Addr) (n c : Nat) {j : Nat} (h : j < 8) : (pc o k A n c)[8 + j]? = some (.int .i64 (k j)) := by
  have : j = 0 ∨ j = 1 ∨ j = 2 ∨ j = 3 ∨ j = 4 ∨ j = 5 ∨ j = 6 ∨ j = 7 := by omega
  rcases this with rfl | rfl | rfl | rfl | rfl | rfl | rfl | rfl <;> rfl

/-- The slice that begins at A reads as the VLANs l. -/
def Vls (w : World) (A : Option Addr) (l : List Vl) : Prop := ∀ j x, l[j]? = some x → ∃ b o, A = some ⟨b, o, none⟩ ∧ b < w.heap.size ∧ w.cell? ⟨b, o + j * 3, none⟩ = some (.int .i64 x.v) ∧ w.cell? ⟨b, o + j * 3 + 1, none⟩ = some (.int .i64 x.t) ∧ w.cell? ⟨b, o + j * 3 + 2, none⟩ = some (.int .i64 x.u)

theorem Vls.below {w w' : World} {A : Option Addr} {l : List Vl} (h : Vls w A l) (hb : Below w.heap.size w w') : Vls w' A l := fun j x hj => by
  obtain ⟨b, o, e, h1, h2, h3, h4⟩ := h j x hj
  exact ⟨b, o, e, Nat.lt_of_lt_of_le h1 hb.size, Bx.keep_cell hb h2, Bx.keep_cell hb h3, Bx.keep_cell hb h4⟩

theorem Vls.drew {w : World} {A : Option Addr} {l : List Vl} (h : Vls w A l) : Vls w.drew A l := h

theorem Vls.nil (w : World) (A : Option Addr) : Vls w A [] := fun j x h => by simp at h

theorem Vls.at {w : World} {A : Option Addr} {l : List Vl} (h : Vls w A l) {k : Nat} (hk : k < l.length) : ∃ b o, A = some ⟨b, o, none⟩ ∧ b < w.heap.size ∧ w.cell? ⟨b, o + k * 3, none⟩ = some (.int .i64 l[k].v) ∧ w.cell? ⟨b, o + k * 3 + 1, none⟩ = some (.int .i64 l[k].t) ∧ w.cell? ⟨b, o + k * 3 + 2, none⟩ = some (.int .i64 l[k].u) := h k l[k] (List.getElem?_eq_getElem hk)

theorem vlan_vid (g : Bool) (u own : Int) : vlanN g u own = vidF own g u := rfl

set_option maxRecDepth 40000 in
theorem hasOwn_any (d s : Int) (g : Bool) (p v t : Int) (b : ByteArray) (w : World) :
    Calls Tryd.prog 56 #[fr d s g p v t b] w fun e w' => e = .returned (.bool (ownF g v)) ∧ Below w.heap.size w w' := by
  have bel := Lib.hid (Bx.box_below w (.cells #[.int .u64 d, .int .u64 s, .bool g, .int .i64 p, .int .i64 v, .int .i64 t, .string b] 32))
  cases g
  · go_enter Tryd.func56, Tryd.ntmps56
    go_wp2
    go_ret
    exact ⟨rfl, bel.out⟩
  · by_cases h : 0 < v
    · rw [show ownF true v = true by unfold ownF; simp [h]]
      go_enter Tryd.func56, Tryd.ntmps56
      go_wp2
      go_ret
      exact ⟨rfl, bel.out⟩
    · rw [show ownF true v = false by unfold ownF; simp; omega]
      go_enter Tryd.func56, Tryd.ntmps56
      go_wp2
      go_ret
      exact ⟨rfl, bel.out⟩

set_option maxRecDepth 40000 in
theorem admits_any (t : Int) (x : Bool) (w : World) :
    Calls Tryd.prog 55 #[.int .i64 t, .bool x] w fun e w' => e = .returned (.bool (admF t x)) ∧ w = w' := by
  by_cases h1 : t = 1
  · subst h1
    go_enter Tryd.func55, Tryd.ntmps55
    go_wp2
    go_ret
    exact ⟨rfl, rfl⟩
  · by_cases h2 : t = 2
    · subst h2
      go_enter Tryd.func55, Tryd.ntmps55
      go_wp2
      go_ret
      exact ⟨rfl, rfl⟩
    · have e : admF t x = true := by unfold admF; rw [if_neg h1, if_neg h2]
      rw [e]
      go_enter Tryd.func55, Tryd.ntmps55
      go_wp2
      go_ret
      exact ⟨rfl, rfl⟩

set_option maxRecDepth 40000 in
theorem rightVid_any (n : Int) (w : World) :
    Calls Tryd.prog 50 #[.int .i64 n] w fun e w' => e = .returned (.bool (rVid n)) ∧ w = w' := by
  unfold rVid
  by_cases h0 : 1 ≤ n
  · by_cases h1 : n ≤ 4094
    · rw [decide_eq_true ⟨h0, h1⟩]
      go_enter Tryd.func50, Tryd.ntmps50
      go_wp2
      go_ret
      exact ⟨rfl, rfl⟩
    · rw [decide_eq_false (fun h => h1 h.2)]
      go_enter Tryd.func50, Tryd.ntmps50
      go_wp2
      go_ret
      exact ⟨rfl, rfl⟩
  · rw [decide_eq_false (fun h => h0 h.1)]
    go_enter Tryd.func50, Tryd.ntmps50
    go_wp2
    go_ret
    exact ⟨rfl, rfl⟩

set_option maxRecDepth 40000 in
theorem rightSet_any (n : Int) (w : World) :
    Calls Tryd.prog 79 #[.int .i64 n] w fun e w' => e = .returned (.bool (rSet n)) ∧ w = w' := by
  unfold rSet
  by_cases h0 : 0 ≤ n
  · by_cases h1 : n ≤ 255
    · rw [decide_eq_true ⟨h0, h1⟩]
      go_enter Tryd.func79, Tryd.ntmps79
      go_wp2
      go_ret
      exact ⟨rfl, rfl⟩
    · rw [decide_eq_false (fun h => h1 h.2)]
      go_enter Tryd.func79, Tryd.ntmps79
      go_wp2
      go_ret
      exact ⟨rfl, rfl⟩
  · rw [decide_eq_false (fun h => h0 h.1)]
    go_enter Tryd.func79, Tryd.ntmps79
    go_wp2
    go_ret
    exact ⟨rfl, rfl⟩

set_option maxRecDepth 40000 in
theorem rightTake_any (n : Int) (w : World) :
    Calls Tryd.prog 51 #[.int .i64 n] w fun e w' => e = .returned (.bool (rTake n)) ∧ w = w' := by
  unfold rTake
  by_cases h0 : n = 0
  · subst h0
    go_enter Tryd.func51, Tryd.ntmps51
    go_wp2
    go_ret
    exact ⟨rfl, rfl⟩
  · by_cases h1 : n = 1
    · subst h1
      go_enter Tryd.func51, Tryd.ntmps51
      go_wp2
      go_ret
      exact ⟨rfl, rfl⟩
    · by_cases h2 : n = 2
      · subst h2
        go_enter Tryd.func51, Tryd.ntmps51
        go_wp2
        go_ret
        exact ⟨rfl, rfl⟩
      · rw [decide_eq_false (by omega)]
        have e0 : (n == 0) = false := by simpa using h0
        have e1 : (n == 1) = false := by simpa using h1
        have e2 : (n == 2) = false := by simpa using h2
        go_enter Tryd.func51, Tryd.ntmps51
        go_wp2
        go_ret
        exact ⟨rfl, rfl⟩

set_option maxRecDepth 40000 in
theorem rightVlan_any (x : Vl) (w : World) :
    Calls Tryd.prog 49 #[vl x] w fun e w' => e = .returned (.bool (rVl x)) ∧ Below w.heap.size w w' := by
  obtain ⟨v, t, u⟩ := x
  have bel := Lib.hid (Bx.box_below w (vo ⟨v, t, u⟩))
  have H1 := Lib.hid (rightVid_any v)
  have H2 := Lib.hid (rightSet_any t)
  have H3 := Lib.hid (rightSet_any u)
  unfold rVl
  simp only at bel ⊢
  generalize rVid v = r1 at *
  generalize rSet t = r2 at *
  generalize rSet u = r3 at *
  have HB := Lib.hid (rfl : (bits BinOp.and IntKind.i64 t u == 0) = (bits BinOp.and IntKind.i64 t u == 0))
  cases r1
  · go_enter Tryd.func49, Tryd.ntmps49
    go_wp2_with fail
    refine (H1.out _).mono ?_; rintro e w1 ⟨rfl, rfl⟩
    go_wp2
    go_ret
    exact ⟨rfl, bel.out⟩
  cases r2
  · go_enter Tryd.func49, Tryd.ntmps49
    go_wp2_with fail
    refine (H1.out _).mono ?_; rintro e w1 ⟨rfl, rfl⟩
    go_wp2_with fail
    refine (H2.out _).mono ?_; rintro e w1 ⟨rfl, rfl⟩
    go_wp2
    go_ret
    exact ⟨rfl, bel.out⟩
  cases r3
  · go_enter Tryd.func49, Tryd.ntmps49
    go_wp2_with fail
    refine (H1.out _).mono ?_; rintro e w1 ⟨rfl, rfl⟩
    go_wp2_with fail
    refine (H2.out _).mono ?_; rintro e w1 ⟨rfl, rfl⟩
    go_wp2_with fail
    refine (H3.out _).mono ?_; rintro e w1 ⟨rfl, rfl⟩
    go_wp2
    go_ret
    exact ⟨rfl, bel.out⟩
  · go_enter Tryd.func49, Tryd.ntmps49
    go_wp2_with fail
    refine (H1.out _).mono ?_; rintro e w1 ⟨rfl, rfl⟩
    go_wp2_with fail
    refine (H2.out _).mono ?_; rintro e w1 ⟨rfl, rfl⟩
    go_wp2_with fail
    refine (H3.out _).mono ?_; rintro e w1 ⟨rfl, rfl⟩
    go_wp2
    go_ret
    exact ⟨rfl, bel.out⟩

end Mem
end Go.Proofs.YtmojegnflcokjaaDoor

/-
  A map from numbers to VLANs that a call made (over any program): what it holds, what is looked up in it, what stands in it behind a store at a number that it lacks.
-/
namespace Go.Proofs.YtmojegnflcokjaaDoor
open Go.RowKit
namespace Mem

/-- The value of a VLAN. -/
abbrev vlv (x : Vl) : Value := .agg #[.int .i64 x.v, .int .i64 x.t, .int .i64 x.u]

/-- Block b is a map that holds these VLANs by their numbers, in the order of their making. -/
def Dict (w : World) (b : Nat) (D : List Vl) : Prop := ∃ es clock, w.heap[b]? = some (.map es clock) ∧ es.toList.map (fun e => (e.key, e.val)) = D.map fun x => (Value.int .i64 x.v, vlv x)

theorem Dict.new (w : World) : Dict (w.alloc (.map #[] 0)) w.heap.size [] := ⟨#[], 0, (MapKept.heap_alloc w _).1, rfl⟩

theorem Dict.lt {w : World} {b : Nat} {D : List Vl} (h : Dict w b D) : b < w.heap.size := by
  obtain ⟨es, c, hb, _⟩ := h
  exact (Array.getElem?_eq_some_iff.1 hb).1

theorem Dict.keep {w w' : World} {b : Nat} {D : List Vl} (h : Dict w b D) (hb : Below w.heap.size w w') : Dict w' b D := by
  have hlt := h.lt
  obtain ⟨es, c, h1, h2⟩ := h
  exact ⟨es, c, (hb.block b hlt).trans h1, h2⟩

theorem Dict.drew {w : World} {b : Nat} {D : List Vl} (h : Dict w b D) : Dict w.drew b D := h

theorem now_of (n : Int) : ∀ (es : List MapEntry) (D : List Vl) (i : Nat), es.map (fun e => (e.key, e.val)) = D.map (fun x => (Value.int .i64 x.v, vlv x)) →
    ∃ r, Instr.findNow (.int .i64) (.int .i64 n) es i = some r ∧ r.map (·.2) = (findV D n).map vlv
  | [], [], _, _ => ⟨none, rfl, rfl⟩
  | [], _ :: _, _, h => by simp at h
  | _ :: _, [], _, h => by simp at h
  | e :: es, x :: D, i, h => by
    simp only [List.map_cons, List.cons.injEq, Prod.mk.injEq] at h
    obtain ⟨⟨hk, hv⟩, ht⟩ := h
    obtain ⟨r, h1, h2⟩ := now_of n es D (i + 1) ht
    have hs : Instr.sameNow (.int .i64) (.int .i64 n) e.key = some (n == x.v) := by rw [hk]; unfold Instr.sameNow; simp
    unfold Instr.findNow
    rw [hs]
    by_cases hn : n = x.v
    · have e1 : (n == x.v) = true := by simpa using hn
      have e2 : findV (x :: D) n = some x := by unfold findV; rw [List.find?_cons]; simp [hn]
      rw [e1, e2]
      exact ⟨some (i, e.val), rfl, congrArg some hv⟩
    · have e1 : (n == x.v) = false := by simpa using hn
      have e2 : findV (x :: D) n = findV D n := by
        have e3 : (x.v == n) = false := by simpa using fun h : x.v = n => hn h.symm
        unfold findV
        rw [List.find?_cons, e3]
      rw [e1, e2]
      exact ⟨r, h1, h2⟩

theorem dict_look {P : Program} {w : World} {b : Nat} {D : List Vl} (h : Dict w b D) {t k e : TypeId} (ht : P.underlying t = some (.map k e)) (hk : P.underlying k = some (.int .i64)) (hz : (zeroValue e).run P w = .ok (vlv none3) w) (n : Int) :
    (Instr.lookup t (.map (some b)) (.int .i64 n) true).run P w = .ok (.tuple #[vlv (gotV D n), .bool (isV D n)]) w := by
  obtain ⟨es, c, hb, he⟩ := h
  obtain ⟨r, h1, h2⟩ := now_of n es.toList D 0 he
  have hc : ∀ em, (Instr.checkKey em 10000 k (.int .i64 n)).run P w = .ok () w := fun em => MapKept.run_checkKey (d := .int .i64) (k := .int .i64 n) hk (show MapKept.IsKey (.int .i64) (.int .i64 n) from rfl) em 9999
  have hf := MapKept.run_findKey (w := w) hk h1
  unfold gotV isV
  cases r with
  | none =>
    have e0 : findV D n = none := by
      cases hq : findV D n with
      | none => rfl
      | some x => rw [hq] at h2; cases h2
    rw [e0]
    simp [Instr.lookup, run_underlying ht, MapKept.run_getObj_map hb, hc, hf, hz, Result.andThen]
  | some z =>
    obtain ⟨j, v⟩ := z
    cases hq : findV D n with
    | none => rw [hq] at h2; cases h2
    | some x =>
      rw [hq] at h2
      obtain rfl : v = vlv x := by simpa using h2
      simp [Instr.lookup, run_underlying ht, MapKept.run_getObj_map hb, hc, hf, Result.andThen]

theorem below_block {B : Nat} {a w : World} {b : Nat} (h : Below B a w) (hB : B ≤ b) (o : Obj) : Below B a { w with heap := w.heap.setIfInBounds b o } :=
  ⟨h.os, h.tape, h.output, by simpa using h.size, fun k hk => by
    show (w.heap.setIfInBounds b o)[k]? = _
    rw [Array.getElem?_setIfInBounds_ne (by omega)]
    exact h.block k hk⟩

theorem dict_put {P : Program} {w : World} {b : Nat} {D : List Vl} (h : Dict w b D) {t k e : TypeId} (ht : P.underlying t = some (.map k e)) (hk : P.underlying k = some (.int .i64)) (x : Vl) (hn : isV D x.v = false) :
    ∃ w', (Instr.mapUpdate t (.map (some b)) (.int .i64 x.v) (vlv x)).run P w = .ok () w' ∧ Dict w' b (addV D x) ∧ ∀ (a : World) (B : Nat), B ≤ b → Below B a w → Below B a w' := by
  obtain ⟨es, c, hb, he⟩ := h
  obtain ⟨r, h1, h2⟩ := now_of x.v es.toList D 0 he
  have hc : ∀ em, (Instr.checkKey em 10000 k (.int .i64 x.v)).run P w = .ok () w := fun em => MapKept.run_checkKey (d := .int .i64) (k := .int .i64 x.v) hk (show MapKept.IsKey (.int .i64) (.int .i64 x.v) from rfl) em 9999
  have e0 : findV D x.v = none := by
    unfold isV at hn
    cases hq : findV D x.v with
    | none => rfl
    | some y => rw [hq] at hn; cases hn
  have hr : r = none := by
    rw [e0] at h2
    cases r with
    | none => rfl
    | some z => cases h2
  subst hr
  have hf := MapKept.run_findKey (w := w) hk h1
  refine ⟨{ w with heap := w.heap.setIfInBounds b (.map (es.push { key := .int .i64 x.v, val := vlv x, born := c }) (c + 1)) }, ?_, ?_, fun a B hB hb => below_block hb hB _⟩
  · simp [Instr.mapUpdate, run_underlying ht, MapKept.run_getObj_map hb, hc, hf, MapKept.run_setObj_map _ hb, Result.andThen]
  · refine ⟨_, _, (MapKept.heap_set hb).1, ?_⟩
    unfold addV
    rw [hn]
    simp [he]

end Mem
end Go.Proofs.YtmojegnflcokjaaDoor

/-
  A block that may be written (no program): its first cells and that none is frozen; what stays of it, what a store of a whole struct leaves.
-/
namespace Go.Proofs.YtmojegnflcokjaaDoor
open Go.RowKit
namespace Bx

/-- A block that may be written: its first cells. -/
def Fre (W : World) (k : Nat) (l : List Value) : Prop := Blk W k l ∧ k < W.heap.size ∧ ∀ j, W.frozen? ⟨k, j, none⟩ = false

theorem Fre.new (W : World) (l : List Value) (t : TypeId) : Fre (W.alloc (.cells l.toArray t)) W.heap.size l := ⟨Blk.new W l t, by simp, fun j => World.frozen?_alloc_new W l.toArray t j⟩

theorem Fre.new_at {W : World} {k : Nat} (l : List Value) (t : TypeId) (hk : k = W.heap.size) : Fre (W.alloc (.cells l.toArray t)) k l := by subst hk; exact Fre.new W l t

theorem Fre.keep {W w1 : World} {k : Nat} {l : List Value} (h : Fre W k l) (hb : Below W.heap.size W w1) : Fre w1 k l :=
  ⟨h.1.keep hb, Nat.lt_of_lt_of_le h.2.1 hb.size, fun j => by rw [hb.frozen (p := ⟨k, j, none⟩) h.2.1]; exact h.2.2 j⟩

theorem Fre.more {W : World} {k : Nat} {l : List Value} (h : Fre W k l) (o : Obj) : Fre (W.alloc o) k l := h.keep (box_below W o)

theorem Fre.drew {W : World} {k : Nat} {l : List Value} (h : Fre W k l) : Fre W.drew k l := h

theorem Fre.set {W : World} {k : Nat} {l : List Value} (h : Fre W k l) (o : Nat) (x : Value) : Fre (W.setCell ⟨k, o, none⟩ x) k (l.set o x) := ⟨h.1.set o x, by simpa using h.2.1, fun j => by simpa using h.2.2 j⟩

theorem Fre.other {W : World} {k k' o : Nat} {l : List Value} {x : Value} (h : Fre W k l) (hne : k ≠ k') : Fre (W.setCell ⟨k', o, none⟩ x) k l := ⟨h.1.other hne, by simpa using h.2.1, fun j => by simpa using h.2.2 j⟩

theorem Fre.all1 {W : World} {k : Nat} {x0 : Value} (h : Fre W k [x0]) : (W.cell? ⟨k, 0, none⟩ = some x0) ∧ W.frozen? ⟨k, 0, none⟩ = false := ⟨h.1.all1, h.2.2 0⟩

theorem Fre.all2 {W : World} {k : Nat} {x0 x1 : Value} (h : Fre W k [x0, x1]) : (W.cell? ⟨k, 0, none⟩ = some x0 ∧ W.cell? ⟨k, 1, none⟩ = some x1) ∧ W.frozen? ⟨k, 0, none⟩ = false ∧ W.frozen? ⟨k, 1, none⟩ = false := ⟨h.1.all2, h.2.2 0, h.2.2 1⟩

theorem Fre.all3 {W : World} {k : Nat} {x0 x1 x2 : Value} (h : Fre W k [x0, x1, x2]) : (W.cell? ⟨k, 0, none⟩ = some x0 ∧ W.cell? ⟨k, 1, none⟩ = some x1 ∧ W.cell? ⟨k, 2, none⟩ = some x2) ∧ W.frozen? ⟨k, 0, none⟩ = false ∧ W.frozen? ⟨k, 1, none⟩ = false ∧ W.frozen? ⟨k, 2, none⟩ = false := ⟨h.1.all3, h.2.2 0, h.2.2 1, h.2.2 2⟩

theorem Fre.all4 {W : World} {k : Nat} {x0 x1 x2 x3 : Value} (h : Fre W k [x0, x1, x2, x3]) : (W.cell? ⟨k, 0, none⟩ = some x0 ∧ W.cell? ⟨k, 1, none⟩ = some x1 ∧ W.cell? ⟨k, 2, none⟩ = some x2 ∧ W.cell? ⟨k, 3, none⟩ = some x3) ∧ W.frozen? ⟨k, 0, none⟩ = false ∧ W.frozen? ⟨k, 1, none⟩ = false ∧ W.frozen? ⟨k, 2, none⟩ = false ∧ W.frozen? ⟨k, 3, none⟩ = false := ⟨h.1.all4, h.2.2 0, h.2.2 1, h.2.2 2, h.2.2 3⟩

theorem Fre.all5 {W : World} {k : Nat} {x0 x1 x2 x3 x4 : Value} (h : Fre W k [x0, x1, x2, x3, x4]) : (W.cell? ⟨k, 0, none⟩ = some x0 ∧ W.cell? ⟨k, 1, none⟩ = some x1 ∧ W.cell? ⟨k, 2, none⟩ = some x2 ∧ W.cell? ⟨k, 3, none⟩ = some x3 ∧ W.cell? ⟨k, 4, none⟩ = some x4) ∧ W.frozen? ⟨k, 0, none⟩ = false ∧ W.frozen? ⟨k, 1, none⟩ = false ∧ W.frozen? ⟨k, 2, none⟩ = false ∧ W.frozen? ⟨k, 3, none⟩ = false ∧ W.frozen? ⟨k, 4, none⟩ = false := ⟨h.1.all5, h.2.2 0, h.2.2 1, h.2.2 2, h.2.2 3, h.2.2 4⟩

theorem Fre.all6 {W : World} {k : Nat} {x0 x1 x2 x3 x4 x5 : Value} (h : Fre W k [x0, x1, x2, x3, x4, x5]) : (W.cell? ⟨k, 0, none⟩ = some x0 ∧ W.cell? ⟨k, 1, none⟩ = some x1 ∧ W.cell? ⟨k, 2, none⟩ = some x2 ∧ W.cell? ⟨k, 3, none⟩ = some x3 ∧ W.cell? ⟨k, 4, none⟩ = some x4 ∧ W.cell? ⟨k, 5, none⟩ = some x5) ∧ W.frozen? ⟨k, 0, none⟩ = false ∧ W.frozen? ⟨k, 1, none⟩ = false ∧ W.frozen? ⟨k, 2, none⟩ = false ∧ W.frozen? ⟨k, 3, none⟩ = false ∧ W.frozen? ⟨k, 4, none⟩ = false ∧ W.frozen? ⟨k, 5, none⟩ = false := ⟨h.1.all6, h.2.2 0, h.2.2 1, h.2.2 2, h.2.2 3, h.2.2 4, h.2.2 5⟩

theorem Fre.all7 {W : World} {k : Nat} {x0 x1 x2 x3 x4 x5 x6 : Value} (h : Fre W k [x0, x1, x2, x3, x4, x5, x6]) : (W.cell? ⟨k, 0, none⟩ = some x0 ∧ W.cell? ⟨k, 1, none⟩ = some x1 ∧ W.cell? ⟨k, 2, none⟩ = some x2 ∧ W.cell? ⟨k, 3, none⟩ = some x3 ∧ W.cell? ⟨k, 4, none⟩ = some x4 ∧ W.cell? ⟨k, 5, none⟩ = some x5 ∧ W.cell? ⟨k, 6, none⟩ = some x6) ∧ W.frozen? ⟨k, 0, none⟩ = false ∧ W.frozen? ⟨k, 1, none⟩ = false ∧ W.frozen? ⟨k, 2, none⟩ = false ∧ W.frozen? ⟨k, 3, none⟩ = false ∧ W.frozen? ⟨k, 4, none⟩ = false ∧ W.frozen? ⟨k, 5, none⟩ = false ∧ W.frozen? ⟨k, 6, none⟩ = false := ⟨h.1.all7, h.2.2 0, h.2.2 1, h.2.2 2, h.2.2 3, h.2.2 4, h.2.2 5, h.2.2 6⟩

theorem Fre.all8 {W : World} {k : Nat} {x0 x1 x2 x3 x4 x5 x6 x7 : Value} (h : Fre W k [x0, x1, x2, x3, x4, x5, x6, x7]) : (W.cell? ⟨k, 0, none⟩ = some x0 ∧ W.cell? ⟨k, 1, none⟩ = some x1 ∧ W.cell? ⟨k, 2, none⟩ = some x2 ∧ W.cell? ⟨k, 3, none⟩ = some x3 ∧ W.cell? ⟨k, 4, none⟩ = some x4 ∧ W.cell? ⟨k, 5, none⟩ = some x5 ∧ W.cell? ⟨k, 6, none⟩ = some x6 ∧ W.cell? ⟨k, 7, none⟩ = some x7) ∧ W.frozen? ⟨k, 0, none⟩ = false ∧ W.frozen? ⟨k, 1, none⟩ = false ∧ W.frozen? ⟨k, 2, none⟩ = false ∧ W.frozen? ⟨k, 3, none⟩ = false ∧ W.frozen? ⟨k, 4, none⟩ = false ∧ W.frozen? ⟨k, 5, none⟩ = false ∧ W.frozen? ⟨k, 6, none⟩ = false ∧ W.frozen? ⟨k, 7, none⟩ = false := ⟨h.1.all8, h.2.2 0, h.2.2 1, h.2.2 2, h.2.2 3, h.2.2 4, h.2.2 5, h.2.2 6, h.2.2 7⟩

theorem Blk.all17 {W : World} {k : Nat} {x0 x1 x2 x3 x4 x5 x6 x7 x8 x9 x10 x11 x12 x13 x14 x15 x16 : Value} (h : Blk W k [x0, x1, x2, x3, x4, x5, x6, x7, x8, x9, x10, x11, x12, x13, x14, x15, x16]) : W.cell? ⟨k, 0, none⟩ = some x0 ∧ W.cell? ⟨k, 1, none⟩ = some x1 ∧ W.cell? ⟨k, 2, none⟩ = some x2 ∧ W.cell? ⟨k, 3, none⟩ = some x3 ∧ W.cell? ⟨k, 4, none⟩ = some x4 ∧ W.cell? ⟨k, 5, none⟩ = some x5 ∧ W.cell? ⟨k, 6, none⟩ = some x6 ∧ W.cell? ⟨k, 7, none⟩ = some x7 ∧ W.cell? ⟨k, 8, none⟩ = some x8 ∧ W.cell? ⟨k, 9, none⟩ = some x9 ∧ W.cell? ⟨k, 10, none⟩ = some x10 ∧ W.cell? ⟨k, 11, none⟩ = some x11 ∧ W.cell? ⟨k, 12, none⟩ = some x12 ∧ W.cell? ⟨k, 13, none⟩ = some x13 ∧ W.cell? ⟨k, 14, none⟩ = some x14 ∧ W.cell? ⟨k, 15, none⟩ = some x15 ∧ W.cell? ⟨k, 16, none⟩ = some x16 := ⟨h.at 0 rfl, h.at 1 rfl, h.at 2 rfl, h.at 3 rfl, h.at 4 rfl, h.at 5 rfl, h.at 6 rfl, h.at 7 rfl, h.at 8 rfl, h.at 9 rfl, h.at 10 rfl, h.at 11 rfl, h.at 12 rfl, h.at 13 rfl, h.at 14 rfl, h.at 15 rfl, h.at 16 rfl⟩

end Bx
end Go.Proofs.YtmojegnflcokjaaDoor
