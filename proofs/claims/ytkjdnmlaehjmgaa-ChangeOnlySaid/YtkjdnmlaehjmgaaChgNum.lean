/-
  What is told and forgotten when the tree changes (plain).
-/
import Derived.Test.YtkjdnmlaehjmgaaRipNum
import Derived.Test.YtkjdnmlaehjmgaaPorNum
namespace Go.Proofs.Ytkjdnmlaehjmgaa
open Go.RowKit
namespace Chg
open Pre Crd Tre Elt Rip

/-- Other bridges are reached by this port. -/
def ldB (c : Cd) : Bool := c.up && !c.edge && (decide (c.role = 2) || decide (c.role = 3))
def prtN (x : Td) (but : Int) : Nat → Nat
  | 0 => 0
  | n + 1 => if (!decide ((n : Int) = but) && ldB (x.cs n)) = true then Por.withN (prtN x but n) n else prtN x but n
def prtI (x : Td) (but : Int) : Nat := prtN x but 8
def lim (n : Int) : Int := min (max n 1) 255
def lasI (c : Cd) : Int := if c.rap = true then lim c.t.h + 1 else lim c.t.m + lim c.t.d
def strC (c : Cd) : Cd := if c.chg = 0 then { c with chg := lasI c, tel := true } else c
def strF (f : Nat → Cd) (s : Int) : Nat → Cd := fun j => if Por.hasN (Por.low s) j = true then strC (f j) else f j
def strT (x : Td) (s : Int) : Td := { x with cs := strF x.cs s }
/-- Those of a list have begun. -/
def strL (f : Nat → Cd) (l : List Nat) : Nat → Cd := fun j => if j ∈ l then strC (f j) else f j
def hrA (c : Cd) (b : Bd) : Cd := if b.k = 128 then { c with ack := decide (c.role = 3), tel := true } else if b.ac = true then { c with chg := 0 } else c
def tellB (b : Bd) : Bool := decide (b.k = 128) || b.ch
def herT (x : Td) (i : Nat) (b : Bd) : Td × Nat :=
  if (x.cs i).up = false then (x, 0)
  else if tellB b = true then (strT (putT x i (hrA (x.cs i) b)) (prtI (putT x i (hrA (x.cs i) b)) i : Nat), prtI (putT x i (hrA (x.cs i) b)) i)
  else (putT x i (hrA (x.cs i) b), 0)
def clsB (w c : Cd) : Bool := (w.up && !c.up) || (!decide (w.st = 0) && decide (c.st = 0))
def opnB (w c : Cd) : Bool := !decide (w.st = 2) && decide (c.st = 2) && !c.edge
def flS (w c : Cd) (n : Nat) (s : Td × Nat) : Td × Nat :=
  if clsB w c = true then (s.1, Por.withN s.2 n)
  else if opnB w c = true then (strT s.1 ((Por.withN (prtI s.1 n) n : Nat) : Int), s.2 ||| prtI s.1 n)
  else s
def flN (old y : Td) : Nat → Td × Nat
  | 0 => (y, 0)
  | n + 1 => flS (old.cs n) (y.cs n) n (flN old y n)

theorem prt_lt (x : Td) (but : Int) : ∀ n, prtN x but n < 256
  | 0 => by unfold prtN; decide
  | n + 1 => by
    unfold prtN
    split
    · exact Por.withN_lt _ _ (prt_lt x but n)
    · exact prt_lt x but n

theorem prtI_lt (x : Td) (but : Int) : prtI x but < 256 := prt_lt x but 8

theorem or_lt {a b : Nat} (ha : a < 256) (hb : b < 256) : a ||| b < 256 := Nat.or_lt_two_pow (n := 8) ha hb

theorem las_in (c : Cd) : 2 ≤ lasI c ∧ lasI c ≤ 510 := by unfold lasI lim; split <;> omega

theorem flS_lt (w c : Cd) (n : Nat) (s : Td × Nat) (h : s.2 < 256) : (flS w c n s).2 < 256 := by
  unfold flS
  split
  · exact Por.withN_lt _ _ h
  · split
    · exact or_lt h (prtI_lt _ _)
    · exact h

theorem flN_lt (old y : Td) : ∀ n, (flN old y n).2 < 256
  | 0 => by show 0 < 256; decide
  | n + 1 => flS_lt _ _ _ _ (flN_lt old y n)

theorem cls_self (c : Cd) : clsB c c = false := by unfold clsB; cases c.up <;> by_cases h : c.st = 0 <;> simp [h]
theorem opn_self (c : Cd) : opnB c c = false := by unfold opnB; by_cases h : c.st = 2 <;> simp [h]

theorem flS_same (c : Cd) (n : Nat) (s : Td × Nat) : flS c c n s = s := by
  unfold flS
  rw [if_neg (by rw [cls_self]; decide), if_neg (by rw [opn_self]; decide)]

theorem flN_same (x : Td) : ∀ n, flN x x n = (x, 0)
  | 0 => rfl
  | n + 1 => by unfold flN; rw [flS_same, flN_same x n]

/-- What begins to tell has begun. -/
theorem str_twice (c : Cd) : strC (strC c) = strC c := by
  by_cases h : c.chg = 0
  · have e : strC c = { c with chg := lasI c, tel := true } := if_pos h
    rw [e]
    exact if_neg (by have := (las_in c).1; show ¬ lasI c = 0; omega)
  · have e : strC c = c := if_neg h
    rw [e, e]

theorem strT_at (x : Td) (s : Int) (j : Nat) : (strT x s).cs j = x.cs j ∨ (strT x s).cs j = strC (x.cs j) := by
  show strF x.cs s j = _ ∨ strF x.cs s j = _
  unfold strF
  split
  · exact Or.inr rfl
  · exact Or.inl rfl

/-- A port that only tells more. -/
def More (c d : Cd) : Prop := d = c ∨ d = strC c

theorem More.str {c d e : Cd} (h : More c d) (g : e = d ∨ e = strC d) : More c e := by
  rcases h with rfl | rfl
  · exact g
  · rcases g with rfl | rfl
    · exact Or.inr rfl
    · exact Or.inr (str_twice c)

theorem flN_more (old y : Td) (j : Nat) : ∀ n, More (y.cs j) ((flN old y n).1.cs j)
  | 0 => Or.inl rfl
  | n + 1 => by
    have ih := flN_more old y j n
    unfold flN flS
    split
    · exact ih
    · split
      · exact ih.str (strT_at _ _ j)
      · exact ih

theorem flN_rest (old y : Td) : ∀ n, (flN old y n).1.id = y.id ∧ (flN old y n).1.own = y.own ∧ (flN old y n).1.root = y.root ∧ (flN old y n).1.times = y.times ∧ (flN old y n).1.port = y.port
  | 0 => ⟨rfl, rfl, rfl, rfl, rfl⟩
  | n + 1 => by
    have ih := flN_rest old y n
    unfold flN flS
    split
    · exact ih
    · split
      · exact ih
      · exact ih

/-- Of two ports that are the same but for what they tell. -/
theorem more_is {c d : Cd} (h : More c d) : { d with chg := c.chg, tel := c.tel } = c ∧ (d.chg ≠ c.chg → c.chg = 0 ∧ 1 ≤ d.chg ∧ d.tel = true) := by
  rcases h with rfl | rfl
  · exact ⟨rfl, fun h => absurd rfl h⟩
  · by_cases h : c.chg = 0
    · have e : strC c = { c with chg := lasI c, tel := true } := if_pos h
      rw [e]
      refine ⟨rfl, fun _ => ⟨h, ?_, rfl⟩⟩
      have := (las_in c).1
      show 1 ≤ lasI c
      omega
    · have e : strC c = c := if_neg h
      rw [e]
      exact ⟨rfl, fun g => absurd rfl g⟩

theorem has_withN (m n : Nat) (hm : m < 256) (hn : n < 8) : Por.hasN (Por.withN m n) n = true := by
  unfold Por.withN
  rw [if_pos (by omega)]
  exact Por.has_with_fin ⟨m, hm⟩ ⟨n, hn⟩

theorem hasN_bit (m p : Nat) : Por.hasN m p = m.testBit p := by
  unfold Por.hasN
  rw [Nat.testBit_eq_decide_div_mod_eq]
  rfl

theorem has_or (m k p : Nat) (h : Por.hasN m p = true) : Por.hasN (m ||| k) p = true := by
  rw [hasN_bit] at h ⊢
  rw [Nat.testBit_or, h, Bool.true_or]

theorem has_keep (w c : Cd) (n : Nat) (s : Td × Nat) (p : Nat) (h : Por.hasN s.2 p = true) : Por.hasN (flS w c n s).2 p = true := by
  unfold flS
  split
  · show Por.hasN (Por.withN s.2 n) p = true
    unfold Por.withN
    split
    · exact has_or _ _ _ h
    · exact h
  · split
    · exact has_or _ _ _ h
    · exact h

theorem flN_has (old y : Td) (i : Nat) (hi : i < 8) (h : clsB (old.cs i) (y.cs i) = true) : ∀ n, i < n → Por.hasN (flN old y n).2 i = true
  | 0, hn => by omega
  | n + 1, hn => by
    unfold flN
    by_cases e : i = n
    · subst e
      unfold flS
      rw [if_pos h]
      exact has_withN _ _ (flN_lt old y i) hi
    · exact has_keep _ _ _ _ _ (flN_has old y i hi h n (by omega))

/-! ### A list of ports, one behind the other -/
theorem strL_none (f : Nat → Cd) : strL f [] = f := by funext j; unfold strL; rw [if_neg (by simp)]

theorem strL_next (f : Nat → Cd) (l : List Nat) (q : Nat) (h : q ∉ l) : upd (strL f l) q (strC (f q)) = strL f (l ++ [q]) ∧ strL f l q = f q := by
  refine ⟨?_, if_neg h⟩
  funext j
  unfold upd strL
  by_cases e : j = q
  · subst e; rw [if_pos rfl, if_pos (by simp)]
  · rw [if_neg e]
    by_cases g : j ∈ l
    · rw [if_pos g, if_pos (by simp [g])]
    · rw [if_neg g, if_neg (by simp [g, e])]

theorem strL_skip (f : Nat → Cd) (l : List Nat) (q : Nat) (h : strC (f q) = f q) : strL f l = strL f (l ++ [q]) := by
  funext j
  unfold strL
  by_cases g : j ∈ l
  · rw [if_pos g, if_pos (by simp [g])]
  · rw [if_neg g]
    by_cases e : j = q
    · subst e; rw [if_pos (by simp), h]
    · rw [if_neg (by simp [g, e])]

theorem strL_all (f : Nat → Cd) (s : Int) (j : Nat) (hj : j < 8) : strL f (Por.listN (Por.low s) 8) j = strF f s j := by
  unfold strL strF Por.listN
  by_cases h : Por.hasN (Por.low s) j = true
  · rw [if_pos h, if_pos (by simp [hj, h])]
  · rw [if_neg h, if_neg (by simp [h])]

theorem listN_at (m k : Nat) (h : k < (Por.listN m 8).length) : (Por.listN m 8)[k] < 8 ∧ (Por.listN m 8)[k] ∉ (Por.listN m 8).take k := by
  have hp : (Por.listN m 8).Pairwise (· < ·) := List.pairwise_lt_range.filter _
  refine ⟨?_, ?_⟩
  · have := List.getElem_mem h
    unfold Por.listN at this
    exact List.mem_range.1 (List.mem_filter.1 this).1
  · intro hm
    obtain ⟨i, hi, e⟩ := List.mem_iff_getElem.1 hm
    rw [List.getElem_take] at e
    have hik : i < k := by rw [List.length_take] at hi; omega
    have := List.pairwise_iff_getElem.1 hp i k (by omega) h hik
    omega

theorem strL_td (x : Td) (s : Int) : tdl (Td.mk x.id x.own x.root x.times x.port (strL x.cs (Por.listN (Por.low s) 8))) = tdl (strT x s) :=
  tdl_ext (Td.mk x.id x.own x.root x.times x.port (strL x.cs (Por.listN (Por.low s) 8))) (strF x.cs s) (fun i hi => strL_all x.cs s i hi)

end Chg
end Go.Proofs.Ytkjdnmlaehjmgaa
