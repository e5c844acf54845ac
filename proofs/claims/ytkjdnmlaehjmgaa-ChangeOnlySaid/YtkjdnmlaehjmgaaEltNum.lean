/-
  Root, roles and election of a bridge (plain).
-/
import Derived.Test.YtkjdnmlaehjmgaaTreNum
import Derived.Test.YtkjdnmlaehjmgaaPorNum
namespace Go.Proofs.Ytkjdnmlaehjmgaa
open Go.RowKit
namespace Elt
open Pre Crd Tre

def offB (c : Cd) (id : Nat) : Bool := c.up && decide (c.info = 2) && !decide (c.v.b = id)
def wayV (c : Cd) : Vc := ⟨c.v.r, viaN c.v.c c.cost, c.v.b, c.v.p⟩
def ownV (id : Nat) : Vc := ⟨id, 0, id, 0⟩
def desV (r : Vc) (id i : Nat) : Vc := ⟨r.r, r.c, id, (i : Int) + 1⟩

/-- The best way, its times, and by which port it goes. -/
structure Rt where
  v : Vc
  t : Tm
  p : Int

def stepR (x : Td) (r : Rt) (i : Nat) : Rt := if (offB (x.cs i) x.id && ltV (wayV (x.cs i)) r.v) = true then ⟨wayV (x.cs i), (x.cs i).t, i⟩ else r
def rootN (x : Td) : Nat → Rt
  | 0 => ⟨ownV x.id, x.own, -1⟩
  | n + 1 => stepR x (rootN x n) n
def rootR (x : Td) : Rt := rootN x 8

/-- A way that is as good as all of the first n, and the first one. -/
def Least (x : Td) (n i : Nat) : Prop := i < n ∧ offB (x.cs i) x.id = true ∧ ltV (wayV (x.cs i)) (ownV x.id) = true ∧ (∀ j, j < n → offB (x.cs j) x.id = true → ltV (wayV (x.cs j)) (wayV (x.cs i)) = false) ∧ ∀ j, j < i → offB (x.cs j) x.id = true → ltV (wayV (x.cs i)) (wayV (x.cs j)) = true
def IsRoot (x : Td) (n : Nat) (r : Rt) : Prop := (r = ⟨ownV x.id, x.own, -1⟩ ∧ ∀ j, j < n → offB (x.cs j) x.id = true → ltV (wayV (x.cs j)) (ownV x.id) = false) ∨ ∃ i, r = ⟨wayV (x.cs i), (x.cs i).t, i⟩ ∧ Least x n i

theorem rootN_is (x : Td) : ∀ n, IsRoot x n (rootN x n)
  | 0 => .inl ⟨rfl, fun j h => by omega⟩
  | n + 1 => by
    have ih := rootN_is x n
    rw [rootN]
    generalize rootN x n = r at *
    unfold stepR
    cases ho : offB (x.cs n) x.id with
    | false =>
      rw [if_neg (by simp)]
      rcases ih with ⟨rfl, h⟩ | ⟨i, rfl, h0, h1, h2, h3, h4⟩
      · refine .inl ⟨rfl, fun j hj hoj => ?_⟩
        by_cases e : j = n
        · subst e; rw [ho] at hoj; cases hoj
        · exact h j (by omega) hoj
      · refine .inr ⟨i, rfl, by omega, h1, h2, fun j hj hoj => ?_, h4⟩
        by_cases e : j = n
        · subst e; rw [ho] at hoj; cases hoj
        · exact h3 j (by omega) hoj
    | true =>
      cases hl : ltV (wayV (x.cs n)) r.v with
      | false =>
        rw [if_neg (by simp)]
        rcases ih with ⟨rfl, h⟩ | ⟨i, rfl, h0, h1, h2, h3, h4⟩
        · refine .inl ⟨rfl, fun j hj hoj => ?_⟩
          by_cases e : j = n
          · subst e; exact hl
          · exact h j (by omega) hoj
        · refine .inr ⟨i, rfl, by omega, h1, h2, fun j hj hoj => ?_, h4⟩
          by_cases e : j = n
          · subst e; exact hl
          · exact h3 j (by omega) hoj
      | true =>
        rw [if_pos (by simp)]
        rcases ih with ⟨rfl, h⟩ | ⟨i, rfl, h0, h1, h2, h3, h4⟩
        · refine .inr ⟨n, rfl, by omega, ho, hl, fun j hj hoj => ?_, fun j hj hoj => tot.lt_le_lt hl (h j hj hoj)⟩
          by_cases e : j = n
          · subst e; exact tot.irr _
          · exact tot.lt_le (tot.lt_le_lt hl (h j (by omega) hoj))
        · refine .inr ⟨n, rfl, by omega, ho, tot.tr _ _ _ hl h2, fun j hj hoj => ?_, fun j hj hoj => tot.lt_le_lt hl (h3 j hj hoj)⟩
          by_cases e : j = n
          · subst e; exact tot.irr _
          · exact tot.lt_le (tot.lt_le_lt hl (h3 j (by omega) hoj))

theorem Least.uniq {x : Td} {n i i' : Nat} (h : Least x n i) (h' : Least x n i') : i = i' := by
  obtain ⟨h0, h1, h2, h3, h4⟩ := h
  obtain ⟨g0, g1, g2, g3, g4⟩ := h'
  rcases Nat.lt_trichotomy i i' with e | e | e
  · have a := g4 i e h1
    rw [h3 i' g0 g1] at a
    cases a
  · exact e
  · have a := h4 i' e g1
    rw [g3 i h0 h1] at a
    cases a

theorem IsRoot.uniq {x : Td} {n : Nat} {r r' : Rt} (h : IsRoot x n r) (h' : IsRoot x n r') : r = r' := by
  rcases h with ⟨rfl, h⟩ | ⟨i, rfl, h⟩ <;> rcases h' with ⟨rfl, g⟩ | ⟨i', rfl, g⟩
  · rfl
  · have := h i' g.1 g.2.1; rw [g.2.2.1] at this; cases this
  · have := g i h.1 h.2.1; rw [h.2.2.1] at this; cases this
  · rw [h.uniq g]

/-- What Root looks for: a way better than the bridge's own, with none better. -/
def Goes (x : Td) (i : Nat) : Prop := offB (x.cs i) x.id = true ∧ ltV (wayV (x.cs i)) (ownV x.id) = true ∧ ∀ j, j < 8 → offB (x.cs j) x.id = true → ltV (wayV (x.cs j)) (wayV (x.cs i)) = false

theorem root_at (x : Td) (i : Nat) (hi : i < 8) (h : Goes x i) (hf : ∀ j, j < i → ¬ Goes x j) : rootR x = ⟨wayV (x.cs i), (x.cs i).t, i⟩ := by
  refine IsRoot.uniq (rootN_is x 8) (.inr ⟨i, rfl, hi, h.1, h.2.1, h.2.2, fun j hj hoj => ?_⟩)
  cases e : ltV (wayV (x.cs i)) (wayV (x.cs j)) with
  | true => rfl
  | false =>
    have e2 : wayV (x.cs j) = wayV (x.cs i) := tot.tot _ _ (h.2.2 j (by omega) hoj) e
    exact absurd ⟨hoj, by rw [e2]; exact h.2.1, fun q hq hoq => by rw [e2]; exact h.2.2 q hq hoq⟩ (hf j hj)

theorem root_none (x : Td) (hf : ∀ j, j < 8 → ¬ Goes x j) : rootR x = ⟨ownV x.id, x.own, -1⟩ := by
  rcases rootN_is x 8 with ⟨h, _⟩ | ⟨i, h, g⟩
  · exact h
  · exact absurd ⟨g.2.1, g.2.2.1, g.2.2.2.1⟩ (hf i g.1)

def roleN (x : Td) (r : Rt) (i : Nat) : Int := if (x.cs i).up = false then 0 else if (i : Int) = r.p then 2 else if (decide ((x.cs i).info = 2) && !ltV (desV r.v x.id i) (x.cs i).v) = true then 1 else 3

def desC (c : Cd) (v : Vc) (t : Tm) : Cd := if c.info = 1 ∧ c.v = v ∧ c.t = t then c else { c with info := 1, v := v, t := t, agd := false, syd := false, agr := false, prd := false, tel := true }

def eleC (x : Td) (r : Rt) (i : Nat) : Cd := if roleN x r i = 0 then { Cd.zero with adm := (x.cs i).adm, cost := (x.cs i).cost } else if roleN x r i = 3 then desC { x.cs i with role := 3 } (desV r.v x.id i) r.t else { x.cs i with role := roleN x r i, png := false }

def eleT (x : Td) : Td := { x with root := (rootR x).v, times := (rootR x).t, port := (rootR x).p, cs := eleC x (rootR x) }

def actB (c : Cd) : Bool := c.up && (decide (c.role = 2) || decide (c.role = 3))
def actI (x : Td) : Nat → Int
  | 0 => 0
  | n + 1 => if actB (x.cs n) = true then Por.withI (actI x n) n else actI x n

theorem roleN_cases (x : Td) (r : Rt) (i : Nat) : roleN x r i = 0 ∨ roleN x r i = 1 ∨ roleN x r i = 2 ∨ roleN x r i = 3 := by
  unfold roleN
  repeat' split
  all_goals simp

end Elt
end Go.Proofs.Ytkjdnmlaehjmgaa
