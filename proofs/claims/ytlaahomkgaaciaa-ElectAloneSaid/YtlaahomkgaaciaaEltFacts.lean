/-
  What an election leaves (plain): elected again it is the same; one root port at most; of a bridge that heard nothing.
-/
import Derived.Test.YtlaahomkgaaciaaEltNum
namespace Go.Proofs.Ytlaahomkgaaciaa
open Go.RowKit
namespace Elt
open Pre Crd Tre

theorem role_up (x : Td) (r : Rt) (i : Nat) (h : (x.cs i).up = true) : ¬ roleN x r i = 0 := by
  unfold roleN
  rw [if_neg (by simp [h])]
  repeat' split
  all_goals simp

theorem role_down (x : Td) (r : Rt) (i : Nat) (h : (x.cs i).up = false) : roleN x r i = 0 := by unfold roleN; rw [if_pos h]

theorem role_root (x : Td) (r : Rt) (i : Nat) (h : roleN x r i = 2) : (i : Int) = r.p := by
  unfold roleN at h
  split at h
  · cases h
  · split at h
    · assumption
    · split at h <;> cases h

theorem role_alt (x : Td) (r : Rt) (i : Nat) (h : roleN x r i = 1) : (x.cs i).up = true ∧ ¬ (i : Int) = r.p ∧ (x.cs i).info = 2 ∧ ltV (desV r.v x.id i) (x.cs i).v = false := by
  unfold roleN at h
  split at h
  · cases h
  · rename_i hu
    split at h
    · cases h
    · rename_i hp
      split at h
      · rename_i hq
        simp at hq
        exact ⟨by simpa using hu, hp, hq.1, hq.2⟩
      · cases h

theorem role_des (x : Td) (r : Rt) (i : Nat) (h : roleN x r i = 3) : (x.cs i).up = true ∧ ¬ (i : Int) = r.p := by
  unfold roleN at h
  split at h
  · cases h
  · rename_i hu
    split at h
    · cases h
    · rename_i hp
      exact ⟨by simpa using hu, hp⟩

theorem ele0 (x : Td) (r : Rt) (i : Nat) (h : roleN x r i = 0) : eleC x r i = { Cd.zero with adm := (x.cs i).adm, cost := (x.cs i).cost } := by unfold eleC; rw [if_pos h]
theorem ele3 (x : Td) (r : Rt) (i : Nat) (h : roleN x r i = 3) : eleC x r i = desC { x.cs i with role := 3 } (desV r.v x.id i) r.t := by unfold eleC; rw [if_neg (by omega), if_pos h]
theorem ele12 (x : Td) (r : Rt) (i : Nat) (h : roleN x r i = 1 ∨ roleN x r i = 2) : eleC x r i = { x.cs i with role := roleN x r i, png := false } := by unfold eleC; rw [if_neg (by omega), if_neg (by omega)]

theorem des_is (c : Cd) (v : Vc) (t : Tm) : (desC c v t).info = 1 ∧ (desC c v t).v = v ∧ (desC c v t).t = t ∧ (desC c v t).up = c.up ∧ (desC c v t).role = c.role := by
  unfold desC
  split
  · rename_i h; exact ⟨h.1, h.2.1, h.2.2, rfl, rfl⟩
  · exact ⟨rfl, rfl, rfl, rfl, rfl⟩

theorem des_again (c : Cd) (v : Vc) (t : Tm) : desC (desC c v t) v t = desC c v t := by
  obtain ⟨h1, h2, h3, _⟩ := des_is c v t
  generalize desC c v t = d at *
  unfold desC
  rw [if_pos ⟨h1, h2, h3⟩]

theorem ele_up (x : Td) (r : Rt) (i : Nat) : (eleC x r i).up = (x.cs i).up := by
  rcases roleN_cases x r i with h | h | h | h
  · rw [ele0 x r i h]
    cases hu : (x.cs i).up with
    | false => rfl
    | true => exact absurd h (role_up x r i hu)
  · rw [ele12 x r i (.inl h)]
  · rw [ele12 x r i (.inr h)]
  · rw [ele3 x r i h]; exact (des_is _ _ _).2.2.2.1

theorem ele_role (x : Td) (r : Rt) (i : Nat) : (eleC x r i).role = roleN x r i := by
  rcases roleN_cases x r i with h | h | h | h
  · rw [ele0 x r i h, h]
  · rw [ele12 x r i (.inl h)]
  · rw [ele12 x r i (.inr h)]
  · rw [ele3 x r i h, h]; exact (des_is _ _ _).2.2.2.2

/-- What is still offered was offered, and is the same way. -/
theorem off_still (x : Td) (r : Rt) (i : Nat) (h : offB (eleC x r i) x.id = true) : offB (x.cs i) x.id = true ∧ wayV (eleC x r i) = wayV (x.cs i) ∧ (eleC x r i).t = (x.cs i).t := by
  rcases roleN_cases x r i with e | e | e | e
  · rw [ele0 x r i e] at h; unfold offB at h; simp at h
  · rw [ele12 x r i (.inl e)] at h ⊢; exact ⟨h, rfl, rfl⟩
  · rw [ele12 x r i (.inr e)] at h ⊢; exact ⟨h, rfl, rfl⟩
  · rw [ele3 x r i e] at h; unfold offB at h; rw [(des_is _ _ _).1] at h; simp at h

theorem role_at (x : Td) (i : Nat) (h : Least x 8 i) (hr : rootR x = ⟨wayV (x.cs i), (x.cs i).t, i⟩) : roleN x (rootR x) i = 2 := by
  have hu : (x.cs i).up = true := by have := h.2.1; unfold offB at this; simp at this; exact this.1.1
  unfold roleN
  rw [if_neg (by simp [hu]), if_pos (by rw [hr])]

theorem root_again (x : Td) : rootR (eleT x) = rootR x := by
  refine IsRoot.uniq (rootN_is (eleT x) 8) ?_
  rcases rootN_is x 8 with ⟨h, g⟩ | ⟨i, h, g⟩
  · refine .inl ⟨h, fun j hj hoj => ?_⟩
    obtain ⟨a, b, _⟩ := off_still x (rootR x) j hoj
    show ltV (wayV (eleC x (rootR x) j)) (ownV x.id) = false
    rw [b]
    exact g j hj a
  · have hl := role_at x i g h
    have he : eleC x (rootR x) i = { x.cs i with role := 2, png := false } := by rw [ele12 x _ i (.inr hl), hl]
    have hw : wayV (eleC x (rootR x) i) = wayV (x.cs i) := by rw [he]; rfl
    refine .inr ⟨i, ?_, ?_⟩
    · show rootR x = ⟨wayV (eleC x (rootR x) i), (eleC x (rootR x) i).t, i⟩
      rw [hw, he]
      exact h
    · obtain ⟨g0, g1, g2, g3, g4⟩ := g
      refine ⟨g0, ?_, ?_, fun j hj hoj => ?_, fun j hj hoj => ?_⟩
      · show offB (eleC x (rootR x) i) x.id = true
        rw [he]
        exact g1
      · show ltV (wayV (eleC x (rootR x) i)) (ownV x.id) = true
        rw [hw]
        exact g2
      · obtain ⟨a, b, _⟩ := off_still x (rootR x) j hoj
        show ltV (wayV (eleC x (rootR x) j)) (wayV (eleC x (rootR x) i)) = false
        rw [hw, b]
        exact g3 j hj a
      · obtain ⟨a, b, _⟩ := off_still x (rootR x) j hoj
        show ltV (wayV (eleC x (rootR x) i)) (wayV (eleC x (rootR x) j)) = true
        rw [hw, b]
        exact g4 j hj a

theorem roles_again (x : Td) (i : Nat) : roleN (eleT x) (rootR x) i = roleN x (rootR x) i := by
  have hu := ele_up x (rootR x) i
  show (if (eleC x (rootR x) i).up = false then 0 else if (i : Int) = (rootR x).p then 2 else if (decide ((eleC x (rootR x) i).info = 2) && !ltV (desV (rootR x).v x.id i) (eleC x (rootR x) i).v) = true then (1 : Int) else 3) = _
  rw [hu]
  rcases roleN_cases x (rootR x) i with e | e | e | e
  · cases h : (x.cs i).up with
    | false => rw [if_pos rfl, e]
    | true => exact absurd e (role_up x _ i h)
  · obtain ⟨h1, h2, h3, h4⟩ := role_alt x _ i e
    rw [if_neg (by simp [h1]), if_neg h2, e, ele12 x _ i (.inl e)]
    rw [if_pos (by simp [h3, h4])]
  · have h1 : (x.cs i).up = true := by
      cases h : (x.cs i).up with
      | true => rfl
      | false => rw [role_down x _ i h] at e; cases e
    rw [if_neg (by simp [h1]), if_pos (role_root x _ i e), e]
  · obtain ⟨h1, h2⟩ := role_des x _ i e
    rw [if_neg (by simp [h1]), if_neg h2, e, ele3 x _ i e, (des_is _ _ _).1]
    rw [if_neg (by simp)]

theorem cord_again (x : Td) (i : Nat) : eleC (eleT x) (rootR x) i = eleC x (rootR x) i := by
  have hr := roles_again x i
  rcases roleN_cases x (rootR x) i with e | e | e | e
  · rw [ele0 (eleT x) _ i (by rw [hr, e]), ele0 x _ i e]
    show ({ Cd.zero with adm := (eleC x (rootR x) i).adm, cost := (eleC x (rootR x) i).cost } : Cd) = _
    rw [ele0 x _ i e]
  · rw [ele12 (eleT x) _ i (.inl (by rw [hr, e])), hr]
    show ({ eleC x (rootR x) i with role := roleN x (rootR x) i, png := false } : Cd) = _
    rw [ele12 x _ i (.inl e)]
  · rw [ele12 (eleT x) _ i (.inr (by rw [hr, e])), hr]
    show ({ eleC x (rootR x) i with role := roleN x (rootR x) i, png := false } : Cd) = _
    rw [ele12 x _ i (.inr e)]
  · rw [ele3 (eleT x) _ i (by rw [hr, e])]
    show desC { eleC x (rootR x) i with role := 3 } (desV (rootR x).v x.id i) (rootR x).t = _
    have h : ({ eleC x (rootR x) i with role := 3 } : Cd) = eleC x (rootR x) i := by
      have h3 : (eleC x (rootR x) i).role = 3 := by rw [ele_role, e]
      generalize eleC x (rootR x) i = d at *
      obtain ⟨⟩ := d
      simp_all
    rw [h, ele3 x _ i e, des_again]

/-- Elected again nothing changes. -/
theorem elect_again (x : Td) : eleT (eleT x) = eleT x := by
  have h := root_again x
  show ({ eleT x with root := (rootR (eleT x)).v, times := (rootR (eleT x)).t, port := (rootR (eleT x)).p, cs := eleC (eleT x) (rootR (eleT x)) } : Td) = eleT x
  rw [h, show eleC (eleT x) (rootR x) = eleC x (rootR x) from funext (cord_again x)]
  rfl

/-- How many of the first k ports are the root port. -/
def cntI (x : Td) (k : Nat) : Int := if 0 ≤ (rootR x).p ∧ (rootR x).p < k then 1 else 0

theorem root_p (x : Td) : (rootR x).p = -1 ∧ (rootR x).v = ownV x.id ∨ ∃ i : Nat, i < 8 ∧ (rootR x).p = i ∧ roleN x (rootR x) i = 2 ∧ ltV (rootR x).v (ownV x.id) = true := by
  rcases rootN_is x 8 with ⟨h, _⟩ | ⟨i, h, g⟩
  · have h' : rootR x = _ := h
    exact .inl ⟨by rw [h'], by rw [h']⟩
  · have h' : rootR x = _ := h
    exact .inr ⟨i, g.1, by rw [h'], role_at x i g h', by rw [h']; exact g.2.2.1⟩

theorem cnt_next (x : Td) (k : Nat) : cntI x (k + 1) = if roleN x (rootR x) k = 2 then cntI x k + 1 else cntI x k := by
  unfold cntI
  rcases root_p x with ⟨h, _⟩ | ⟨i, hi, h, hr, _⟩
  · have n0 : ¬ roleN x (rootR x) k = 2 := fun e => by have := role_root x _ k e; omega
    have n1 : ¬ (0 ≤ (rootR x).p ∧ (rootR x).p < ((k + 1 : Nat) : Int)) := by omega
    have n2 : ¬ (0 ≤ (rootR x).p ∧ (rootR x).p < (k : Int)) := by omega
    rw [if_neg n0, if_neg n1, if_neg n2]
  · by_cases e : k = i
    · subst e
      have n1 : 0 ≤ (rootR x).p ∧ (rootR x).p < ((k + 1 : Nat) : Int) := by omega
      have n2 : ¬ (0 ≤ (rootR x).p ∧ (rootR x).p < (k : Int)) := by omega
      rw [if_pos hr, if_pos n1, if_neg n2]
      rfl
    · have n0 : ¬ roleN x (rootR x) k = 2 := fun q => by have := role_root x _ k q; omega
      rw [if_neg n0]
      by_cases q : i < k
      · have n1 : 0 ≤ (rootR x).p ∧ (rootR x).p < ((k + 1 : Nat) : Int) := by omega
        have n2 : 0 ≤ (rootR x).p ∧ (rootR x).p < (k : Int) := by omega
        rw [if_pos n1, if_pos n2]
      · have n1 : ¬ (0 ≤ (rootR x).p ∧ (rootR x).p < ((k + 1 : Nat) : Int)) := by omega
        have n2 : ¬ (0 ≤ (rootR x).p ∧ (rootR x).p < (k : Int)) := by omega
        rw [if_neg n1, if_neg n2]

theorem cnt_end (x : Td) : cntI x 8 ≤ 1 ∧ 0 ≤ cntI x 8 ∧ (cntI x 8 = 0 ↔ (rootR x).p = -1) := by
  unfold cntI
  rcases root_p x with ⟨h, _⟩ | ⟨i, hi, h, _⟩
  · rw [if_neg (by omega)]; omega
  · rw [if_pos (by omega)]; omega

theorem cnt_le (x : Td) (k : Nat) : 0 ≤ cntI x k ∧ cntI x k ≤ 1 := by unfold cntI; split <;> omega

theorem root_ok (x : Td) : ltV (ownV x.id) (rootR x).v = false := by
  rcases root_p x with ⟨_, h⟩ | ⟨_, _, _, _, h⟩
  · rw [h]; exact tot.irr _
  · exact tot.lt_le h

/-- Of a bridge that heard nothing. -/
def deaf (x : Td) : Td := { x with cs := fun i => { x.cs i with info := 0 } }

theorem deaf_root (x : Td) : rootR (deaf x) = ⟨ownV x.id, x.own, -1⟩ := root_none (deaf x) (fun j _ h => by
  have := h.1
  unfold offB deaf at this
  simp at this)

theorem deaf_role (x : Td) (i : Nat) : roleN (deaf x) (rootR (deaf x)) i = if (x.cs i).up = false then 0 else 3 := by
  have h : roleN (deaf x) (rootR (deaf x)) i = if (x.cs i).up = false then 0 else if (i : Int) = (rootR (deaf x)).p then 2 else if (decide ((0 : Int) = 2) && !ltV (desV (rootR (deaf x)).v x.id i) (x.cs i).v) = true then 1 else 3 := rfl
  rw [h, deaf_root]
  split
  · rfl
  · rw [if_neg (by show ¬ (i : Int) = -1; omega), if_neg (by simp)]

/-- The ports of a bridge that are up, of the first k. -/
def bitI (x : Td) : Nat → Int
  | 0 => 0
  | n + 1 => if (x.cs n).up = true then Por.withI (bitI x n) n else bitI x n

theorem deaf_active (x : Td) : ∀ k, actI (eleT (deaf x)) k = bitI x k
  | 0 => rfl
  | k + 1 => by
    have hr : (eleC (deaf x) (rootR (deaf x)) k).role = _ := (ele_role _ _ k).trans (deaf_role x k)
    have hu : (eleC (deaf x) (rootR (deaf x)) k).up = (x.cs k).up := ele_up _ _ k
    have ha : actB ((eleT (deaf x)).cs k) = (x.cs k).up := by
      show actB (eleC (deaf x) (rootR (deaf x)) k) = _
      unfold actB
      rw [hu, hr]
      cases (x.cs k).up <;> simp
    show (if actB ((eleT (deaf x)).cs k) = true then Por.withI (actI (eleT (deaf x)) k) k else actI (eleT (deaf x)) k) = _
    rw [ha, deaf_active x k]
    rfl

end Elt
end Go.Proofs.Ytlaahomkgaaciaa
