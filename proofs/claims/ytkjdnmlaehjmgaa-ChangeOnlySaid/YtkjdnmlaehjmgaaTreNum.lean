/-
  A bridge of the tree (plain): its cells, its eight ports' cells in a row; what a store of a port, or of one cell, makes of them.
-/
import Derived.Test.YtkjdnmlaehjmgaaCrd
namespace Go.Proofs.Ytkjdnmlaehjmgaa
open Go.RowKit
namespace Tre
open Pre Crd

/-- A bridge: its ports by number. -/
structure Td where
  id : Nat
  own : Tm
  root : Vc
  times : Tm
  port : Int
  cs : Nat → Cd

def upd (f : Nat → Cd) (i : Nat) (c : Cd) : Nat → Cd := fun j => if j = i then c else f j

/-- The cells of n ports. -/
def flatN (f : Nat → Cd) : Nat → List Value
  | 0 => []
  | n + 1 => flatN f n ++ cdl (f n)
def flat (f : Nat → Cd) : List Value := flatN f 8

theorem flatN_len (f : Nat → Cd) : ∀ n, (flatN f n).length = n * 31
  | 0 => by simp [flatN]
  | n + 1 => by rw [flatN, List.length_append, flatN_len f n]; simp only [List.length_cons, List.length_nil]; omega

theorem flat_len (f : Nat → Cd) : (flat f).length = 248 := flatN_len f 8

theorem flatN_get (f : Nat → Cd) (i j : Nat) (hj : j < 31) : ∀ n, i < n → (flatN f n)[i * 31 + j]? = (cdl (f i))[j]?
  | 0, h => by omega
  | n + 1, h => by
    have hl := flatN_len f n
    rw [flatN]
    by_cases e : i = n
    · subst e
      rw [List.getElem?_append_right (by omega), hl, Nat.add_sub_cancel_left]
    · rw [List.getElem?_append_left (by omega)]
      exact flatN_get f i j hj n (by omega)

theorem flat_get (f : Nat → Cd) (i j : Nat) (hi : i < 8) (hj : j < 31) : (flat f)[i * 31 + j]? = (cdl (f i))[j]? := flatN_get f i j hj 8 hi

theorem flatN_ext (f g : Nat → Cd) : ∀ n, (∀ i, i < n → f i = g i) → flatN f n = flatN g n
  | 0, _ => rfl
  | n + 1, h => by rw [flatN, flatN, flatN_ext f g n (fun i hi => h i (by omega)), h n (by omega)]

theorem flat_ext (f g : Nat → Cd) (h : ∀ i, i < 8 → f i = g i) : flat f = flat g := flatN_ext f g 8 h

theorem flatN_one (f : Nat → Cd) : ∀ n, ∀ v ∈ flatN f n, v.oneCell' = true
  | 0, v, h => by simp [flatN] at h
  | n + 1, v, h => by
    rw [flatN, List.mem_append] at h
    rcases h with h | h
    · exact flatN_one f n v h
    · exact cd_one _ v h

theorem setL_len : ∀ (m l : List Value) (o : Nat), (Bx.setL l o m).length = l.length
  | [], _, _ => rfl
  | _ :: m, l, o => by rw [Bx.setL, setL_len m]; simp

theorem setL_get : ∀ (m l : List Value) (o q : Nat), (Bx.setL l o m)[q]? = if o ≤ q ∧ q < o + m.length ∧ q < l.length then m[q - o]? else l[q]?
  | [], l, o, q => by rw [Bx.setL, if_neg (by simp; omega)]
  | v :: m, l, o, q => by
    rw [Bx.setL, setL_get m, List.length_set, List.length_cons]
    by_cases e : q = o
    · subst e
      rw [if_neg (by omega)]
      by_cases hl : q < l.length
      · rw [if_pos (by omega), Nat.sub_self, List.getElem?_set_self hl]; rfl
      · rw [if_neg (by omega), List.getElem?_eq_none (by simp; omega), List.getElem?_eq_none (by omega)]
    · by_cases h : o ≤ q ∧ q < o + (m.length + 1) ∧ q < l.length
      · rw [if_pos (by omega), if_pos h]
        obtain ⟨d, rfl⟩ : ∃ d, q = o + 1 + d := ⟨q - (o + 1), by omega⟩
        rw [show o + 1 + d - (o + 1) = d by omega, show o + 1 + d - o = d + 1 by omega, List.getElem?_cons_succ]
      · rw [if_neg (by omega), if_neg h, List.getElem?_set_ne (by omega)]

def tdl (x : Td) : List Value := .int .u64 x.id :: .int .i64 x.own.a :: .int .i64 x.own.m :: .int .i64 x.own.h :: .int .i64 x.own.d :: .int .u64 x.root.r :: .int .u64 x.root.c :: .int .u64 x.root.b :: .int .i64 x.root.p :: .int .i64 x.times.a :: .int .i64 x.times.m :: .int .i64 x.times.h :: .int .i64 x.times.d :: .int .i64 x.port :: flat x.cs

theorem tdl_len (x : Td) : (tdl x).length = 262 := by unfold tdl; simp only [List.length_cons, flat_len]

theorem tdl_flat (x : Td) (q : Nat) : (tdl x)[14 + q]? = (flat x.cs)[q]? := by
  unfold tdl
  rw [Nat.add_comm]
  simp only [List.getElem?_cons_succ]

theorem tdl_cs (x : Td) (i j : Nat) (hi : i < 8) (hj : j < 31) : (tdl x)[14 + i * 31 + j]? = (cdl (x.cs i))[j]? := by rw [Nat.add_assoc, tdl_flat, flat_get _ i j hi hj]

theorem tdl_ext (x : Td) (f : Nat → Cd) (h : ∀ i, i < 8 → x.cs i = f i) : tdl x = tdl { x with cs := f } := by unfold tdl; rw [flat_ext _ _ h]

theorem tdl_one (x : Td) : ∀ v ∈ tdl x, v.oneCell' = true := by
  unfold tdl
  intro v hv
  simp only [List.mem_cons] at hv
  rcases hv with rfl | rfl | rfl | rfl | rfl | rfl | rfl | rfl | rfl | rfl | rfl | rfl | rfl | rfl | hv
  case inr.inr.inr.inr.inr.inr.inr.inr.inr.inr.inr.inr.inr.inr => exact flatN_one _ 8 v hv
  all_goals rfl

/-- Two lists that agree ahead of the ports and at each port's cells. -/
theorem tdl_eq (x : Td) (l : List Value) (hl : l.length = 262) (h0 : ∀ q, q < 14 → l[q]? = (tdl x)[q]?) (h1 : ∀ i j, i < 8 → j < 31 → l[14 + i * 31 + j]? = (cdl (x.cs i))[j]?) : l = tdl x := by
  refine List.ext_getElem? fun q => ?_
  by_cases hq : q < 14
  · exact h0 q hq
  · by_cases hq2 : q < 262
    · obtain ⟨i, j, hi, hj, rfl⟩ : ∃ i j, i < 8 ∧ j < 31 ∧ q = 14 + i * 31 + j := ⟨(q - 14) / 31, (q - 14) % 31, by omega, by omega, by omega⟩
      rw [h1 i j hi hj, tdl_cs x i j hi hj]
    · rw [List.getElem?_eq_none (by omega), List.getElem?_eq_none (by rw [tdl_len]; omega)]

/-- A port stored whole. -/
theorem tdl_upd (x : Td) (i : Nat) (hi : i < 8) (c : Cd) : Bx.setL (tdl x) (14 + i * 31) (cdl c) = tdl { x with cs := upd x.cs i c } := by
  refine tdl_eq _ _ (by rw [setL_len, tdl_len]) (fun q hq => ?_) (fun a b ha hb => ?_)
  · rw [setL_get, if_neg (by omega)]
    unfold tdl
    match q, hq with
    | 0, _ => rfl
    | 1, _ => rfl
    | 2, _ => rfl
    | 3, _ => rfl
    | 4, _ => rfl
    | 5, _ => rfl
    | 6, _ => rfl
    | 7, _ => rfl
    | 8, _ => rfl
    | 9, _ => rfl
    | 10, _ => rfl
    | 11, _ => rfl
    | 12, _ => rfl
    | 13, _ => rfl
    | q + 14, h => omega
  · rw [setL_get, tdl_len, tdl_cs _ a b ha hb]
    have hc : (cdl c).length = 31 := rfl
    rw [hc]
    show _ = (cdl (upd x.cs i c a))[b]?
    unfold upd
    by_cases e : a = i
    · subst e
      rw [if_pos (by omega), if_pos rfl, Nat.add_sub_cancel_left]
    · rw [if_neg (by omega), if_neg e]

/-- One cell of a port stored. -/
theorem tdl_set (x : Td) (i j : Nat) (hi : i < 8) (hj : j < 31) (v : Value) (c : Cd) (h : (cdl (x.cs i)).set j v = cdl c) : (tdl x).set (14 + i * 31 + j) v = tdl { x with cs := upd x.cs i c } := by
  refine tdl_eq _ _ (by rw [List.length_set, tdl_len]) (fun q hq => ?_) (fun a b ha hb => ?_)
  · rw [List.getElem?_set_ne (by omega)]
    unfold tdl
    match q, hq with
    | 0, _ => rfl
    | 1, _ => rfl
    | 2, _ => rfl
    | 3, _ => rfl
    | 4, _ => rfl
    | 5, _ => rfl
    | 6, _ => rfl
    | 7, _ => rfl
    | 8, _ => rfl
    | 9, _ => rfl
    | 10, _ => rfl
    | 11, _ => rfl
    | 12, _ => rfl
    | 13, _ => rfl
    | q + 14, h => omega
  · show _ = (cdl (upd x.cs i c a))[b]?
    unfold upd
    by_cases e : a = i
    · subst e
      rw [if_pos rfl, ← h]
      by_cases e2 : b = j
      · subst e2
        rw [List.getElem?_set_self (by rw [tdl_len]; omega), List.getElem?_set_self (by exact hj)]
      · rw [List.getElem?_set_ne (by omega), List.getElem?_set_ne (by omega), tdl_cs _ a b ha hb]
    · rw [if_neg e, List.getElem?_set_ne (by omega), tdl_cs _ a b ha hb]

theorem flat_drop (f : Nat → Cd) (i : Nat) (hi : i < 8) : ((flat f).drop (i * 31)).take 31 = cdl (f i) := by
  refine List.ext_getElem? fun q => ?_
  by_cases hq : q < 31
  · rw [List.getElem?_take_of_lt hq, List.getElem?_drop, flat_get f i q hi hq]
  · rw [List.getElem?_eq_none (by rw [List.length_take]; omega), List.getElem?_eq_none (by show 31 ≤ q; omega)]

/-- Eight numbers. -/
def i8 (g : Nat → Int) : List Value := [.int .i64 (g 0), .int .i64 (g 1), .int .i64 (g 2), .int .i64 (g 3), .int .i64 (g 4), .int .i64 (g 5), .int .i64 (g 6), .int .i64 (g 7)]

theorem i8_get (g : Nat → Int) (i : Nat) (hi : i < 8) : (i8 g)[i]? = some (.int .i64 (g i)) := by
  match i, hi with
  | 0, _ => rfl
  | 1, _ => rfl
  | 2, _ => rfl
  | 3, _ => rfl
  | 4, _ => rfl
  | 5, _ => rfl
  | 6, _ => rfl
  | 7, _ => rfl
  | i + 8, h => omega

theorem i8_set (g g' : Nat → Int) (i : Nat) (hi : i < 8) (h : ∀ j, j < 8 → j ≠ i → g' j = g j) : (i8 g).set i (.int .i64 (g' i)) = i8 g' := by
  refine List.ext_getElem? fun q => ?_
  by_cases hq : q < 8
  · rw [i8_get g' q hq]
    by_cases e : q = i
    · subst e
      rw [List.getElem?_set_self (by exact hi)]
    · rw [List.getElem?_set_ne (by omega), i8_get g q hq, h q hq e]
  · rw [List.getElem?_eq_none (by rw [List.length_set]; show 8 ≤ q; omega), List.getElem?_eq_none (by show 8 ≤ q; omega)]

theorem i8_ext (g g' : Nat → Int) (h : ∀ j, j < 8 → g j = g' j) : i8 g = i8 g' := by
  unfold i8
  rw [h 0 (by omega), h 1 (by omega), h 2 (by omega), h 3 (by omega), h 4 (by omega), h 5 (by omega), h 6 (by omega), h 7 (by omega)]

end Tre
end Go.Proofs.Ytkjdnmlaehjmgaa
