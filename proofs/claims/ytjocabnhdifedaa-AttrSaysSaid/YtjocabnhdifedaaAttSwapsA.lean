/-
  Plain facts on attributes exchanged: what they count, how long they are, exchanged twice; and how long what is written is.
-/
import Derived.Test.YtjocabnhdifedaaAttH
import Derived.Test.YtjocabnhdifedaaAttF
namespace Go.Proofs.Ytjocabnhdifedaa
open Go.RowKit
namespace Att
open Oct

theorem swapA_perm (l : List At) (i k : Int) : (swapA l i k).Perm l := by
  by_cases h : 0 ≤ i ∧ i < l.length ∧ 0 ≤ k ∧ k < l.length
  · obtain ⟨i', rfl⟩ := Int.eq_ofNat_of_zero_le h.1
    obtain ⟨k', rfl⟩ := Int.eq_ofNat_of_zero_le h.2.2.1
    have hi : i' < l.length := by omega
    have hk : k' < l.length := by omega
    rw [swapA_is l i' k' hi hk l[i'] l[k'] (List.getElem?_eq_getElem hi) (List.getElem?_eq_getElem hk)]
    exact List.set_set_perm hi hk
  · unfold swapA
    rw [if_neg h]

theorem count_swap (l : List At) (i k n : Int) : (allV (swapA l i k) n).length = (allV l n).length := by
  unfold allV
  rw [List.length_map, List.length_map]
  exact ((swapA_perm l i k).filter _).length_eq

def sumA (l : List At) : Nat := (l.map (fun a => 2 + a.2.size)).sum

theorem lg_fold : ∀ (l : List At) (n : Int), l.foldl (fun n a => wrap64 (n + wrap64 (2 + a.2.size))) (wrap64 n) = wrap64 (n + sumA l)
  | [], n => by
    rw [List.foldl_nil, show sumA [] = 0 from rfl, show n + ((0 : Nat) : Int) = n by omega]
  | a :: l, n => by
    have e : wrap64 (wrap64 n + wrap64 (2 + a.2.size)) = wrap64 (n + (2 + a.2.size)) := by unfold wrap64; omega
    rw [List.foldl_cons, e, lg_fold l _]
    have e2 : sumA (a :: l) = (2 + a.2.size) + sumA l := by unfold sumA; rw [List.map_cons, List.sum_cons]
    rw [e2]
    congr 1
    omega

theorem lgA_sum (l : List At) : lgA l = wrap64 (sumA l) := by
  have e := lg_fold l 0
  rw [show wrap64 0 = 0 from IntWalk.wrap64_in 0 (by omega), show (0 : Int) + (sumA l : Int) = sumA l by omega] at e
  exact e

theorem lgA_swap (l : List At) (i k : Int) : lgA (swapA l i k) = lgA l := by
  rw [lgA_sum, lgA_sum]
  have e : sumA (swapA l i k) = sumA l := ((swapA_perm l i k).map _).sum_nat
  rw [e]

theorem swapA_twice (l : List At) (i k : Int) : swapA (swapA l i k) i k = l := by
  by_cases h : 0 ≤ i ∧ i < l.length ∧ 0 ≤ k ∧ k < l.length
  · obtain ⟨i', rfl⟩ := Int.eq_ofNat_of_zero_le h.1
    obtain ⟨k', rfl⟩ := Int.eq_ofNat_of_zero_le h.2.2.1
    have hi : i' < l.length := by omega
    have hk : k' < l.length := by omega
    have hx := List.getElem?_eq_getElem hi
    have hy := List.getElem?_eq_getElem hk
    generalize l[i'] = x at *
    generalize l[k'] = y at *
    rw [swapA_is l i' k' hi hk x y hx hy]
    have hk2 : k' < (l.set i' y).length := by rw [List.length_set]; exact hk
    have s2 : ((l.set i' y).set k' x)[k']? = some x := List.getElem?_set_self hk2
    have s1 : ((l.set i' y).set k' x)[i']? = some y := by
      by_cases e : k' = i'
      · subst e
        rw [s2]
        rw [hx] at hy
        exact hy
      · rw [List.getElem?_set_ne e, List.getElem?_set_self hi]
    rw [swapA_is _ i' k' (by rw [List.length_set, List.length_set]; exact hi) (by rw [List.length_set, List.length_set]; exact hk) y x s1 s2]
    apply List.ext_getElem?
    intro j
    by_cases e1 : k' = j
    · subst e1
      rw [List.getElem?_set_self (by simp [hk]), hy]
    · rw [List.getElem?_set_ne e1]
      by_cases e2 : i' = j
      · subst e2
        rw [List.getElem?_set_self (by simp [hi]), hx]
      · rw [List.getElem?_set_ne e2, List.getElem?_set_ne e1, List.getElem?_set_ne e2]
  · have e : swapA l i k = l := if_neg h
    rw [e, e]

theorem wire_sum (l : List At) : (wireA l).length = sumA l := by
  induction l with
  | nil => rfl
  | cons a l ih =>
    show (oneW a ++ wireA l).length = _
    rw [List.length_append, oneW_length, ih]
    unfold sumA
    rw [List.map_cons, List.sum_cons]

/-- What is written is as long as is told. -/
theorem bytes_long (l : List At) (h : bytesE l = 0) : ((bytesT l).size : Int) = lgA l := by
  have e : (bytesT l).size = (wireA l).length := by
    unfold bytesT
    rw [if_pos h]
    exact List.size_toArray
  obtain ⟨h1, h2⟩ := bytesE_zero h
  have hb : sumA l ≤ 255 * l.length := by
    clear h h1 e
    induction l with
    | nil => exact Nat.le_refl _
    | cons a l ih =>
      rw [List.all_cons, Bool.and_eq_true] at h2
      have h3 := ih h2.2
      have h4 := ((right_iff a).1 h2.1).2.2
      have e2 : sumA (a :: l) = (2 + a.2.size) + sumA l := by unfold sumA; rw [List.map_cons, List.sum_cons]
      rw [e2, List.length_cons]
      omega
  rw [e, wire_sum, lgA_sum, IntWalk.wrap64_in _ (by omega)]

theorem longB_le : ∀ (l : List At) (i : Nat) (n : Int), longB i n l = false → i ≤ 81 → i + l.length ≤ 81
  | [], i, _, _, h => by simpa using h
  | a :: l, i, n, h, _ => by
    rw [longB] at h
    split at h
    · cases h
    · rename_i h2
      have := longB_le l (i + 1) _ h (by omega)
      rw [List.length_cons]
      omega

end Att
end Go.Proofs.Ytjocabnhdifedaa
