/-
  An address that is learnt twice, as plain data: the second time it is taken, it is there once, and all others are as they were.
-/
import Derived.Test.YtfnjgjehmddkcaaTabInv
namespace Go.Proofs.Ytfnjgjehmddkcaa
namespace Tab

theorem ins_key (v : Int) (m : Nat) (p : Int) (r : List En) (hr : ∀ x ∈ r, isK v m x = false) : rest v m (insL r ⟨v, m, p, 0⟩) = r := by
  have hk : isK v m ⟨v, m, p, 0⟩ = true := (isK_iff _ _ _).2 ⟨rfl, rfl⟩
  unfold rest insL
  rw [List.filter_append, List.filter_cons, hk]
  have h1 : (r.take (behF 0 0 r ⟨v, m, p, 0⟩)).filter (fun e => !isK v m e) = r.take (behF 0 0 r ⟨v, m, p, 0⟩) := List.filter_eq_self.2 fun x hx => by rw [hr x (List.mem_of_mem_take hx)]; rfl
  have h2 : (r.drop (behF 0 0 r ⟨v, m, p, 0⟩)).filter (fun e => !isK v m e) = r.drop (behF 0 0 r ⟨v, m, p, 0⟩) := List.filter_eq_self.2 fun x hx => by rw [hr x (List.mem_of_mem_drop hx)]; rfl
  rw [h1, h2]
  exact List.take_append_drop _ _

theorem ins_count (v : Int) (m : Nat) (p : Int) (r : List En) (hr : ∀ x ∈ r, isK v m x = false) : (insL r ⟨v, m, p, 0⟩).countP (isK v m) = 1 := by
  have hk : isK v m ⟨v, m, p, 0⟩ = true := (isK_iff _ _ _).2 ⟨rfl, rfl⟩
  unfold insL
  rw [List.countP_append, List.countP_cons_of_pos hk]
  have h1 : (r.take (behF 0 0 r ⟨v, m, p, 0⟩)).countP (isK v m) = 0 := List.countP_eq_zero.2 fun x hx => by rw [hr x (List.mem_of_mem_take hx)]; simp
  have h2 : (r.drop (behF 0 0 r ⟨v, m, p, 0⟩)).countP (isK v m) = 0 := List.countP_eq_zero.2 fun x hx => by rw [hr x (List.mem_of_mem_drop hx)]; simp
  rw [h1, h2]

variable {most long : Int} {l : List En} {v : Int} {m : Nat} {p q : Int}

theorem again_err (he : learnE most l v m p = 0) (hq : rightP q = true) : learnE most (learnL most l v m p) v m q = 0 := by
  obtain ⟨h1, h2, h3, _, _⟩ := learn_right he
  rw [learn_ok he]
  unfold learnE
  rw [h1, h2, h3, hq, ins_key v m p _ (rest_key v m l), ins_length]
  simp

theorem again_list (he : learnE most l v m p = 0) (hq : rightP q = true) : learnL most (learnL most l v m p) v m q = insL (rest v m l) ⟨v, m, q, 0⟩ := by
  rw [learn_ok (again_err he hq), learn_ok he, ins_key v m p _ (rest_key v m l)]

theorem again_len (he : learnE most l v m p = 0) (hq : rightP q = true) : (learnL most (learnL most l v m p) v m q).length = (learnL most l v m p).length := by
  rw [again_list he hq, learn_ok he, ins_length, ins_length]

theorem again_one (he : learnE most l v m p = 0) (hq : rightP q = true) : (learnL most (learnL most l v m p) v m q).countP (isK v m) = 1 := by
  rw [again_list he hq]
  exact ins_count v m q _ (rest_key v m l)

theorem again_rest (hs : Snd most long l) (he : learnE most l v m p = 0) (hq : rightP q = true) : ∀ y ∈ learnL most (learnL most l v m p) v m q, isK v m y = true ∨ (isK v m y = false ∧ gotE l y.v y.m = y ∧ isE l y.v y.m = true) := fun y hy => by
  rw [again_list he hq] at hy
  rcases ins_mem.1 hy with rfl | hy
  · exact .inl ((isK_iff _ _ _).2 ⟨rfl, rfl⟩)
  · have h1 := rest_key v m l y hy
    have h2 : findE l y.v y.m = some y := find_mem hs.srt (List.mem_filter.1 hy).1
    exact .inr ⟨h1, by unfold gotE; rw [h2]; rfl, by unfold isE; rw [h2]; rfl⟩

theorem again_found (hs : Snd most long l) (hL : 1 ≤ long) (he : learnE most l v m p = 0) (hq : rightP q = true) : gotE (learnL most (learnL most l v m p) v m q) v m = ⟨v, m, q, 0⟩ ∧ isE (learnL most (learnL most l v m p) v m q) v m = true := by
  have h := learn_find (hs.learn hL v m p) hL (again_err he hq)
  unfold gotE isE
  rw [h]
  exact ⟨rfl, rfl⟩

/-- How many of the first j have that VLAN and address. -/
def cntK (v : Int) (m : Nat) (l : List En) (j : Nat) : Nat := (l.take j).countP (isK v m)
theorem cnt_none (v : Int) (m : Nat) (l : List En) : cntK v m l 0 = 0 := rfl
theorem cnt_yes {j : Nat} (hj : j < l.length) (h : isK v m l[j] = true) : cntK v m l (j + 1) = cntK v m l j + 1 := by
  unfold cntK
  rw [List.take_succ_eq_append_getElem hj, List.countP_append, List.countP_cons_of_pos h]
  rfl
theorem cnt_no {j : Nat} (hj : j < l.length) (h : isK v m l[j] = false) : cntK v m l (j + 1) = cntK v m l j := by
  unfold cntK
  rw [List.take_succ_eq_append_getElem hj, List.countP_append, List.countP_cons_of_neg (by rw [h]; simp)]
  rfl
theorem cnt_le (v : Int) (m : Nat) (l : List En) (j : Nat) : cntK v m l j ≤ l.length := by
  unfold cntK
  exact Nat.le_trans List.countP_le_length (List.length_take_le' _ _)
theorem cnt_all (v : Int) (m : Nat) (l : List En) : cntK v m l l.length = l.countP (isK v m) := by unfold cntK; rw [List.take_length]

end Tab
end Go.Proofs.Ytfnjgjehmddkcaa
