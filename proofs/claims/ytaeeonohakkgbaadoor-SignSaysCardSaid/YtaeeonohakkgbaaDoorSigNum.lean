/-
  Who signed a packet, as plain data (no program): the two sums, a request and a reply with them, what a check finds; and that a reply passes.
-/
import Derived.Test.YtaeeonohakkgbaaDoorPacE
import Derived.Test.YtaeeonohakkgbaaDoorKeyB
namespace Go.Proofs.YtaeeonohakkgbaaDoor
namespace Sig
open Oct Att Pac Key

/-- Sixteen bytes 0. -/
def Z : ByteArray := padS ⟨#[]⟩ 16

theorem Z_size : Z.size = 16 := by decide +kernel

/-- The error, and the sum that is laid in an attribute. -/
def mE (c i : Int) (u : ByteArray) (l : List At) : Int := errP c i u (putA l 80 Z)
def mT (c i : Int) (u : ByteArray) (l : List At) (k : ByteArray) : ByteArray := if mE c i u l = 0 then keyS k (txtP c i u (putA l 80 Z)) else ⟨#[]⟩
/-- The error is errP's; the sum that is laid in the authenticator. -/
def rT (c i : Int) (u : ByteArray) (l : List At) (k : ByteArray) : ByteArray := if errP c i u l = 0 then sumS (txtP c i u l ++ k) else ⟨#[]⟩

def signP (c i : Int) (a : ByteArray) (l : List At) (u k : ByteArray) : Rd := if mE c i u l = 0 then ⟨0, c, i, a, putA l 80 (mT c i u l k)⟩ else noR (mE c i u l)
def replyP (c i : Int) (l : List At) (u k : ByteArray) : Rd := if mE c i u l = 0 then ⟨0, c, i, rT c i u (putA l 80 (mT c i u l k)) k, putA l 80 (mT c i u l k)⟩ else noR (mE c i u l)

/-- What a check finds. -/
def chkP (c i : Int) (a : ByteArray) (l : List At) (u k : ByteArray) : Int :=
  if rightP c i a l = true ∧ u.size = 16 then
    (match allV l 80 with
    | [] => 6
    | [m] => if m.size = 16 then (if ((a.data.toList == (rT c i u l k).data.toList) && (m.data.toList == (mT c i u l k).data.toList)) = true then 0 else 5) else 3
    | _ => 3)
  else 1

theorem key_size (k s : ByteArray) : (keyS k s).size = 16 := sumS_size _

theorem err_two (c i : Int) (u : ByteArray) (l : List At) : errP c i u l = 0 ∨ errP c i u l = 1 := by
  unfold errP
  split <;> simp

theorem err_zero {c i : Int} {u : ByteArray} {l : List At} : errP c i u l = 0 ↔ rightP c i u l = true := by
  unfold errP
  split <;> simp_all

theorem mE_two (c i : Int) (u : ByteArray) (l : List At) : mE c i u l = 0 ∨ mE c i u l = 1 := err_two _ _ _ _

theorem put_len (l : List At) (k : Int) (v m : ByteArray) : (putA l k v).length = (putA l k m).length := by
  induction l with
  | nil => rfl
  | cons x l ih =>
    rw [putA, putA]
    split
    · rfl
    · rw [List.length_cons, List.length_cons, ih]

theorem put_all (l : List At) (k : Int) (v m : ByteArray) (h : v.size = m.size) : (putA l k v).all rightA = (putA l k m).all rightA := by
  have e : rightA (k, v) = rightA (k, m) := by unfold rightA; rw [h]
  induction l with
  | nil => rw [putA, putA, List.all_cons, List.all_cons, e]
  | cons x l ih =>
    rw [putA, putA]
    split
    · rw [List.all_cons, List.all_cons, e]
    · rw [List.all_cons, List.all_cons, ih]

theorem put_wire (l : List At) (k : Int) (v m : ByteArray) (h : v.size = m.size) : (wireA (putA l k v)).length = (wireA (putA l k m)).length := by
  have e (t : List At) : (wireA ((k, v) :: t)).length = (wireA ((k, m) :: t)).length := by
    unfold wireA
    rw [List.map_cons, List.map_cons, List.flatten_cons, List.flatten_cons, List.length_append, List.length_append, oneW_length, oneW_length, h]
  induction l with
  | nil => exact e []
  | cons x l ih =>
    rw [putA, putA]
    split
    · exact e l
    · unfold wireA at *
      rw [List.map_cons, List.map_cons, List.flatten_cons, List.flatten_cons, List.length_append, List.length_append, ih]

/-- A packet stays right where a value of the same length stands, and another authenticator of sixteen bytes. -/
theorem right_put {c i : Int} {u a : ByteArray} {l : List At} {k : Int} {v m : ByteArray} (h : v.size = m.size) (ha : a.size = 16) (hr : rightP c i u (putA l k v) = true) : rightP c i a (putA l k m) = true := by
  obtain ⟨⟨h1, h2, _⟩, h3, h4⟩ := Pac.right_iff.1 hr
  have e : bytesE (putA l k m) = 0 := by
    rw [← h3]
    unfold bytesE
    rw [put_len l k m v, put_all l k m v h.symm]
  refine Pac.right_iff.2 ⟨⟨h1, h2, ha⟩, e, ?_⟩
  unfold bytesT at h4 ⊢
  rw [if_pos h3] at h4
  rw [if_pos e]
  show (wireA (putA l k m)).toArray.size ≤ 4076
  rw [List.size_toArray, put_wire l k m v h.symm]
  have : (wireA (putA l k v)).toArray.size ≤ 4076 := h4
  rwa [List.size_toArray] at this

theorem put_put (l : List At) (k : Int) (v m : ByteArray) : putA (putA l k v) k m = putA l k m := by
  induction l with
  | nil => simp [putA]
  | cons x l ih =>
    rw [putA, putA]
    split
    · rw [putA, if_pos rfl]
    · rename_i h
      rw [putA, if_neg h, ih]

theorem out_put (l : List At) (k : Int) (v : ByteArray) : outA (putA l k v) k = outA l k := by
  unfold outA
  induction l with
  | nil => simp [putA]
  | cons x l ih =>
    rw [putA]
    split
    · rename_i h
      simp [h]
    · rename_i h
      rw [List.filter_cons_of_pos (by simpa using h), List.filter_cons_of_pos (by simpa using h), ih]

theorem out_out (l : List At) (k : Int) : outA (outA l k) k = outA l k := by
  unfold outA
  rw [List.filter_filter]
  simp

theorem all_put_out (l : List At) (k : Int) (v : ByteArray) : allV (putA (outA l k) k v) k = [v] := by
  have e : ∀ t : List At, (∀ x ∈ t, x.1 ≠ k) → allV (putA t k v) k = [v] := by
    intro t
    induction t with
    | nil => intro _; simp [putA, allV]
    | cons x t ih =>
      intro h
      have h1 := h x (by simp)
      have h2 := ih fun y hy => h y (by simp [hy])
      rw [putA, if_neg h1]
      unfold allV at h2 ⊢
      rw [List.filter_cons_of_neg (by simpa using h1), h2]
  apply e
  intro x hx
  unfold outA at hx
  have := (List.mem_filter.1 hx).2
  simpa using this

/-- Whatever error there is, it says that an argument may not be. -/
theorem reply_error (c i : Int) (l : List At) (u k : ByteArray) (h : ¬ mE c i u l = 0) : replyP c i l u k = noR 1 := by
  rcases mE_two c i u l with h1 | h1
  · exact absurd h1 h
  · unfold replyP
    rw [if_neg h, h1]

theorem mT_size {c i : Int} {u : ByteArray} {l : List At} (k : ByteArray) (h : mE c i u l = 0) : (mT c i u l k).size = 16 := by
  unfold mT
  rw [if_pos h]
  exact key_size _ _

theorem err_put {c i : Int} {u : ByteArray} {l : List At} (k : ByteArray) (h : mE c i u l = 0) : errP c i u (putA l 80 (mT c i u l k)) = 0 := by
  have h1 := err_zero.1 h
  exact err_zero.2 (right_put (by rw [Z_size, mT_size k h]) (Pac.right_iff.1 h1).1.2.2 h1)

/-- A reply passes. -/
theorem passes {c i : Int} {u : ByteArray} {l : List At} (k : ByteArray) (h : mE c i u (outA l 80) = 0) :
    chkP c i (rT c i u (putA (outA l 80) 80 (mT c i u (outA l 80) k)) k) (putA (outA l 80) 80 (mT c i u (outA l 80) k)) u k = 0 := by
  have h1 := err_zero.1 h
  have hm := mT_size k h
  have he := err_put k h
  have hu := (Pac.right_iff.1 h1).1.2.2
  have hr : (rT c i u (putA (outA l 80) 80 (mT c i u (outA l 80) k)) k).size = 16 := by
    unfold rT
    rw [if_pos he]
    exact sumS_size _
  have e : mT c i u (putA (outA l 80) 80 (mT c i u (outA l 80) k)) k = mT c i u (outA l 80) k := by
    conv => lhs; unfold mT mE
    rw [put_put]
    rfl
  unfold chkP
  rw [if_pos ⟨right_put (by rw [Z_size, hm]) hr h1, hu⟩, all_put_out]
  simp only [hm, if_pos, e, beq_self_eq_true, Bool.and_self]

end Sig
end Go.Proofs.YtaeeonohakkgbaaDoor
