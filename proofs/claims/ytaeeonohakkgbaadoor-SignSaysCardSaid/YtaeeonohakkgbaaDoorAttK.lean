/-
  What attr.Read reads of any text: its loop.
-/
import Derived.Test.YtaeeonohakkgbaaDoorAttJ
import Derived.Test.YtaeeonohakkgbaaDoorAttH
import Derived.Test.YtaeeonohakkgbaaDoorAttF
namespace Go.Proofs.YtaeeonohakkgbaaDoor
open Go.RowKit
namespace Att
open Oct

def strSz : Value → Nat
  | .string b => b.size
  | _ => 0

theorem size_zero {b : ByteArray} (h : b.size = 0) : b = ⟨#[]⟩ := by
  obtain ⟨⟨l⟩⟩ := b
  match l, h with
  | [], _ => rfl

theorem full_list {b : ByteArray} (h : b.size ≠ 0) : b.toList.isEmpty = false := by
  rw [ByteArray.toList_eq]
  cases hl : b.data.toList with
  | nil => exact absurd (by show b.data.size = 0; rw [← Array.length_toList, hl]; rfl) h
  | cons _ _ => rfl

theorem at_next {w : World} {base : Nat} {v : Value} {o : List At} {x : At} {e : TypeId} (h : w.ownsRow base e 2 v (o.length + 1) (o.flatMap enc ++ [.int .i64 x.1, .string x.2])) : ∃ B c, v = .slice B (o ++ [x]).length c ∧ w.ownsRow base e 2 (.slice B (o ++ [x]).length c) (o ++ [x]).length ((o ++ [x]).flatMap enc) := by
  obtain ⟨B, c, rfl⟩ := at_form h
  refine ⟨B, c, by simp, ?_⟩
  have e1 : (o ++ [x]).flatMap enc = o.flatMap enc ++ [.int .i64 x.1, .string x.2] := by simp [enc]
  rw [e1]
  simpa using h

/-- What stands first, and what is read on. -/
theorem head_bad (t : ByteArray) (m : Nat) (o : List At) (h0 : t.size ≠ 0) (h : (headE t).1 ≠ 0) : readL (m + 1) t.data.toList o = ((headE t).1, []) ∧ (headE t).2 = (0, ⟨#[]⟩) ∧ ((headE t).1 = 2 ∨ (headE t).1 = 3) := by
  unfold headE at h ⊢
  by_cases h2 : 2 ≤ t.size
  · rw [dif_pos h2] at h ⊢
    by_cases hf : t[0].toNat < 1 ∨ t[1].toNat < 2
    · rw [if_pos hf]
      exact ⟨readL_form m t h2 hf o, rfl, .inr rfl⟩
    · rw [if_neg hf] at h ⊢
      by_cases hs : t.size < t[1].toNat
      · rw [if_pos hs]
        exact ⟨readL_short m t h2 hf hs o, rfl, .inl rfl⟩
      · rw [if_neg hs] at h
        exact absurd rfl h
  · rw [dif_neg h2]
    exact ⟨readL_one m t (by omega) o, rfl, .inl rfl⟩

theorem head_ok (t : ByteArray) (m : Nat) (o : List At) (h : (headE t).1 = 0) : 2 + (headE t).2.2.size ≤ t.size ∧ (headE t).2.2.size ≤ 253 ∧ readL (m + 1) t.data.toList o = readL m (t.extract (2 + (headE t).2.2.size) t.size).data.toList (o ++ [(headE t).2]) := by
  unfold headE at h ⊢
  by_cases h2 : 2 ≤ t.size
  · rw [dif_pos h2] at h ⊢
    by_cases hf : t[0].toNat < 1 ∨ t[1].toNat < 2
    · rw [if_pos hf] at h
      cases h
    · rw [if_neg hf] at h ⊢
      by_cases hs : t.size < t[1].toNat
      · rw [if_pos hs] at h
        cases h
      · rw [if_neg hs]
        have hb := t[1].toNat_lt
        have e : (t.extract 2 t[1].toNat).size = t[1].toNat - 2 := by rw [ByteArray.size_extract]; omega
        simp only [e]
        have e2 : 2 + (t[1].toNat - 2) = t[1].toNat := by omega
        rw [e2]
        exact ⟨by omega, by omega, readL_next m t h2 hf hs o⟩
  · rw [dif_neg h2] at h
    cases h

theorem pair_behind (w : World) (x : Int) (y : ByteArray) (t : TypeId) : ∀ j u, [Value.int .i64 x, .string y][j]? = some u → (w.alloc (Obj.cells #[.int .i64 x, .string y] t)).cell? (Addr.add ⟨w.heap.size, 0, none⟩ j) = some u := by
  intro j u hj
  rw [Addr.add_lit, Nat.zero_add, World.cell?_alloc_new]
  simpa using hj

theorem pair_behind2 (w : World) (o : Obj) (x : Int) (y : ByteArray) (t : TypeId) : ∀ j u, [Value.int .i64 x, .string y][j]? = some u → ((w.alloc o).alloc (Obj.cells #[.int .i64 x, .string y] t)).cell? (Addr.add ⟨w.heap.size + 1, 0, none⟩ j) = some u := by
  have e := pair_behind (w.alloc o) x y t
  rwa [World.size_alloc] at e

/-- A slice that lies in memory made since. -/
def New (base : Nat) (A : Option Addr) : Prop := ∀ b o, A = some ⟨b, o, none⟩ → base ≤ b

theorem new_none (base : Nat) : New base none := fun _ _ h => nomatch h

theorem own_new {w : World} {base n c : Nat} {e : TypeId} {B : Option Addr} {xs : List Value} (h : w.ownsRow base e 2 (.slice B n c) n xs) : New base B := fun b o e => (h.lt b (by subst e; rfl)).1

/-- What a call hands back that makes a slice anew, and an error. -/
def GivesF (l : List At) (c : Int) (w : World) (e : Ending) (w' : World) : Prop := ∃ A cap, e = .returned (.tuple #[.slice A l.length cap, .int .i64 c]) ∧ Ats w' A l ∧ New w.heap.size A ∧ Below w.heap.size w w'

end Att
end Go.Proofs.YtaeeonohakkgbaaDoor
