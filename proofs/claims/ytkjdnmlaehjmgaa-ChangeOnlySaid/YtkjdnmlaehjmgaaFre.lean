/-
  A block that may be written (no program): its first cells and that none is frozen; what stays of it, what a store of a whole struct leaves.
-/
import Derived.Test.YtkjdnmlaehjmgaaBox
namespace Go.Proofs.Ytkjdnmlaehjmgaa
open Go.RowKit
namespace Bx

/-- A block that may be written: its first cells. -/
def Fre (W : World) (k : Nat) (l : List Value) : Prop := Blk W k l ∧ k < W.heap.size ∧ ∀ j, W.frozen? ⟨k, j, none⟩ = false

theorem Fre.new (W : World) (l : List Value) (t : TypeId) : Fre (W.alloc (.cells l.toArray t)) W.heap.size l := ⟨Blk.new W l t, by simp, fun j => World.frozen?_alloc_new W l.toArray t j⟩

theorem Fre.new_at {W : World} {k : Nat} (l : List Value) (t : TypeId) (hk : k = W.heap.size) : Fre (W.alloc (.cells l.toArray t)) k l := by subst hk; exact Fre.new W l t

theorem Fre.keep {W w1 : World} {k : Nat} {l : List Value} (h : Fre W k l) (hb : Below W.heap.size W w1) : Fre w1 k l :=
  ⟨h.1.keep hb, Nat.lt_of_lt_of_le h.2.1 hb.size, fun j => by rw [hb.frozen (p := ⟨k, j, none⟩) h.2.1]; exact h.2.2 j⟩

theorem Fre.more {W : World} {k : Nat} {l : List Value} (h : Fre W k l) (o : Obj) : Fre (W.alloc o) k l := h.keep (box_below W o)

theorem Fre.drew {W : World} {k : Nat} {l : List Value} (h : Fre W k l) : Fre W.drew k l := h

theorem Fre.set {W : World} {k : Nat} {l : List Value} (h : Fre W k l) (o : Nat) (x : Value) : Fre (W.setCell ⟨k, o, none⟩ x) k (l.set o x) := ⟨h.1.set o x, by simpa using h.2.1, fun j => by simpa using h.2.2 j⟩

theorem Fre.other {W : World} {k k' o : Nat} {l : List Value} {x : Value} (h : Fre W k l) (hne : k ≠ k') : Fre (W.setCell ⟨k', o, none⟩ x) k l := ⟨h.1.other hne, by simpa using h.2.1, fun j => by simpa using h.2.2 j⟩

theorem Fre.all1 {W : World} {k : Nat} {x0 : Value} (h : Fre W k [x0]) : (W.cell? ⟨k, 0, none⟩ = some x0) ∧ W.frozen? ⟨k, 0, none⟩ = false := ⟨h.1.all1, h.2.2 0⟩

theorem Fre.all2 {W : World} {k : Nat} {x0 x1 : Value} (h : Fre W k [x0, x1]) : (W.cell? ⟨k, 0, none⟩ = some x0 ∧ W.cell? ⟨k, 1, none⟩ = some x1) ∧ W.frozen? ⟨k, 0, none⟩ = false ∧ W.frozen? ⟨k, 1, none⟩ = false := ⟨h.1.all2, h.2.2 0, h.2.2 1⟩

theorem Fre.all3 {W : World} {k : Nat} {x0 x1 x2 : Value} (h : Fre W k [x0, x1, x2]) : (W.cell? ⟨k, 0, none⟩ = some x0 ∧ W.cell? ⟨k, 1, none⟩ = some x1 ∧ W.cell? ⟨k, 2, none⟩ = some x2) ∧ W.frozen? ⟨k, 0, none⟩ = false ∧ W.frozen? ⟨k, 1, none⟩ = false ∧ W.frozen? ⟨k, 2, none⟩ = false := ⟨h.1.all3, h.2.2 0, h.2.2 1, h.2.2 2⟩

theorem Fre.all4 {W : World} {k : Nat} {x0 x1 x2 x3 : Value} (h : Fre W k [x0, x1, x2, x3]) : (W.cell? ⟨k, 0, none⟩ = some x0 ∧ W.cell? ⟨k, 1, none⟩ = some x1 ∧ W.cell? ⟨k, 2, none⟩ = some x2 ∧ W.cell? ⟨k, 3, none⟩ = some x3) ∧ W.frozen? ⟨k, 0, none⟩ = false ∧ W.frozen? ⟨k, 1, none⟩ = false ∧ W.frozen? ⟨k, 2, none⟩ = false ∧ W.frozen? ⟨k, 3, none⟩ = false := ⟨h.1.all4, h.2.2 0, h.2.2 1, h.2.2 2, h.2.2 3⟩

theorem Fre.all5 {W : World} {k : Nat} {x0 x1 x2 x3 x4 : Value} (h : Fre W k [x0, x1, x2, x3, x4]) : (W.cell? ⟨k, 0, none⟩ = some x0 ∧ W.cell? ⟨k, 1, none⟩ = some x1 ∧ W.cell? ⟨k, 2, none⟩ = some x2 ∧ W.cell? ⟨k, 3, none⟩ = some x3 ∧ W.cell? ⟨k, 4, none⟩ = some x4) ∧ W.frozen? ⟨k, 0, none⟩ = false ∧ W.frozen? ⟨k, 1, none⟩ = false ∧ W.frozen? ⟨k, 2, none⟩ = false ∧ W.frozen? ⟨k, 3, none⟩ = false ∧ W.frozen? ⟨k, 4, none⟩ = false := ⟨h.1.all5, h.2.2 0, h.2.2 1, h.2.2 2, h.2.2 3, h.2.2 4⟩

theorem Fre.all6 {W : World} {k : Nat} {x0 x1 x2 x3 x4 x5 : Value} (h : Fre W k [x0, x1, x2, x3, x4, x5]) : (W.cell? ⟨k, 0, none⟩ = some x0 ∧ W.cell? ⟨k, 1, none⟩ = some x1 ∧ W.cell? ⟨k, 2, none⟩ = some x2 ∧ W.cell? ⟨k, 3, none⟩ = some x3 ∧ W.cell? ⟨k, 4, none⟩ = some x4 ∧ W.cell? ⟨k, 5, none⟩ = some x5) ∧ W.frozen? ⟨k, 0, none⟩ = false ∧ W.frozen? ⟨k, 1, none⟩ = false ∧ W.frozen? ⟨k, 2, none⟩ = false ∧ W.frozen? ⟨k, 3, none⟩ = false ∧ W.frozen? ⟨k, 4, none⟩ = false ∧ W.frozen? ⟨k, 5, none⟩ = false := ⟨h.1.all6, h.2.2 0, h.2.2 1, h.2.2 2, h.2.2 3, h.2.2 4, h.2.2 5⟩

theorem Fre.all7 {W : World} {k : Nat} {x0 x1 x2 x3 x4 x5 x6 : Value} (h : Fre W k [x0, x1, x2, x3, x4, x5, x6]) : (W.cell? ⟨k, 0, none⟩ = some x0 ∧ W.cell? ⟨k, 1, none⟩ = some x1 ∧ W.cell? ⟨k, 2, none⟩ = some x2 ∧ W.cell? ⟨k, 3, none⟩ = some x3 ∧ W.cell? ⟨k, 4, none⟩ = some x4 ∧ W.cell? ⟨k, 5, none⟩ = some x5 ∧ W.cell? ⟨k, 6, none⟩ = some x6) ∧ W.frozen? ⟨k, 0, none⟩ = false ∧ W.frozen? ⟨k, 1, none⟩ = false ∧ W.frozen? ⟨k, 2, none⟩ = false ∧ W.frozen? ⟨k, 3, none⟩ = false ∧ W.frozen? ⟨k, 4, none⟩ = false ∧ W.frozen? ⟨k, 5, none⟩ = false ∧ W.frozen? ⟨k, 6, none⟩ = false := ⟨h.1.all7, h.2.2 0, h.2.2 1, h.2.2 2, h.2.2 3, h.2.2 4, h.2.2 5, h.2.2 6⟩

theorem Fre.all8 {W : World} {k : Nat} {x0 x1 x2 x3 x4 x5 x6 x7 : Value} (h : Fre W k [x0, x1, x2, x3, x4, x5, x6, x7]) : (W.cell? ⟨k, 0, none⟩ = some x0 ∧ W.cell? ⟨k, 1, none⟩ = some x1 ∧ W.cell? ⟨k, 2, none⟩ = some x2 ∧ W.cell? ⟨k, 3, none⟩ = some x3 ∧ W.cell? ⟨k, 4, none⟩ = some x4 ∧ W.cell? ⟨k, 5, none⟩ = some x5 ∧ W.cell? ⟨k, 6, none⟩ = some x6 ∧ W.cell? ⟨k, 7, none⟩ = some x7) ∧ W.frozen? ⟨k, 0, none⟩ = false ∧ W.frozen? ⟨k, 1, none⟩ = false ∧ W.frozen? ⟨k, 2, none⟩ = false ∧ W.frozen? ⟨k, 3, none⟩ = false ∧ W.frozen? ⟨k, 4, none⟩ = false ∧ W.frozen? ⟨k, 5, none⟩ = false ∧ W.frozen? ⟨k, 6, none⟩ = false ∧ W.frozen? ⟨k, 7, none⟩ = false := ⟨h.1.all8, h.2.2 0, h.2.2 1, h.2.2 2, h.2.2 3, h.2.2 4, h.2.2 5, h.2.2 6, h.2.2 7⟩

theorem Blk.all17 {W : World} {k : Nat} {x0 x1 x2 x3 x4 x5 x6 x7 x8 x9 x10 x11 x12 x13 x14 x15 x16 : Value} (h : Blk W k [x0, x1, x2, x3, x4, x5, x6, x7, x8, x9, x10, x11, x12, x13, x14, x15, x16]) : W.cell? ⟨k, 0, none⟩ = some x0 ∧ W.cell? ⟨k, 1, none⟩ = some x1 ∧ W.cell? ⟨k, 2, none⟩ = some x2 ∧ W.cell? ⟨k, 3, none⟩ = some x3 ∧ W.cell? ⟨k, 4, none⟩ = some x4 ∧ W.cell? ⟨k, 5, none⟩ = some x5 ∧ W.cell? ⟨k, 6, none⟩ = some x6 ∧ W.cell? ⟨k, 7, none⟩ = some x7 ∧ W.cell? ⟨k, 8, none⟩ = some x8 ∧ W.cell? ⟨k, 9, none⟩ = some x9 ∧ W.cell? ⟨k, 10, none⟩ = some x10 ∧ W.cell? ⟨k, 11, none⟩ = some x11 ∧ W.cell? ⟨k, 12, none⟩ = some x12 ∧ W.cell? ⟨k, 13, none⟩ = some x13 ∧ W.cell? ⟨k, 14, none⟩ = some x14 ∧ W.cell? ⟨k, 15, none⟩ = some x15 ∧ W.cell? ⟨k, 16, none⟩ = some x16 := ⟨h.at 0 rfl, h.at 1 rfl, h.at 2 rfl, h.at 3 rfl, h.at 4 rfl, h.at 5 rfl, h.at 6 rfl, h.at 7 rfl, h.at 8 rfl, h.at 9 rfl, h.at 10 rfl, h.at 11 rfl, h.at 12 rfl, h.at 13 rfl, h.at 14 rfl, h.at 15 rfl, h.at 16 rfl⟩

end Bx
end Go.Proofs.Ytkjdnmlaehjmgaa
