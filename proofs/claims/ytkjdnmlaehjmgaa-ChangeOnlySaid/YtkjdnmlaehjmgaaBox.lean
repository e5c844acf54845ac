/-
  Cells that stand in a block of memory: what stays of them behind a call that makes memory, behind a new block, and behind a store elsewhere. (No program.)
-/
import Derived.WalkKit
import Derived.Below
import Derived.Laws.World
namespace Go.Proofs.Ytkjdnmlaehjmgaa
open Go.RowKit
namespace Bx

theorem keep_cell {W w1 : World} {g o : Nat} {v : Value} (hb : Below W.heap.size W w1) (h : W.cell? ⟨g, o, none⟩ = some v) : w1.cell? ⟨g, o, none⟩ = some v := (hb.cell (p := ⟨g, o, none⟩) (World.block_lt_of_cell? _ _ h)).trans h

theorem then_below {a b c : World} (h1 : Below a.heap.size a b) (h2 : Below b.heap.size b c) : Below a.heap.size a c := h1.trans (h2.mono h1.size)

theorem bel_drew {a b c : World} (h1 : Below a.heap.size a b) (h2 : Below b.drew.heap.size b.drew c) : Below a.heap.size a c := h1.drew.trans (h2.mono h1.size)

theorem bel_drewn {a b : World} (h1 : Below a.heap.size a b) : Below a.heap.size a b.drew := h1.drew

theorem box_below (w : World) (o : Obj) : Below w.heap.size w (w.alloc o) := (Below.refl _ _).alloc (Nat.le_refl _) _

theorem bel_box {a w : World} (h : Below a.heap.size a w) (o : Obj) : Below a.heap.size a (w.alloc o) := h.alloc h.size o

theorem bel_refl (w : World) : Below w.heap.size w w := Below.refl _ _

theorem bcell {W w1 : World} (hb : Below W.heap.size W w1) : (∀ b o, b < W.heap.size → w1.cell? ⟨b, o, none⟩ = W.cell? ⟨b, o, none⟩) ∧ (∀ b o, b < W.heap.size → w1.frozen? ⟨b, o, none⟩ = W.frozen? ⟨b, o, none⟩) :=
  ⟨fun b o h => hb.cell (p := ⟨b, o, none⟩) h, fun b o h => hb.frozen (p := ⟨b, o, none⟩) h⟩

theorem cell_set (W : World) (b o b' o' : Nat) (v : Value) : (W.setCell ⟨b, o, none⟩ v).cell? ⟨b', o', none⟩ = if b = b' ∧ o = o' then (W.cell? ⟨b', o', none⟩).map (fun _ => v) else W.cell? ⟨b', o', none⟩ := by
  split
  · rename_i h
    obtain ⟨rfl, rfl⟩ := h
    cases hc : W.cell? ⟨b, o, none⟩ with
    | some u => rw [World.cell?_setCell_same _ _ _ hc]; rfl
    | none =>
      simp only [World.setCell, World.cell?, Array.getElem?_modify, ↓reduceIte] at hc ⊢
      cases hh : W.heap[b]? with
      | none => simp
      | some ob => cases ob <;> simp_all
  · rename_i h
    exact World.cell?_setCell_other _ _ _ _ (by intro e; cases e; exact h ⟨rfl, rfl⟩)

/-- The first cells of a block. -/
def Blk (W : World) (k : Nat) (l : List Value) : Prop := ∀ j v, l[j]? = some v → W.cell? ⟨k, j, none⟩ = some v

theorem Blk.at {W : World} {k : Nat} {l : List Value} (h : Blk W k l) (j : Nat) {v : Value} (hv : l[j]? = some v) : W.cell? ⟨k, j, none⟩ = some v := h j v hv

theorem Blk.keep {W w1 : World} {k : Nat} {l : List Value} (h : Blk W k l) (hb : Below W.heap.size W w1) : Blk w1 k l := fun j v hv => keep_cell hb (h j v hv)

theorem Blk.drew {W : World} {k : Nat} {l : List Value} (h : Blk W k l) : Blk W.drew k l := h

theorem Blk.more {W : World} {k : Nat} {l : List Value} (h : Blk W k l) (o : Obj) : Blk (W.alloc o) k l := h.keep (box_below W o)

theorem Blk.new (W : World) (l : List Value) (t : TypeId) : Blk (W.alloc (.cells l.toArray t)) W.heap.size l := fun j v hv => by
  rw [World.cell?_alloc_new]
  simpa using hv

theorem Blk.new_at {W : World} {k : Nat} (l : List Value) (t : TypeId) (hk : k = W.heap.size) : Blk (W.alloc (.cells l.toArray t)) k l := by subst hk; exact Blk.new W l t

theorem Blk.lt {W : World} {k : Nat} {l : List Value} (h : Blk W k l) (h0 : 0 < l.length) : k < W.heap.size := World.block_lt_of_cell? _ _ (h 0 _ (List.getElem?_eq_getElem h0))

theorem Blk.other {W : World} {k k' o : Nat} {l : List Value} {x : Value} (h : Blk W k l) (hne : k ≠ k') : Blk (W.setCell ⟨k', o, none⟩ x) k l := fun j v hv => by rw [cell_set, if_neg (by omega)]; exact h j v hv

/-- A store into one of the cells. -/
theorem Blk.set {W : World} {k : Nat} {l : List Value} (h : Blk W k l) (o : Nat) (x : Value) : Blk (W.setCell ⟨k, o, none⟩ x) k (l.set o x) := fun j v hv => by
  rw [cell_set]
  by_cases e : o = j
  · subst e
    rw [if_pos ⟨rfl, rfl⟩]
    rw [List.getElem?_set] at hv
    simp only [if_true] at hv
    split at hv
    · rename_i hlt
      rw [h o _ (List.getElem?_eq_getElem hlt)]
      simpa using hv
    · cases hv
  · rw [if_neg (by omega)]
    rw [List.getElem?_set_ne e] at hv
    exact h j v hv

/-- A store into a block that was made later leaves the cell. -/
theorem off {V W : World} {m j o : Nat} {v x : Value} (h : V.cell? ⟨m, j, none⟩ = some v) (g : W.cell? ⟨m, j, none⟩ = some v) : (W.setCell ⟨V.heap.size, o, none⟩ x).cell? ⟨m, j, none⟩ = some v := by
  have := World.block_lt_of_cell? _ _ h
  rw [cell_set, if_neg (by show ¬ (V.heap.size = m ∧ _); have h' : m < V.heap.size := this; omega)]
  exact g

theorem kept_new {W : World} {m j : Nat} {v : Value} {o : Obj} (g : W.cell? ⟨m, j, none⟩ = some v) : (W.alloc o).cell? ⟨m, j, none⟩ = some v := keep_cell (box_below W o) g

theorem drew_cell {W : World} {a : Addr} {v : Value} (g : W.cell? a = some v) : W.drew.cell? a = some v := g

theorem kept_other {W : World} {m j : Nat} {v : Value} {o o' : Obj} (hm : m < W.heap.size) (g : (W.alloc o).cell? ⟨m, j, none⟩ = some v) : (W.alloc o').cell? ⟨m, j, none⟩ = some v := by
  rw [World.cell?_alloc_lt W o ⟨m, j, none⟩ hm] at g
  exact kept_new g

theorem cell_off {W : World} {m m' j o : Nat} {v x : Value} (hm : m ≠ m') (g : W.cell? ⟨m, j, none⟩ = some v) : (W.setCell ⟨m', o, none⟩ x).cell? ⟨m, j, none⟩ = some v := by
  rw [cell_set, if_neg (by omega)]
  exact g

/-- A whole store of n cells: into the block, beside it, and what is Below. -/
theorem off_refl : True := trivial

theorem Blk.put1 {W : World} {k : Nat} {y0 x0 : Value} (h : Blk W k [y0]) : Blk (W.setCell ⟨k, 0, none⟩ x0) k [x0] := (h.set 0 x0)

theorem Blk.off1 {W : World} {k k' : Nat} {l : List Value} {x0 : Value} (hne : k ≠ k') (h : Blk W k l) : Blk (W.setCell ⟨k', 0, none⟩ x0) k l := (h.other hne)

theorem bel_set1 {a W : World} {k' : Nat} {x0 : Value} (hb : a.heap.size ≤ k') (h : Below a.heap.size a W) : Below a.heap.size a (W.setCell ⟨k', 0, none⟩ x0) := (h.setCell hb _)

theorem Blk.put2 {W : World} {k : Nat} {y0 y1 x0 x1 : Value} (h : Blk W k [y0, y1]) : Blk ((W.setCell ⟨k, 0, none⟩ x0).setCell ⟨k, 1, none⟩ x1) k [x0, x1] := ((h.set 0 x0).set 1 x1)

theorem Blk.off2 {W : World} {k k' : Nat} {l : List Value} {x0 x1 : Value} (hne : k ≠ k') (h : Blk W k l) : Blk ((W.setCell ⟨k', 0, none⟩ x0).setCell ⟨k', 1, none⟩ x1) k l := ((h.other hne).other hne)

theorem bel_set2 {a W : World} {k' : Nat} {x0 x1 : Value} (hb : a.heap.size ≤ k') (h : Below a.heap.size a W) : Below a.heap.size a ((W.setCell ⟨k', 0, none⟩ x0).setCell ⟨k', 1, none⟩ x1) := ((h.setCell hb _).setCell hb _)

theorem Blk.put3 {W : World} {k : Nat} {y0 y1 y2 x0 x1 x2 : Value} (h : Blk W k [y0, y1, y2]) : Blk (((W.setCell ⟨k, 0, none⟩ x0).setCell ⟨k, 1, none⟩ x1).setCell ⟨k, 2, none⟩ x2) k [x0, x1, x2] := (((h.set 0 x0).set 1 x1).set 2 x2)

theorem Blk.off3 {W : World} {k k' : Nat} {l : List Value} {x0 x1 x2 : Value} (hne : k ≠ k') (h : Blk W k l) : Blk (((W.setCell ⟨k', 0, none⟩ x0).setCell ⟨k', 1, none⟩ x1).setCell ⟨k', 2, none⟩ x2) k l := (((h.other hne).other hne).other hne)

theorem bel_set3 {a W : World} {k' : Nat} {x0 x1 x2 : Value} (hb : a.heap.size ≤ k') (h : Below a.heap.size a W) : Below a.heap.size a (((W.setCell ⟨k', 0, none⟩ x0).setCell ⟨k', 1, none⟩ x1).setCell ⟨k', 2, none⟩ x2) := (((h.setCell hb _).setCell hb _).setCell hb _)

theorem Blk.put4 {W : World} {k : Nat} {y0 y1 y2 y3 x0 x1 x2 x3 : Value} (h : Blk W k [y0, y1, y2, y3]) : Blk ((((W.setCell ⟨k, 0, none⟩ x0).setCell ⟨k, 1, none⟩ x1).setCell ⟨k, 2, none⟩ x2).setCell ⟨k, 3, none⟩ x3) k [x0, x1, x2, x3] := ((((h.set 0 x0).set 1 x1).set 2 x2).set 3 x3)

theorem Blk.off4 {W : World} {k k' : Nat} {l : List Value} {x0 x1 x2 x3 : Value} (hne : k ≠ k') (h : Blk W k l) : Blk ((((W.setCell ⟨k', 0, none⟩ x0).setCell ⟨k', 1, none⟩ x1).setCell ⟨k', 2, none⟩ x2).setCell ⟨k', 3, none⟩ x3) k l := ((((h.other hne).other hne).other hne).other hne)

theorem bel_set4 {a W : World} {k' : Nat} {x0 x1 x2 x3 : Value} (hb : a.heap.size ≤ k') (h : Below a.heap.size a W) : Below a.heap.size a ((((W.setCell ⟨k', 0, none⟩ x0).setCell ⟨k', 1, none⟩ x1).setCell ⟨k', 2, none⟩ x2).setCell ⟨k', 3, none⟩ x3) := ((((h.setCell hb _).setCell hb _).setCell hb _).setCell hb _)

theorem Blk.put5 {W : World} {k : Nat} {y0 y1 y2 y3 y4 x0 x1 x2 x3 x4 : Value} (h : Blk W k [y0, y1, y2, y3, y4]) : Blk (((((W.setCell ⟨k, 0, none⟩ x0).setCell ⟨k, 1, none⟩ x1).setCell ⟨k, 2, none⟩ x2).setCell ⟨k, 3, none⟩ x3).setCell ⟨k, 4, none⟩ x4) k [x0, x1, x2, x3, x4] := (((((h.set 0 x0).set 1 x1).set 2 x2).set 3 x3).set 4 x4)

theorem Blk.off5 {W : World} {k k' : Nat} {l : List Value} {x0 x1 x2 x3 x4 : Value} (hne : k ≠ k') (h : Blk W k l) : Blk (((((W.setCell ⟨k', 0, none⟩ x0).setCell ⟨k', 1, none⟩ x1).setCell ⟨k', 2, none⟩ x2).setCell ⟨k', 3, none⟩ x3).setCell ⟨k', 4, none⟩ x4) k l := (((((h.other hne).other hne).other hne).other hne).other hne)

theorem bel_set5 {a W : World} {k' : Nat} {x0 x1 x2 x3 x4 : Value} (hb : a.heap.size ≤ k') (h : Below a.heap.size a W) : Below a.heap.size a (((((W.setCell ⟨k', 0, none⟩ x0).setCell ⟨k', 1, none⟩ x1).setCell ⟨k', 2, none⟩ x2).setCell ⟨k', 3, none⟩ x3).setCell ⟨k', 4, none⟩ x4) := (((((h.setCell hb _).setCell hb _).setCell hb _).setCell hb _).setCell hb _)

theorem Blk.put6 {W : World} {k : Nat} {y0 y1 y2 y3 y4 y5 x0 x1 x2 x3 x4 x5 : Value} (h : Blk W k [y0, y1, y2, y3, y4, y5]) : Blk ((((((W.setCell ⟨k, 0, none⟩ x0).setCell ⟨k, 1, none⟩ x1).setCell ⟨k, 2, none⟩ x2).setCell ⟨k, 3, none⟩ x3).setCell ⟨k, 4, none⟩ x4).setCell ⟨k, 5, none⟩ x5) k [x0, x1, x2, x3, x4, x5] := ((((((h.set 0 x0).set 1 x1).set 2 x2).set 3 x3).set 4 x4).set 5 x5)

theorem Blk.off6 {W : World} {k k' : Nat} {l : List Value} {x0 x1 x2 x3 x4 x5 : Value} (hne : k ≠ k') (h : Blk W k l) : Blk ((((((W.setCell ⟨k', 0, none⟩ x0).setCell ⟨k', 1, none⟩ x1).setCell ⟨k', 2, none⟩ x2).setCell ⟨k', 3, none⟩ x3).setCell ⟨k', 4, none⟩ x4).setCell ⟨k', 5, none⟩ x5) k l := ((((((h.other hne).other hne).other hne).other hne).other hne).other hne)

theorem bel_set6 {a W : World} {k' : Nat} {x0 x1 x2 x3 x4 x5 : Value} (hb : a.heap.size ≤ k') (h : Below a.heap.size a W) : Below a.heap.size a ((((((W.setCell ⟨k', 0, none⟩ x0).setCell ⟨k', 1, none⟩ x1).setCell ⟨k', 2, none⟩ x2).setCell ⟨k', 3, none⟩ x3).setCell ⟨k', 4, none⟩ x4).setCell ⟨k', 5, none⟩ x5) := ((((((h.setCell hb _).setCell hb _).setCell hb _).setCell hb _).setCell hb _).setCell hb _)

theorem Blk.put7 {W : World} {k : Nat} {y0 y1 y2 y3 y4 y5 y6 x0 x1 x2 x3 x4 x5 x6 : Value} (h : Blk W k [y0, y1, y2, y3, y4, y5, y6]) : Blk (((((((W.setCell ⟨k, 0, none⟩ x0).setCell ⟨k, 1, none⟩ x1).setCell ⟨k, 2, none⟩ x2).setCell ⟨k, 3, none⟩ x3).setCell ⟨k, 4, none⟩ x4).setCell ⟨k, 5, none⟩ x5).setCell ⟨k, 6, none⟩ x6) k [x0, x1, x2, x3, x4, x5, x6] := (((((((h.set 0 x0).set 1 x1).set 2 x2).set 3 x3).set 4 x4).set 5 x5).set 6 x6)

theorem Blk.off7 {W : World} {k k' : Nat} {l : List Value} {x0 x1 x2 x3 x4 x5 x6 : Value} (hne : k ≠ k') (h : Blk W k l) : Blk (((((((W.setCell ⟨k', 0, none⟩ x0).setCell ⟨k', 1, none⟩ x1).setCell ⟨k', 2, none⟩ x2).setCell ⟨k', 3, none⟩ x3).setCell ⟨k', 4, none⟩ x4).setCell ⟨k', 5, none⟩ x5).setCell ⟨k', 6, none⟩ x6) k l := (((((((h.other hne).other hne).other hne).other hne).other hne).other hne).other hne)

theorem bel_set7 {a W : World} {k' : Nat} {x0 x1 x2 x3 x4 x5 x6 : Value} (hb : a.heap.size ≤ k') (h : Below a.heap.size a W) : Below a.heap.size a (((((((W.setCell ⟨k', 0, none⟩ x0).setCell ⟨k', 1, none⟩ x1).setCell ⟨k', 2, none⟩ x2).setCell ⟨k', 3, none⟩ x3).setCell ⟨k', 4, none⟩ x4).setCell ⟨k', 5, none⟩ x5).setCell ⟨k', 6, none⟩ x6) := (((((((h.setCell hb _).setCell hb _).setCell hb _).setCell hb _).setCell hb _).setCell hb _).setCell hb _)

theorem Blk.put8 {W : World} {k : Nat} {y0 y1 y2 y3 y4 y5 y6 y7 x0 x1 x2 x3 x4 x5 x6 x7 : Value} (h : Blk W k [y0, y1, y2, y3, y4, y5, y6, y7]) : Blk ((((((((W.setCell ⟨k, 0, none⟩ x0).setCell ⟨k, 1, none⟩ x1).setCell ⟨k, 2, none⟩ x2).setCell ⟨k, 3, none⟩ x3).setCell ⟨k, 4, none⟩ x4).setCell ⟨k, 5, none⟩ x5).setCell ⟨k, 6, none⟩ x6).setCell ⟨k, 7, none⟩ x7) k [x0, x1, x2, x3, x4, x5, x6, x7] := ((((((((h.set 0 x0).set 1 x1).set 2 x2).set 3 x3).set 4 x4).set 5 x5).set 6 x6).set 7 x7)

theorem Blk.off8 {W : World} {k k' : Nat} {l : List Value} {x0 x1 x2 x3 x4 x5 x6 x7 : Value} (hne : k ≠ k') (h : Blk W k l) : Blk ((((((((W.setCell ⟨k', 0, none⟩ x0).setCell ⟨k', 1, none⟩ x1).setCell ⟨k', 2, none⟩ x2).setCell ⟨k', 3, none⟩ x3).setCell ⟨k', 4, none⟩ x4).setCell ⟨k', 5, none⟩ x5).setCell ⟨k', 6, none⟩ x6).setCell ⟨k', 7, none⟩ x7) k l := ((((((((h.other hne).other hne).other hne).other hne).other hne).other hne).other hne).other hne)

theorem bel_set8 {a W : World} {k' : Nat} {x0 x1 x2 x3 x4 x5 x6 x7 : Value} (hb : a.heap.size ≤ k') (h : Below a.heap.size a W) : Below a.heap.size a ((((((((W.setCell ⟨k', 0, none⟩ x0).setCell ⟨k', 1, none⟩ x1).setCell ⟨k', 2, none⟩ x2).setCell ⟨k', 3, none⟩ x3).setCell ⟨k', 4, none⟩ x4).setCell ⟨k', 5, none⟩ x5).setCell ⟨k', 6, none⟩ x6).setCell ⟨k', 7, none⟩ x7) := ((((((((h.setCell hb _).setCell hb _).setCell hb _).setCell hb _).setCell hb _).setCell hb _).setCell hb _).setCell hb _)

theorem Blk.put9 {W : World} {k : Nat} {y0 y1 y2 y3 y4 y5 y6 y7 y8 x0 x1 x2 x3 x4 x5 x6 x7 x8 : Value} (h : Blk W k [y0, y1, y2, y3, y4, y5, y6, y7, y8]) : Blk (((((((((W.setCell ⟨k, 0, none⟩ x0).setCell ⟨k, 1, none⟩ x1).setCell ⟨k, 2, none⟩ x2).setCell ⟨k, 3, none⟩ x3).setCell ⟨k, 4, none⟩ x4).setCell ⟨k, 5, none⟩ x5).setCell ⟨k, 6, none⟩ x6).setCell ⟨k, 7, none⟩ x7).setCell ⟨k, 8, none⟩ x8) k [x0, x1, x2, x3, x4, x5, x6, x7, x8] := (((((((((h.set 0 x0).set 1 x1).set 2 x2).set 3 x3).set 4 x4).set 5 x5).set 6 x6).set 7 x7).set 8 x8)

theorem Blk.off9 {W : World} {k k' : Nat} {l : List Value} {x0 x1 x2 x3 x4 x5 x6 x7 x8 : Value} (hne : k ≠ k') (h : Blk W k l) : Blk (((((((((W.setCell ⟨k', 0, none⟩ x0).setCell ⟨k', 1, none⟩ x1).setCell ⟨k', 2, none⟩ x2).setCell ⟨k', 3, none⟩ x3).setCell ⟨k', 4, none⟩ x4).setCell ⟨k', 5, none⟩ x5).setCell ⟨k', 6, none⟩ x6).setCell ⟨k', 7, none⟩ x7).setCell ⟨k', 8, none⟩ x8) k l := (((((((((h.other hne).other hne).other hne).other hne).other hne).other hne).other hne).other hne).other hne)

theorem bel_set9 {a W : World} {k' : Nat} {x0 x1 x2 x3 x4 x5 x6 x7 x8 : Value} (hb : a.heap.size ≤ k') (h : Below a.heap.size a W) : Below a.heap.size a (((((((((W.setCell ⟨k', 0, none⟩ x0).setCell ⟨k', 1, none⟩ x1).setCell ⟨k', 2, none⟩ x2).setCell ⟨k', 3, none⟩ x3).setCell ⟨k', 4, none⟩ x4).setCell ⟨k', 5, none⟩ x5).setCell ⟨k', 6, none⟩ x6).setCell ⟨k', 7, none⟩ x7).setCell ⟨k', 8, none⟩ x8) := (((((((((h.setCell hb _).setCell hb _).setCell hb _).setCell hb _).setCell hb _).setCell hb _).setCell hb _).setCell hb _).setCell hb _)

theorem Blk.put10 {W : World} {k : Nat} {y0 y1 y2 y3 y4 y5 y6 y7 y8 y9 x0 x1 x2 x3 x4 x5 x6 x7 x8 x9 : Value} (h : Blk W k [y0, y1, y2, y3, y4, y5, y6, y7, y8, y9]) : Blk ((((((((((W.setCell ⟨k, 0, none⟩ x0).setCell ⟨k, 1, none⟩ x1).setCell ⟨k, 2, none⟩ x2).setCell ⟨k, 3, none⟩ x3).setCell ⟨k, 4, none⟩ x4).setCell ⟨k, 5, none⟩ x5).setCell ⟨k, 6, none⟩ x6).setCell ⟨k, 7, none⟩ x7).setCell ⟨k, 8, none⟩ x8).setCell ⟨k, 9, none⟩ x9) k [x0, x1, x2, x3, x4, x5, x6, x7, x8, x9] := ((((((((((h.set 0 x0).set 1 x1).set 2 x2).set 3 x3).set 4 x4).set 5 x5).set 6 x6).set 7 x7).set 8 x8).set 9 x9)

theorem Blk.off10 {W : World} {k k' : Nat} {l : List Value} {x0 x1 x2 x3 x4 x5 x6 x7 x8 x9 : Value} (hne : k ≠ k') (h : Blk W k l) : Blk ((((((((((W.setCell ⟨k', 0, none⟩ x0).setCell ⟨k', 1, none⟩ x1).setCell ⟨k', 2, none⟩ x2).setCell ⟨k', 3, none⟩ x3).setCell ⟨k', 4, none⟩ x4).setCell ⟨k', 5, none⟩ x5).setCell ⟨k', 6, none⟩ x6).setCell ⟨k', 7, none⟩ x7).setCell ⟨k', 8, none⟩ x8).setCell ⟨k', 9, none⟩ x9) k l := ((((((((((h.other hne).other hne).other hne).other hne).other hne).other hne).other hne).other hne).other hne).other hne)

theorem bel_set10 {a W : World} {k' : Nat} {x0 x1 x2 x3 x4 x5 x6 x7 x8 x9 : Value} (hb : a.heap.size ≤ k') (h : Below a.heap.size a W) : Below a.heap.size a ((((((((((W.setCell ⟨k', 0, none⟩ x0).setCell ⟨k', 1, none⟩ x1).setCell ⟨k', 2, none⟩ x2).setCell ⟨k', 3, none⟩ x3).setCell ⟨k', 4, none⟩ x4).setCell ⟨k', 5, none⟩ x5).setCell ⟨k', 6, none⟩ x6).setCell ⟨k', 7, none⟩ x7).setCell ⟨k', 8, none⟩ x8).setCell ⟨k', 9, none⟩ x9) := ((((((((((h.setCell hb _).setCell hb _).setCell hb _).setCell hb _).setCell hb _).setCell hb _).setCell hb _).setCell hb _).setCell hb _).setCell hb _)

theorem Blk.put11 {W : World} {k : Nat} {y0 y1 y2 y3 y4 y5 y6 y7 y8 y9 y10 x0 x1 x2 x3 x4 x5 x6 x7 x8 x9 x10 : Value} (h : Blk W k [y0, y1, y2, y3, y4, y5, y6, y7, y8, y9, y10]) : Blk (((((((((((W.setCell ⟨k, 0, none⟩ x0).setCell ⟨k, 1, none⟩ x1).setCell ⟨k, 2, none⟩ x2).setCell ⟨k, 3, none⟩ x3).setCell ⟨k, 4, none⟩ x4).setCell ⟨k, 5, none⟩ x5).setCell ⟨k, 6, none⟩ x6).setCell ⟨k, 7, none⟩ x7).setCell ⟨k, 8, none⟩ x8).setCell ⟨k, 9, none⟩ x9).setCell ⟨k, 10, none⟩ x10) k [x0, x1, x2, x3, x4, x5, x6, x7, x8, x9, x10] := (((((((((((h.set 0 x0).set 1 x1).set 2 x2).set 3 x3).set 4 x4).set 5 x5).set 6 x6).set 7 x7).set 8 x8).set 9 x9).set 10 x10)

theorem Blk.off11 {W : World} {k k' : Nat} {l : List Value} {x0 x1 x2 x3 x4 x5 x6 x7 x8 x9 x10 : Value} (hne : k ≠ k') (h : Blk W k l) : Blk (((((((((((W.setCell ⟨k', 0, none⟩ x0).setCell ⟨k', 1, none⟩ x1).setCell ⟨k', 2, none⟩ x2).setCell ⟨k', 3, none⟩ x3).setCell ⟨k', 4, none⟩ x4).setCell ⟨k', 5, none⟩ x5).setCell ⟨k', 6, none⟩ x6).setCell ⟨k', 7, none⟩ x7).setCell ⟨k', 8, none⟩ x8).setCell ⟨k', 9, none⟩ x9).setCell ⟨k', 10, none⟩ x10) k l := (((((((((((h.other hne).other hne).other hne).other hne).other hne).other hne).other hne).other hne).other hne).other hne).other hne)

theorem bel_set11 {a W : World} {k' : Nat} {x0 x1 x2 x3 x4 x5 x6 x7 x8 x9 x10 : Value} (hb : a.heap.size ≤ k') (h : Below a.heap.size a W) : Below a.heap.size a (((((((((((W.setCell ⟨k', 0, none⟩ x0).setCell ⟨k', 1, none⟩ x1).setCell ⟨k', 2, none⟩ x2).setCell ⟨k', 3, none⟩ x3).setCell ⟨k', 4, none⟩ x4).setCell ⟨k', 5, none⟩ x5).setCell ⟨k', 6, none⟩ x6).setCell ⟨k', 7, none⟩ x7).setCell ⟨k', 8, none⟩ x8).setCell ⟨k', 9, none⟩ x9).setCell ⟨k', 10, none⟩ x10) := (((((((((((h.setCell hb _).setCell hb _).setCell hb _).setCell hb _).setCell hb _).setCell hb _).setCell hb _).setCell hb _).setCell hb _).setCell hb _).setCell hb _)

theorem Blk.put12 {W : World} {k : Nat} {y0 y1 y2 y3 y4 y5 y6 y7 y8 y9 y10 y11 x0 x1 x2 x3 x4 x5 x6 x7 x8 x9 x10 x11 : Value} (h : Blk W k [y0, y1, y2, y3, y4, y5, y6, y7, y8, y9, y10, y11]) : Blk ((((((((((((W.setCell ⟨k, 0, none⟩ x0).setCell ⟨k, 1, none⟩ x1).setCell ⟨k, 2, none⟩ x2).setCell ⟨k, 3, none⟩ x3).setCell ⟨k, 4, none⟩ x4).setCell ⟨k, 5, none⟩ x5).setCell ⟨k, 6, none⟩ x6).setCell ⟨k, 7, none⟩ x7).setCell ⟨k, 8, none⟩ x8).setCell ⟨k, 9, none⟩ x9).setCell ⟨k, 10, none⟩ x10).setCell ⟨k, 11, none⟩ x11) k [x0, x1, x2, x3, x4, x5, x6, x7, x8, x9, x10, x11] := ((((((((((((h.set 0 x0).set 1 x1).set 2 x2).set 3 x3).set 4 x4).set 5 x5).set 6 x6).set 7 x7).set 8 x8).set 9 x9).set 10 x10).set 11 x11)

theorem Blk.off12 {W : World} {k k' : Nat} {l : List Value} {x0 x1 x2 x3 x4 x5 x6 x7 x8 x9 x10 x11 : Value} (hne : k ≠ k') (h : Blk W k l) : Blk ((((((((((((W.setCell ⟨k', 0, none⟩ x0).setCell ⟨k', 1, none⟩ x1).setCell ⟨k', 2, none⟩ x2).setCell ⟨k', 3, none⟩ x3).setCell ⟨k', 4, none⟩ x4).setCell ⟨k', 5, none⟩ x5).setCell ⟨k', 6, none⟩ x6).setCell ⟨k', 7, none⟩ x7).setCell ⟨k', 8, none⟩ x8).setCell ⟨k', 9, none⟩ x9).setCell ⟨k', 10, none⟩ x10).setCell ⟨k', 11, none⟩ x11) k l := ((((((((((((h.other hne).other hne).other hne).other hne).other hne).other hne).other hne).other hne).other hne).other hne).other hne).other hne)

theorem bel_set12 {a W : World} {k' : Nat} {x0 x1 x2 x3 x4 x5 x6 x7 x8 x9 x10 x11 : Value} (hb : a.heap.size ≤ k') (h : Below a.heap.size a W) : Below a.heap.size a ((((((((((((W.setCell ⟨k', 0, none⟩ x0).setCell ⟨k', 1, none⟩ x1).setCell ⟨k', 2, none⟩ x2).setCell ⟨k', 3, none⟩ x3).setCell ⟨k', 4, none⟩ x4).setCell ⟨k', 5, none⟩ x5).setCell ⟨k', 6, none⟩ x6).setCell ⟨k', 7, none⟩ x7).setCell ⟨k', 8, none⟩ x8).setCell ⟨k', 9, none⟩ x9).setCell ⟨k', 10, none⟩ x10).setCell ⟨k', 11, none⟩ x11) := ((((((((((((h.setCell hb _).setCell hb _).setCell hb _).setCell hb _).setCell hb _).setCell hb _).setCell hb _).setCell hb _).setCell hb _).setCell hb _).setCell hb _).setCell hb _)

theorem Blk.put13 {W : World} {k : Nat} {y0 y1 y2 y3 y4 y5 y6 y7 y8 y9 y10 y11 y12 x0 x1 x2 x3 x4 x5 x6 x7 x8 x9 x10 x11 x12 : Value} (h : Blk W k [y0, y1, y2, y3, y4, y5, y6, y7, y8, y9, y10, y11, y12]) : Blk (((((((((((((W.setCell ⟨k, 0, none⟩ x0).setCell ⟨k, 1, none⟩ x1).setCell ⟨k, 2, none⟩ x2).setCell ⟨k, 3, none⟩ x3).setCell ⟨k, 4, none⟩ x4).setCell ⟨k, 5, none⟩ x5).setCell ⟨k, 6, none⟩ x6).setCell ⟨k, 7, none⟩ x7).setCell ⟨k, 8, none⟩ x8).setCell ⟨k, 9, none⟩ x9).setCell ⟨k, 10, none⟩ x10).setCell ⟨k, 11, none⟩ x11).setCell ⟨k, 12, none⟩ x12) k [x0, x1, x2, x3, x4, x5, x6, x7, x8, x9, x10, x11, x12] := (((((((((((((h.set 0 x0).set 1 x1).set 2 x2).set 3 x3).set 4 x4).set 5 x5).set 6 x6).set 7 x7).set 8 x8).set 9 x9).set 10 x10).set 11 x11).set 12 x12)

theorem Blk.off13 {W : World} {k k' : Nat} {l : List Value} {x0 x1 x2 x3 x4 x5 x6 x7 x8 x9 x10 x11 x12 : Value} (hne : k ≠ k') (h : Blk W k l) : Blk (((((((((((((W.setCell ⟨k', 0, none⟩ x0).setCell ⟨k', 1, none⟩ x1).setCell ⟨k', 2, none⟩ x2).setCell ⟨k', 3, none⟩ x3).setCell ⟨k', 4, none⟩ x4).setCell ⟨k', 5, none⟩ x5).setCell ⟨k', 6, none⟩ x6).setCell ⟨k', 7, none⟩ x7).setCell ⟨k', 8, none⟩ x8).setCell ⟨k', 9, none⟩ x9).setCell ⟨k', 10, none⟩ x10).setCell ⟨k', 11, none⟩ x11).setCell ⟨k', 12, none⟩ x12) k l := (((((((((((((h.other hne).other hne).other hne).other hne).other hne).other hne).other hne).other hne).other hne).other hne).other hne).other hne).other hne)

theorem bel_set13 {a W : World} {k' : Nat} {x0 x1 x2 x3 x4 x5 x6 x7 x8 x9 x10 x11 x12 : Value} (hb : a.heap.size ≤ k') (h : Below a.heap.size a W) : Below a.heap.size a (((((((((((((W.setCell ⟨k', 0, none⟩ x0).setCell ⟨k', 1, none⟩ x1).setCell ⟨k', 2, none⟩ x2).setCell ⟨k', 3, none⟩ x3).setCell ⟨k', 4, none⟩ x4).setCell ⟨k', 5, none⟩ x5).setCell ⟨k', 6, none⟩ x6).setCell ⟨k', 7, none⟩ x7).setCell ⟨k', 8, none⟩ x8).setCell ⟨k', 9, none⟩ x9).setCell ⟨k', 10, none⟩ x10).setCell ⟨k', 11, none⟩ x11).setCell ⟨k', 12, none⟩ x12) := (((((((((((((h.setCell hb _).setCell hb _).setCell hb _).setCell hb _).setCell hb _).setCell hb _).setCell hb _).setCell hb _).setCell hb _).setCell hb _).setCell hb _).setCell hb _).setCell hb _)

theorem Blk.put14 {W : World} {k : Nat} {y0 y1 y2 y3 y4 y5 y6 y7 y8 y9 y10 y11 y12 y13 x0 x1 x2 x3 x4 x5 x6 x7 x8 x9 x10 x11 x12 x13 : Value} (h : Blk W k [y0, y1, y2, y3, y4, y5, y6, y7, y8, y9, y10, y11, y12, y13]) : Blk ((((((((((((((W.setCell ⟨k, 0, none⟩ x0).setCell ⟨k, 1, none⟩ x1).setCell ⟨k, 2, none⟩ x2).setCell ⟨k, 3, none⟩ x3).setCell ⟨k, 4, none⟩ x4).setCell ⟨k, 5, none⟩ x5).setCell ⟨k, 6, none⟩ x6).setCell ⟨k, 7, none⟩ x7).setCell ⟨k, 8, none⟩ x8).setCell ⟨k, 9, none⟩ x9).setCell ⟨k, 10, none⟩ x10).setCell ⟨k, 11, none⟩ x11).setCell ⟨k, 12, none⟩ x12).setCell ⟨k, 13, none⟩ x13) k [x0, x1, x2, x3, x4, x5, x6, x7, x8, x9, x10, x11, x12, x13] := ((((((((((((((h.set 0 x0).set 1 x1).set 2 x2).set 3 x3).set 4 x4).set 5 x5).set 6 x6).set 7 x7).set 8 x8).set 9 x9).set 10 x10).set 11 x11).set 12 x12).set 13 x13)

theorem Blk.off14 {W : World} {k k' : Nat} {l : List Value} {x0 x1 x2 x3 x4 x5 x6 x7 x8 x9 x10 x11 x12 x13 : Value} (hne : k ≠ k') (h : Blk W k l) : Blk ((((((((((((((W.setCell ⟨k', 0, none⟩ x0).setCell ⟨k', 1, none⟩ x1).setCell ⟨k', 2, none⟩ x2).setCell ⟨k', 3, none⟩ x3).setCell ⟨k', 4, none⟩ x4).setCell ⟨k', 5, none⟩ x5).setCell ⟨k', 6, none⟩ x6).setCell ⟨k', 7, none⟩ x7).setCell ⟨k', 8, none⟩ x8).setCell ⟨k', 9, none⟩ x9).setCell ⟨k', 10, none⟩ x10).setCell ⟨k', 11, none⟩ x11).setCell ⟨k', 12, none⟩ x12).setCell ⟨k', 13, none⟩ x13) k l := ((((((((((((((h.other hne).other hne).other hne).other hne).other hne).other hne).other hne).other hne).other hne).other hne).other hne).other hne).other hne).other hne)

theorem bel_set14 {a W : World} {k' : Nat} {x0 x1 x2 x3 x4 x5 x6 x7 x8 x9 x10 x11 x12 x13 : Value} (hb : a.heap.size ≤ k') (h : Below a.heap.size a W) : Below a.heap.size a ((((((((((((((W.setCell ⟨k', 0, none⟩ x0).setCell ⟨k', 1, none⟩ x1).setCell ⟨k', 2, none⟩ x2).setCell ⟨k', 3, none⟩ x3).setCell ⟨k', 4, none⟩ x4).setCell ⟨k', 5, none⟩ x5).setCell ⟨k', 6, none⟩ x6).setCell ⟨k', 7, none⟩ x7).setCell ⟨k', 8, none⟩ x8).setCell ⟨k', 9, none⟩ x9).setCell ⟨k', 10, none⟩ x10).setCell ⟨k', 11, none⟩ x11).setCell ⟨k', 12, none⟩ x12).setCell ⟨k', 13, none⟩ x13) := ((((((((((((((h.setCell hb _).setCell hb _).setCell hb _).setCell hb _).setCell hb _).setCell hb _).setCell hb _).setCell hb _).setCell hb _).setCell hb _).setCell hb _).setCell hb _).setCell hb _).setCell hb _)

theorem Blk.put15 {W : World} {k : Nat} {y0 y1 y2 y3 y4 y5 y6 y7 y8 y9 y10 y11 y12 y13 y14 x0 x1 x2 x3 x4 x5 x6 x7 x8 x9 x10 x11 x12 x13 x14 : Value} (h : Blk W k [y0, y1, y2, y3, y4, y5, y6, y7, y8, y9, y10, y11, y12, y13, y14]) : Blk (((((((((((((((W.setCell ⟨k, 0, none⟩ x0).setCell ⟨k, 1, none⟩ x1).setCell ⟨k, 2, none⟩ x2).setCell ⟨k, 3, none⟩ x3).setCell ⟨k, 4, none⟩ x4).setCell ⟨k, 5, none⟩ x5).setCell ⟨k, 6, none⟩ x6).setCell ⟨k, 7, none⟩ x7).setCell ⟨k, 8, none⟩ x8).setCell ⟨k, 9, none⟩ x9).setCell ⟨k, 10, none⟩ x10).setCell ⟨k, 11, none⟩ x11).setCell ⟨k, 12, none⟩ x12).setCell ⟨k, 13, none⟩ x13).setCell ⟨k, 14, none⟩ x14) k [x0, x1, x2, x3, x4, x5, x6, x7, x8, x9, x10, x11, x12, x13, x14] := (((((((((((((((h.set 0 x0).set 1 x1).set 2 x2).set 3 x3).set 4 x4).set 5 x5).set 6 x6).set 7 x7).set 8 x8).set 9 x9).set 10 x10).set 11 x11).set 12 x12).set 13 x13).set 14 x14)

theorem Blk.off15 {W : World} {k k' : Nat} {l : List Value} {x0 x1 x2 x3 x4 x5 x6 x7 x8 x9 x10 x11 x12 x13 x14 : Value} (hne : k ≠ k') (h : Blk W k l) : Blk (((((((((((((((W.setCell ⟨k', 0, none⟩ x0).setCell ⟨k', 1, none⟩ x1).setCell ⟨k', 2, none⟩ x2).setCell ⟨k', 3, none⟩ x3).setCell ⟨k', 4, none⟩ x4).setCell ⟨k', 5, none⟩ x5).setCell ⟨k', 6, none⟩ x6).setCell ⟨k', 7, none⟩ x7).setCell ⟨k', 8, none⟩ x8).setCell ⟨k', 9, none⟩ x9).setCell ⟨k', 10, none⟩ x10).setCell ⟨k', 11, none⟩ x11).setCell ⟨k', 12, none⟩ x12).setCell ⟨k', 13, none⟩ x13).setCell ⟨k', 14, none⟩ x14) k l := (((((((((((((((h.other hne).other hne).other hne).other hne).other hne).other hne).other hne).other hne).other hne).other hne).other hne).other hne).other hne).other hne).other hne)

theorem bel_set15 {a W : World} {k' : Nat} {x0 x1 x2 x3 x4 x5 x6 x7 x8 x9 x10 x11 x12 x13 x14 : Value} (hb : a.heap.size ≤ k') (h : Below a.heap.size a W) : Below a.heap.size a (((((((((((((((W.setCell ⟨k', 0, none⟩ x0).setCell ⟨k', 1, none⟩ x1).setCell ⟨k', 2, none⟩ x2).setCell ⟨k', 3, none⟩ x3).setCell ⟨k', 4, none⟩ x4).setCell ⟨k', 5, none⟩ x5).setCell ⟨k', 6, none⟩ x6).setCell ⟨k', 7, none⟩ x7).setCell ⟨k', 8, none⟩ x8).setCell ⟨k', 9, none⟩ x9).setCell ⟨k', 10, none⟩ x10).setCell ⟨k', 11, none⟩ x11).setCell ⟨k', 12, none⟩ x12).setCell ⟨k', 13, none⟩ x13).setCell ⟨k', 14, none⟩ x14) := (((((((((((((((h.setCell hb _).setCell hb _).setCell hb _).setCell hb _).setCell hb _).setCell hb _).setCell hb _).setCell hb _).setCell hb _).setCell hb _).setCell hb _).setCell hb _).setCell hb _).setCell hb _).setCell hb _)

theorem Blk.put16 {W : World} {k : Nat} {y0 y1 y2 y3 y4 y5 y6 y7 y8 y9 y10 y11 y12 y13 y14 y15 x0 x1 x2 x3 x4 x5 x6 x7 x8 x9 x10 x11 x12 x13 x14 x15 : Value} (h : Blk W k [y0, y1, y2, y3, y4, y5, y6, y7, y8, y9, y10, y11, y12, y13, y14, y15]) : Blk ((((((((((((((((W.setCell ⟨k, 0, none⟩ x0).setCell ⟨k, 1, none⟩ x1).setCell ⟨k, 2, none⟩ x2).setCell ⟨k, 3, none⟩ x3).setCell ⟨k, 4, none⟩ x4).setCell ⟨k, 5, none⟩ x5).setCell ⟨k, 6, none⟩ x6).setCell ⟨k, 7, none⟩ x7).setCell ⟨k, 8, none⟩ x8).setCell ⟨k, 9, none⟩ x9).setCell ⟨k, 10, none⟩ x10).setCell ⟨k, 11, none⟩ x11).setCell ⟨k, 12, none⟩ x12).setCell ⟨k, 13, none⟩ x13).setCell ⟨k, 14, none⟩ x14).setCell ⟨k, 15, none⟩ x15) k [x0, x1, x2, x3, x4, x5, x6, x7, x8, x9, x10, x11, x12, x13, x14, x15] := ((((((((((((((((h.set 0 x0).set 1 x1).set 2 x2).set 3 x3).set 4 x4).set 5 x5).set 6 x6).set 7 x7).set 8 x8).set 9 x9).set 10 x10).set 11 x11).set 12 x12).set 13 x13).set 14 x14).set 15 x15)

theorem Blk.off16 {W : World} {k k' : Nat} {l : List Value} {x0 x1 x2 x3 x4 x5 x6 x7 x8 x9 x10 x11 x12 x13 x14 x15 : Value} (hne : k ≠ k') (h : Blk W k l) : Blk ((((((((((((((((W.setCell ⟨k', 0, none⟩ x0).setCell ⟨k', 1, none⟩ x1).setCell ⟨k', 2, none⟩ x2).setCell ⟨k', 3, none⟩ x3).setCell ⟨k', 4, none⟩ x4).setCell ⟨k', 5, none⟩ x5).setCell ⟨k', 6, none⟩ x6).setCell ⟨k', 7, none⟩ x7).setCell ⟨k', 8, none⟩ x8).setCell ⟨k', 9, none⟩ x9).setCell ⟨k', 10, none⟩ x10).setCell ⟨k', 11, none⟩ x11).setCell ⟨k', 12, none⟩ x12).setCell ⟨k', 13, none⟩ x13).setCell ⟨k', 14, none⟩ x14).setCell ⟨k', 15, none⟩ x15) k l := ((((((((((((((((h.other hne).other hne).other hne).other hne).other hne).other hne).other hne).other hne).other hne).other hne).other hne).other hne).other hne).other hne).other hne).other hne)

theorem bel_set16 {a W : World} {k' : Nat} {x0 x1 x2 x3 x4 x5 x6 x7 x8 x9 x10 x11 x12 x13 x14 x15 : Value} (hb : a.heap.size ≤ k') (h : Below a.heap.size a W) : Below a.heap.size a ((((((((((((((((W.setCell ⟨k', 0, none⟩ x0).setCell ⟨k', 1, none⟩ x1).setCell ⟨k', 2, none⟩ x2).setCell ⟨k', 3, none⟩ x3).setCell ⟨k', 4, none⟩ x4).setCell ⟨k', 5, none⟩ x5).setCell ⟨k', 6, none⟩ x6).setCell ⟨k', 7, none⟩ x7).setCell ⟨k', 8, none⟩ x8).setCell ⟨k', 9, none⟩ x9).setCell ⟨k', 10, none⟩ x10).setCell ⟨k', 11, none⟩ x11).setCell ⟨k', 12, none⟩ x12).setCell ⟨k', 13, none⟩ x13).setCell ⟨k', 14, none⟩ x14).setCell ⟨k', 15, none⟩ x15) := ((((((((((((((((h.setCell hb _).setCell hb _).setCell hb _).setCell hb _).setCell hb _).setCell hb _).setCell hb _).setCell hb _).setCell hb _).setCell hb _).setCell hb _).setCell hb _).setCell hb _).setCell hb _).setCell hb _).setCell hb _)

theorem Blk.all1 {W : World} {k : Nat} {x0 : Value} (h : Blk W k [x0]) : W.cell? ⟨k, 0, none⟩ = some x0 := h.at 0 rfl

theorem Blk.all2 {W : World} {k : Nat} {x0 x1 : Value} (h : Blk W k [x0, x1]) : W.cell? ⟨k, 0, none⟩ = some x0 ∧ W.cell? ⟨k, 1, none⟩ = some x1 := ⟨h.at 0 rfl, h.at 1 rfl⟩

theorem Blk.all3 {W : World} {k : Nat} {x0 x1 x2 : Value} (h : Blk W k [x0, x1, x2]) : W.cell? ⟨k, 0, none⟩ = some x0 ∧ W.cell? ⟨k, 1, none⟩ = some x1 ∧ W.cell? ⟨k, 2, none⟩ = some x2 := ⟨h.at 0 rfl, h.at 1 rfl, h.at 2 rfl⟩

theorem Blk.all4 {W : World} {k : Nat} {x0 x1 x2 x3 : Value} (h : Blk W k [x0, x1, x2, x3]) : W.cell? ⟨k, 0, none⟩ = some x0 ∧ W.cell? ⟨k, 1, none⟩ = some x1 ∧ W.cell? ⟨k, 2, none⟩ = some x2 ∧ W.cell? ⟨k, 3, none⟩ = some x3 := ⟨h.at 0 rfl, h.at 1 rfl, h.at 2 rfl, h.at 3 rfl⟩

theorem Blk.all5 {W : World} {k : Nat} {x0 x1 x2 x3 x4 : Value} (h : Blk W k [x0, x1, x2, x3, x4]) : W.cell? ⟨k, 0, none⟩ = some x0 ∧ W.cell? ⟨k, 1, none⟩ = some x1 ∧ W.cell? ⟨k, 2, none⟩ = some x2 ∧ W.cell? ⟨k, 3, none⟩ = some x3 ∧ W.cell? ⟨k, 4, none⟩ = some x4 := ⟨h.at 0 rfl, h.at 1 rfl, h.at 2 rfl, h.at 3 rfl, h.at 4 rfl⟩

theorem Blk.all6 {W : World} {k : Nat} {x0 x1 x2 x3 x4 x5 : Value} (h : Blk W k [x0, x1, x2, x3, x4, x5]) : W.cell? ⟨k, 0, none⟩ = some x0 ∧ W.cell? ⟨k, 1, none⟩ = some x1 ∧ W.cell? ⟨k, 2, none⟩ = some x2 ∧ W.cell? ⟨k, 3, none⟩ = some x3 ∧ W.cell? ⟨k, 4, none⟩ = some x4 ∧ W.cell? ⟨k, 5, none⟩ = some x5 := ⟨h.at 0 rfl, h.at 1 rfl, h.at 2 rfl, h.at 3 rfl, h.at 4 rfl, h.at 5 rfl⟩

theorem Blk.all7 {W : World} {k : Nat} {x0 x1 x2 x3 x4 x5 x6 : Value} (h : Blk W k [x0, x1, x2, x3, x4, x5, x6]) : W.cell? ⟨k, 0, none⟩ = some x0 ∧ W.cell? ⟨k, 1, none⟩ = some x1 ∧ W.cell? ⟨k, 2, none⟩ = some x2 ∧ W.cell? ⟨k, 3, none⟩ = some x3 ∧ W.cell? ⟨k, 4, none⟩ = some x4 ∧ W.cell? ⟨k, 5, none⟩ = some x5 ∧ W.cell? ⟨k, 6, none⟩ = some x6 := ⟨h.at 0 rfl, h.at 1 rfl, h.at 2 rfl, h.at 3 rfl, h.at 4 rfl, h.at 5 rfl, h.at 6 rfl⟩

theorem Blk.all8 {W : World} {k : Nat} {x0 x1 x2 x3 x4 x5 x6 x7 : Value} (h : Blk W k [x0, x1, x2, x3, x4, x5, x6, x7]) : W.cell? ⟨k, 0, none⟩ = some x0 ∧ W.cell? ⟨k, 1, none⟩ = some x1 ∧ W.cell? ⟨k, 2, none⟩ = some x2 ∧ W.cell? ⟨k, 3, none⟩ = some x3 ∧ W.cell? ⟨k, 4, none⟩ = some x4 ∧ W.cell? ⟨k, 5, none⟩ = some x5 ∧ W.cell? ⟨k, 6, none⟩ = some x6 ∧ W.cell? ⟨k, 7, none⟩ = some x7 := ⟨h.at 0 rfl, h.at 1 rfl, h.at 2 rfl, h.at 3 rfl, h.at 4 rfl, h.at 5 rfl, h.at 6 rfl, h.at 7 rfl⟩

theorem Blk.all9 {W : World} {k : Nat} {x0 x1 x2 x3 x4 x5 x6 x7 x8 : Value} (h : Blk W k [x0, x1, x2, x3, x4, x5, x6, x7, x8]) : W.cell? ⟨k, 0, none⟩ = some x0 ∧ W.cell? ⟨k, 1, none⟩ = some x1 ∧ W.cell? ⟨k, 2, none⟩ = some x2 ∧ W.cell? ⟨k, 3, none⟩ = some x3 ∧ W.cell? ⟨k, 4, none⟩ = some x4 ∧ W.cell? ⟨k, 5, none⟩ = some x5 ∧ W.cell? ⟨k, 6, none⟩ = some x6 ∧ W.cell? ⟨k, 7, none⟩ = some x7 ∧ W.cell? ⟨k, 8, none⟩ = some x8 := ⟨h.at 0 rfl, h.at 1 rfl, h.at 2 rfl, h.at 3 rfl, h.at 4 rfl, h.at 5 rfl, h.at 6 rfl, h.at 7 rfl, h.at 8 rfl⟩

theorem Blk.all10 {W : World} {k : Nat} {x0 x1 x2 x3 x4 x5 x6 x7 x8 x9 : Value} (h : Blk W k [x0, x1, x2, x3, x4, x5, x6, x7, x8, x9]) : W.cell? ⟨k, 0, none⟩ = some x0 ∧ W.cell? ⟨k, 1, none⟩ = some x1 ∧ W.cell? ⟨k, 2, none⟩ = some x2 ∧ W.cell? ⟨k, 3, none⟩ = some x3 ∧ W.cell? ⟨k, 4, none⟩ = some x4 ∧ W.cell? ⟨k, 5, none⟩ = some x5 ∧ W.cell? ⟨k, 6, none⟩ = some x6 ∧ W.cell? ⟨k, 7, none⟩ = some x7 ∧ W.cell? ⟨k, 8, none⟩ = some x8 ∧ W.cell? ⟨k, 9, none⟩ = some x9 := ⟨h.at 0 rfl, h.at 1 rfl, h.at 2 rfl, h.at 3 rfl, h.at 4 rfl, h.at 5 rfl, h.at 6 rfl, h.at 7 rfl, h.at 8 rfl, h.at 9 rfl⟩

theorem Blk.all11 {W : World} {k : Nat} {x0 x1 x2 x3 x4 x5 x6 x7 x8 x9 x10 : Value} (h : Blk W k [x0, x1, x2, x3, x4, x5, x6, x7, x8, x9, x10]) : W.cell? ⟨k, 0, none⟩ = some x0 ∧ W.cell? ⟨k, 1, none⟩ = some x1 ∧ W.cell? ⟨k, 2, none⟩ = some x2 ∧ W.cell? ⟨k, 3, none⟩ = some x3 ∧ W.cell? ⟨k, 4, none⟩ = some x4 ∧ W.cell? ⟨k, 5, none⟩ = some x5 ∧ W.cell? ⟨k, 6, none⟩ = some x6 ∧ W.cell? ⟨k, 7, none⟩ = some x7 ∧ W.cell? ⟨k, 8, none⟩ = some x8 ∧ W.cell? ⟨k, 9, none⟩ = some x9 ∧ W.cell? ⟨k, 10, none⟩ = some x10 := ⟨h.at 0 rfl, h.at 1 rfl, h.at 2 rfl, h.at 3 rfl, h.at 4 rfl, h.at 5 rfl, h.at 6 rfl, h.at 7 rfl, h.at 8 rfl, h.at 9 rfl, h.at 10 rfl⟩

theorem Blk.all12 {W : World} {k : Nat} {x0 x1 x2 x3 x4 x5 x6 x7 x8 x9 x10 x11 : Value} (h : Blk W k [x0, x1, x2, x3, x4, x5, x6, x7, x8, x9, x10, x11]) : W.cell? ⟨k, 0, none⟩ = some x0 ∧ W.cell? ⟨k, 1, none⟩ = some x1 ∧ W.cell? ⟨k, 2, none⟩ = some x2 ∧ W.cell? ⟨k, 3, none⟩ = some x3 ∧ W.cell? ⟨k, 4, none⟩ = some x4 ∧ W.cell? ⟨k, 5, none⟩ = some x5 ∧ W.cell? ⟨k, 6, none⟩ = some x6 ∧ W.cell? ⟨k, 7, none⟩ = some x7 ∧ W.cell? ⟨k, 8, none⟩ = some x8 ∧ W.cell? ⟨k, 9, none⟩ = some x9 ∧ W.cell? ⟨k, 10, none⟩ = some x10 ∧ W.cell? ⟨k, 11, none⟩ = some x11 := ⟨h.at 0 rfl, h.at 1 rfl, h.at 2 rfl, h.at 3 rfl, h.at 4 rfl, h.at 5 rfl, h.at 6 rfl, h.at 7 rfl, h.at 8 rfl, h.at 9 rfl, h.at 10 rfl, h.at 11 rfl⟩

theorem Blk.all13 {W : World} {k : Nat} {x0 x1 x2 x3 x4 x5 x6 x7 x8 x9 x10 x11 x12 : Value} (h : Blk W k [x0, x1, x2, x3, x4, x5, x6, x7, x8, x9, x10, x11, x12]) : W.cell? ⟨k, 0, none⟩ = some x0 ∧ W.cell? ⟨k, 1, none⟩ = some x1 ∧ W.cell? ⟨k, 2, none⟩ = some x2 ∧ W.cell? ⟨k, 3, none⟩ = some x3 ∧ W.cell? ⟨k, 4, none⟩ = some x4 ∧ W.cell? ⟨k, 5, none⟩ = some x5 ∧ W.cell? ⟨k, 6, none⟩ = some x6 ∧ W.cell? ⟨k, 7, none⟩ = some x7 ∧ W.cell? ⟨k, 8, none⟩ = some x8 ∧ W.cell? ⟨k, 9, none⟩ = some x9 ∧ W.cell? ⟨k, 10, none⟩ = some x10 ∧ W.cell? ⟨k, 11, none⟩ = some x11 ∧ W.cell? ⟨k, 12, none⟩ = some x12 := ⟨h.at 0 rfl, h.at 1 rfl, h.at 2 rfl, h.at 3 rfl, h.at 4 rfl, h.at 5 rfl, h.at 6 rfl, h.at 7 rfl, h.at 8 rfl, h.at 9 rfl, h.at 10 rfl, h.at 11 rfl, h.at 12 rfl⟩

theorem Blk.all14 {W : World} {k : Nat} {x0 x1 x2 x3 x4 x5 x6 x7 x8 x9 x10 x11 x12 x13 : Value} (h : Blk W k [x0, x1, x2, x3, x4, x5, x6, x7, x8, x9, x10, x11, x12, x13]) : W.cell? ⟨k, 0, none⟩ = some x0 ∧ W.cell? ⟨k, 1, none⟩ = some x1 ∧ W.cell? ⟨k, 2, none⟩ = some x2 ∧ W.cell? ⟨k, 3, none⟩ = some x3 ∧ W.cell? ⟨k, 4, none⟩ = some x4 ∧ W.cell? ⟨k, 5, none⟩ = some x5 ∧ W.cell? ⟨k, 6, none⟩ = some x6 ∧ W.cell? ⟨k, 7, none⟩ = some x7 ∧ W.cell? ⟨k, 8, none⟩ = some x8 ∧ W.cell? ⟨k, 9, none⟩ = some x9 ∧ W.cell? ⟨k, 10, none⟩ = some x10 ∧ W.cell? ⟨k, 11, none⟩ = some x11 ∧ W.cell? ⟨k, 12, none⟩ = some x12 ∧ W.cell? ⟨k, 13, none⟩ = some x13 := ⟨h.at 0 rfl, h.at 1 rfl, h.at 2 rfl, h.at 3 rfl, h.at 4 rfl, h.at 5 rfl, h.at 6 rfl, h.at 7 rfl, h.at 8 rfl, h.at 9 rfl, h.at 10 rfl, h.at 11 rfl, h.at 12 rfl, h.at 13 rfl⟩

theorem Blk.all15 {W : World} {k : Nat} {x0 x1 x2 x3 x4 x5 x6 x7 x8 x9 x10 x11 x12 x13 x14 : Value} (h : Blk W k [x0, x1, x2, x3, x4, x5, x6, x7, x8, x9, x10, x11, x12, x13, x14]) : W.cell? ⟨k, 0, none⟩ = some x0 ∧ W.cell? ⟨k, 1, none⟩ = some x1 ∧ W.cell? ⟨k, 2, none⟩ = some x2 ∧ W.cell? ⟨k, 3, none⟩ = some x3 ∧ W.cell? ⟨k, 4, none⟩ = some x4 ∧ W.cell? ⟨k, 5, none⟩ = some x5 ∧ W.cell? ⟨k, 6, none⟩ = some x6 ∧ W.cell? ⟨k, 7, none⟩ = some x7 ∧ W.cell? ⟨k, 8, none⟩ = some x8 ∧ W.cell? ⟨k, 9, none⟩ = some x9 ∧ W.cell? ⟨k, 10, none⟩ = some x10 ∧ W.cell? ⟨k, 11, none⟩ = some x11 ∧ W.cell? ⟨k, 12, none⟩ = some x12 ∧ W.cell? ⟨k, 13, none⟩ = some x13 ∧ W.cell? ⟨k, 14, none⟩ = some x14 := ⟨h.at 0 rfl, h.at 1 rfl, h.at 2 rfl, h.at 3 rfl, h.at 4 rfl, h.at 5 rfl, h.at 6 rfl, h.at 7 rfl, h.at 8 rfl, h.at 9 rfl, h.at 10 rfl, h.at 11 rfl, h.at 12 rfl, h.at 13 rfl, h.at 14 rfl⟩

theorem Blk.all16 {W : World} {k : Nat} {x0 x1 x2 x3 x4 x5 x6 x7 x8 x9 x10 x11 x12 x13 x14 x15 : Value} (h : Blk W k [x0, x1, x2, x3, x4, x5, x6, x7, x8, x9, x10, x11, x12, x13, x14, x15]) : W.cell? ⟨k, 0, none⟩ = some x0 ∧ W.cell? ⟨k, 1, none⟩ = some x1 ∧ W.cell? ⟨k, 2, none⟩ = some x2 ∧ W.cell? ⟨k, 3, none⟩ = some x3 ∧ W.cell? ⟨k, 4, none⟩ = some x4 ∧ W.cell? ⟨k, 5, none⟩ = some x5 ∧ W.cell? ⟨k, 6, none⟩ = some x6 ∧ W.cell? ⟨k, 7, none⟩ = some x7 ∧ W.cell? ⟨k, 8, none⟩ = some x8 ∧ W.cell? ⟨k, 9, none⟩ = some x9 ∧ W.cell? ⟨k, 10, none⟩ = some x10 ∧ W.cell? ⟨k, 11, none⟩ = some x11 ∧ W.cell? ⟨k, 12, none⟩ = some x12 ∧ W.cell? ⟨k, 13, none⟩ = some x13 ∧ W.cell? ⟨k, 14, none⟩ = some x14 ∧ W.cell? ⟨k, 15, none⟩ = some x15 := ⟨h.at 0 rfl, h.at 1 rfl, h.at 2 rfl, h.at 3 rfl, h.at 4 rfl, h.at 5 rfl, h.at 6 rfl, h.at 7 rfl, h.at 8 rfl, h.at 9 rfl, h.at 10 rfl, h.at 11 rfl, h.at 12 rfl, h.at 13 rfl, h.at 14 rfl, h.at 15 rfl⟩

theorem Blk.draw (W : World) {k : Nat} {l : List Value} (h : Blk W k l) : Blk W.drew k l := h

theorem Blk.drawn {W : World} {o : Obj} {k : Nat} {l : List Value} (h : Blk (W.alloc o) k l) : Blk (W.alloc o).drew k l := h

theorem bel_draw (W : World) {a : World} (h : Below a.heap.size a W) : Below a.heap.size a W.drew := h.drew

theorem bel_drawn {W a : World} {o : Obj} (h : Below a.heap.size a (W.alloc o)) : Below a.heap.size a (W.alloc o).drew := h.drew

end Bx
end Go.Proofs.Ytkjdnmlaehjmgaa
