/-
  Cells that stand in a block of memory: what stays of them behind a call that makes memory, behind a new block, and behind a store elsewhere. (No program.)
-/
import Derived.WalkKit
import Derived.Below
import Derived.Laws.World
namespace Go.Proofs.Ytdnpmajehnddkaa
open Go.RowKit
namespace Bx

theorem keep_cell {W w1 : World} {g o : Nat} {v : Value} (hb : Below W.heap.size W w1) (h : W.cell? ⟨g, o, none⟩ = some v) : w1.cell? ⟨g, o, none⟩ = some v := (hb.cell (p := ⟨g, o, none⟩) (World.block_lt_of_cell? _ _ h)).trans h

theorem then_below {a b c : World} (h1 : Below a.heap.size a b) (h2 : Below b.heap.size b c) : Below a.heap.size a c := h1.trans (h2.mono h1.size)

theorem bel_drew {a b c : World} (h1 : Below a.heap.size a b) (h2 : Below b.drew.heap.size b.drew c) : Below a.heap.size a c := h1.drew.trans (h2.mono h1.size)

theorem bel_drewn {a b : World} (h1 : Below a.heap.size a b) : Below a.heap.size a b.drew := h1.drew

theorem box_below (w : World) (o : Obj) : Below w.heap.size w (w.alloc o) := (Below.refl _ _).alloc (Nat.le_refl _) _

theorem bel_box {a w : World} (h : Below a.heap.size a w) (o : Obj) : Below a.heap.size a (w.alloc o) := h.alloc h.size o

theorem bel_refl (w : World) : Below w.heap.size w w := Below.refl _ _

theorem bcell {W w1 : World} (hb : Below W.heap.size W w1) : (∀ b o, b < W.heap.size → w1.cell? ⟨b, o, none⟩ = W.cell? ⟨b, o, none⟩) ∧ (∀ b o, b < W.heap.size → w1.frozen? ⟨b, o, none⟩ = W.frozen? ⟨b, o, none⟩) :=
  ⟨fun b o h => hb.cell (p := ⟨b, o, none⟩) h, fun b o h => hb.frozen (p := ⟨b, o, none⟩) h⟩

theorem cell_set (W : World) (b o b' o' : Nat) (v : Value) : (W.setCell ⟨b, o, none⟩ v).cell? ⟨b', o', none⟩ = if b = b' ∧ o = o' then (W.cell? ⟨b', o', none⟩).map (fun _ => v) else W.cell? ⟨b', o', none⟩ := by
  split
  · rename_i h
    obtain ⟨rfl, rfl⟩ := h
    cases hc : W.cell? ⟨b, o, none⟩ with
    | some u => rw [World.cell?_setCell_same _ _ _ hc]; rfl
    | none =>
      simp only [World.setCell, World.cell?, Array.getElem?_modify, ↓reduceIte] at hc ⊢
      cases hh : W.heap[b]? with
      | none => simp
      | some ob => cases ob <;> simp_all
  · rename_i h
    exact World.cell?_setCell_other _ _ _ _ (by intro e; cases e; exact h ⟨rfl, rfl⟩)

/-- The first cells of a block. -/
def Blk (W : World) (k : Nat) (l : List Value) : Prop := ∀ j v, l[j]? = some v → W.cell? ⟨k, j, none⟩ = some v

theorem Blk.at {W : World} {k : Nat} {l : List Value} (h : Blk W k l) (j : Nat) {v : Value} (hv : l[j]? = some v) : W.cell? ⟨k, j, none⟩ = some v := h j v hv

theorem Blk.keep {W w1 : World} {k : Nat} {l : List Value} (h : Blk W k l) (hb : Below W.heap.size W w1) : Blk w1 k l := fun j v hv => keep_cell hb (h j v hv)

theorem Blk.drew {W : World} {k : Nat} {l : List Value} (h : Blk W k l) : Blk W.drew k l := h

theorem Blk.more {W : World} {k : Nat} {l : List Value} (h : Blk W k l) (o : Obj) : Blk (W.alloc o) k l := h.keep (box_below W o)

theorem Blk.new (W : World) (l : List Value) (t : TypeId) : Blk (W.alloc (.cells l.toArray t)) W.heap.size l := fun j v hv => by
  rw [World.cell?_alloc_new]
  simpa using hv

theorem Blk.new_at {W : World} {k : Nat} (l : List Value) (t : TypeId) (hk : k = W.heap.size) : Blk (W.alloc (.cells l.toArray t)) k l := by subst hk; exact Blk.new W l t

theorem Blk.lt {W : World} {k : Nat} {l : List Value} (h : Blk W k l) (h0 : 0 < l.length) : k < W.heap.size := World.block_lt_of_cell? _ _ (h 0 _ (List.getElem?_eq_getElem h0))

theorem Blk.other {W : World} {k k' o : Nat} {l : List Value} {x : Value} (h : Blk W k l) (hne : k ≠ k') : Blk (W.setCell ⟨k', o, none⟩ x) k l := fun j v hv => by rw [cell_set, if_neg (by omega)]; exact h j v hv

/-- A store into one of the cells. -/
theorem Blk.set {W : World} {k : Nat} {l : List Value} (h : Blk W k l) (o : Nat) (x : Value) : Blk (W.setCell ⟨k, o, none⟩ x) k (l.set o x) := fun j v hv => by
  rw [cell_set]
  by_cases e : o = j
  · subst e
    rw [if_pos ⟨rfl, rfl⟩]
    rw [List.getElem?_set] at hv
    simp only [if_true] at hv
    split at hv
    · rename_i hlt
      rw [h o _ (List.getElem?_eq_getElem hlt)]
      simpa using hv
    · cases hv
  · rw [if_neg (by omega)]
    rw [List.getElem?_set_ne e] at hv
    exact h j v hv

end Bx
end Go.Proofs.Ytdnpmajehnddkaa
