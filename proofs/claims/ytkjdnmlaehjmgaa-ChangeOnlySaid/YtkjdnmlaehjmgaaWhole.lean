/-
  Values of many cells in memory: a whole struct or array read and written at once (no program): what a block holds that may be written, what stays of it, and the steps of a walk over a load and a store of many cells.
-/
import Derived.Test.YtkjdnmlaehjmgaaBox
import Derived.Deep.MidRow
import Derived.BigFrame
namespace Go.Proofs.Ytkjdnmlaehjmgaa
open Go.RowKit
namespace Bx

theorem Blk.range {W : World} {k : Nat} {l : List Value} (h : Blk W k l) : W.rangeAt k 0 l := fun j v hv => by rw [Nat.zero_add]; exact h j v hv

/-- The first cells of a block, which may be written. -/
def Own (W : World) (k : Nat) (l : List Value) : Prop := Blk W k l ∧ W.there k 0 l.length

theorem Own.blk {W : World} {k : Nat} {l : List Value} (h : Own W k l) : Blk W k l := h.1

theorem there_keep {W w1 : World} {k n : Nat} (h : W.there k 0 n) (hb : Below W.heap.size W w1) : w1.there k 0 n := fun j hj => by
  obtain ⟨h1, h2⟩ := h j hj
  obtain ⟨u, hu⟩ := Option.isSome_iff_exists.1 h1
  have hlt := World.block_lt_of_cell? W _ hu
  exact ⟨by rw [hb.cell hlt]; exact h1, by rw [hb.frozen hlt]; exact h2⟩

theorem Own.keep {W w1 : World} {k : Nat} {l : List Value} (h : Own W k l) (hb : Below W.heap.size W w1) : Own w1 k l := ⟨h.1.keep hb, there_keep h.2 hb⟩

theorem Own.more {W : World} {k : Nat} {l : List Value} (h : Own W k l) (o : Obj) : Own (W.alloc o) k l := h.keep (box_below W o)

theorem Own.draw {W : World} {k : Nat} {l : List Value} (h : Own W k l) : Own W.drew k l := h

theorem there_new (W : World) (l : List Value) (t : TypeId) : (W.alloc (.cells l.toArray t)).there W.heap.size 0 l.length := fun j hj => by
  rw [Nat.zero_add]
  refine ⟨?_, ?_⟩
  · rw [World.cell?_alloc_new]; simp [hj]
  · simp [go_sem]

theorem Own.new (W : World) (l : List Value) (t : TypeId) : Own (W.alloc (.cells l.toArray t)) W.heap.size l := ⟨Blk.new W l t, there_new W l t⟩

theorem Own.new_at {W : World} {k : Nat} (l : List Value) (t : TypeId) (hk : k = W.heap.size) : Own (W.alloc (.cells l.toArray t)) k l := by subst hk; exact Own.new W l t

theorem Own.put {W : World} {k : Nat} {l m : List Value} (h : Own W k l) (hm : m.length = l.length) : Own (W.setCells k 0 m) k m := by
  refine ⟨fun j v hv => ?_, fun j hj => ?_⟩
  · have := World.rangeAt_setCells_same W k 0 m (by rw [hm]; exact h.2) j v hv
    rwa [Nat.zero_add] at this
  · exact World.there_setCells h.2 k 0 m j (by omega)

theorem Blk.apart {W : World} {k k' : Nat} {l m : List Value} (h : Blk W k l) (hne : k ≠ k') : Blk (W.setCells k' 0 m) k l := fun j v hv => by
  have := World.rangeAt_setCells_apart h.range k' 0 m (.inl hne) j v hv
  rwa [Nat.zero_add] at this

theorem cell_cells {W : World} {m k j : Nat} {v : Value} {l : List Value} (h : W.cell? ⟨m, j, none⟩ = some v) (hne : m ≠ k) : (W.setCells k 0 l).cell? ⟨m, j, none⟩ = some v := by
  rw [World.cell?_setCells_out k l 0 W ⟨m, j, none⟩ (fun hb _ => absurd hb hne)]
  exact h

theorem Own.apart {W : World} {k k' : Nat} {l m : List Value} (h : Own W k l) (hne : k ≠ k') : Own (W.setCells k' 0 m) k l := ⟨h.1.apart hne, World.there_setCells h.2 k' 0 m⟩

theorem below_cells {B : Nat} {a : World} (b : Nat) (hb : B ≤ b) : ∀ (vs : List Value) (o : Nat) {w : World}, Below B a w → Below B a (w.setCells b o vs)
  | [], _, _, h => h
  | v :: r, o, _, h => below_cells b hb r (o + 1) (h.setCell (p := ⟨b, o, none⟩) hb v)

theorem bel_cells {a W : World} {k : Nat} {m : List Value} (h : Below a.heap.size a W) (hb : a.heap.size ≤ k) : Below a.heap.size a (W.setCells k 0 m) := below_cells k hb m 0 h

theorem setCells_new (W : World) (t : TypeId) : ∀ (vs pre zs : List Value), zs.length = vs.length → (W.alloc (.cells (pre ++ zs).toArray t)).setCells W.heap.size pre.length vs = W.alloc (.cells (pre ++ vs).toArray t)
  | [], pre, zs, h => by
    have : zs = [] := List.eq_nil_of_length_eq_zero h
    subst this
    rfl
  | v :: vs, pre, [], h => by simp at h
  | v :: vs, pre, z :: zs, h => by
    have ih := setCells_new W t vs (pre ++ [v]) zs (by simpa using h)
    rw [World.setCells, World.setCell_alloc_new]
    have e : (pre ++ z :: zs).toArray.setIfInBounds pre.length v = (pre ++ [v] ++ zs).toArray := by simp
    rw [e]
    simpa using ih

section
variable {P : Program} {ops : Array Oper} {rest : List Oper} {op : Oper} {a : Act} {W : World} {Q : Exit → Act → World → Prop}

/-- The step over a load of a whole struct or array. -/
theorem step_load (hgd : Region.wanted op (yielded ops a.tmps) = true) (ty : TypeId) (x : Operand) (ho : op.op = .load ty x) (k : Nat) (hx : a.eval x = .pointer (some ⟨k, 0, none⟩)) (l : List Value) (d : TypeDesc)
    (hu : P.underlying ty = some d) (hd : d.isRow = true) (hi : (P.info? ty).map (·.size) = some l.length) (hB : Blk W k l)
    (h : wpList P ops Q rest (a.put op.dst (.agg l.toArray)) W) : wpList P ops Q (op :: rest) a W :=
  BigFrame.wpList_want hgd fun _ hK => wp_load_mid ty x ho k 0 hx l d hB.range hu hd hi (hK _ _ h)

/-- The step over a store of a whole struct or array into a block that was just made. -/
theorem step_new (hgd : Region.wanted op (yielded ops a.tmps) = true) (ty : TypeId) (x y : Operand) (ho : op.op = .store ty x y) (zs l : List Value) (t : TypeId) (hx : a.eval x = .pointer (some ⟨W.heap.size, 0, none⟩)) (hy : a.eval y = .agg l.toArray)
    (hz : zs.length = l.length) (hi : (P.info? ty).map (·.size) = some l.length) (h1 : ∀ v ∈ l, v.oneCell' = true)
    (h : wpList P ops Q rest (a.put op.dst undef) (W.alloc (.cells l.toArray t))) : wpList P ops Q (op :: rest) a (W.alloc (.cells zs.toArray t)) := by
  refine BigFrame.wpList_want hgd fun _ hK => wp_store_mid ty x y ho W.heap.size 0 l.toArray hx hy ?_ (by simpa using hi) (all_oneCell_toArray h1) (hK _ _ ?_)
  · have := there_new W zs t
    rw [hz] at this
    simpa using this
  · have := setCells_new W t l [] zs hz
    simp only [List.nil_append, List.length_nil] at this
    simp only [this]
    exact h

/-- The step over such a store into an older block. -/
theorem step_store (hgd : Region.wanted op (yielded ops a.tmps) = true) (ty : TypeId) (x y : Operand) (ho : op.op = .store ty x y) (k : Nat) (zs l : List Value) (hx : a.eval x = .pointer (some ⟨k, 0, none⟩)) (hy : a.eval y = .agg l.toArray)
    (hz : zs.length = l.length) (hi : (P.info? ty).map (·.size) = some l.length) (h1 : ∀ v ∈ l, v.oneCell' = true) (hO : Own W k zs)
    (h : wpList P ops Q rest (a.put op.dst undef) (W.setCells k 0 l)) : wpList P ops Q (op :: rest) a W := by
  refine BigFrame.wpList_want hgd fun _ hK => wp_store_mid ty x y ho k 0 l.toArray hx hy ?_ (by simpa using hi) (all_oneCell_toArray h1) (hK _ _ ?_)
  · have := hO.2
    rw [hz] at this
    simpa using this
  · simpa using h
end

end Bx
end Go.Proofs.Ytkjdnmlaehjmgaa
