/-
  A block that may be written (no program): what a store of several cells at a place within it leaves of it and of others; the steps over such a store.
-/
import Derived.Test.YtkjdnmlaehjmgaaFre
import Derived.Test.YtkjdnmlaehjmgaaWhole
namespace Go.Proofs.Ytkjdnmlaehjmgaa
open Go.RowKit
namespace Bx

/-- A list with some places from one on set anew. -/
def setL : List Value → Nat → List Value → List Value
  | l, _, [] => l
  | l, o, v :: m => setL (l.set o v) (o + 1) m

theorem Fre.put_at : ∀ (m : List Value) {W : World} {k : Nat} {l : List Value} (o : Nat), Fre W k l → Fre (W.setCells k o m) k (setL l o m)
  | [], _, _, _, _, h => h
  | v :: m, _, _, _, o, h => Fre.put_at m (o + 1) (h.set o v)

theorem Fre.apart_at : ∀ (m : List Value) {W : World} {k k' : Nat} {l : List Value} (o : Nat), k ≠ k' → Fre W k l → Fre (W.setCells k' o m) k l
  | [], _, _, _, _, _, _, h => h
  | _ :: m, _, _, _, _, o, hne, h => Fre.apart_at m (o + 1) hne (h.other hne)

theorem Blk.apart_at : ∀ (m : List Value) {W : World} {k k' : Nat} {l : List Value} (o : Nat), k ≠ k' → Blk W k l → Blk (W.setCells k' o m) k l
  | [], _, _, _, _, _, _, h => h
  | _ :: m, _, _, _, _, o, hne, h => Blk.apart_at m (o + 1) hne (h.other hne)

theorem cell_apart_at {W : World} {b j k' : Nat} {v : Value} (m : List Value) (o : Nat) (hne : b ≠ k') (h : W.cell? ⟨b, j, none⟩ = some v) : (W.setCells k' o m).cell? ⟨b, j, none⟩ = some v := by
  rw [World.cell?_setCells_out k' m o W ⟨b, j, none⟩ (fun hb _ => absurd hb hne)]
  exact h

theorem cell_other {W : World} {b j k' o : Nat} {v x : Value} (hne : b ≠ k') (h : W.cell? ⟨b, j, none⟩ = some v) : (W.setCell ⟨k', o, none⟩ x).cell? ⟨b, j, none⟩ = some v := by
  rw [World.cell?_setCell_other _ _ _ _ (by intro e; cases e; exact hne rfl)]
  exact h

theorem cell_other_drew {W : World} {b j k' o : Nat} {v x : Value} (hne : b ≠ k') (h : W.drew.cell? ⟨b, j, none⟩ = some v) : (W.setCell ⟨k', o, none⟩ x).drew.cell? ⟨b, j, none⟩ = some v := cell_other (W := W) hne h

theorem Blk.other_drew {W : World} {k k' o : Nat} {l : List Value} {x : Value} (h : Blk W.drew k l) (hne : k ≠ k') : Blk (W.setCell ⟨k', o, none⟩ x).drew k l := Blk.other (W := W) h hne

theorem Fre.other_drew {W : World} {k k' o : Nat} {l : List Value} {x : Value} (h : Fre W.drew k l) (hne : k ≠ k') : Fre (W.setCell ⟨k', o, none⟩ x).drew k l := Fre.other (W := W) h hne

theorem bel_put_at : ∀ (m : List Value) {a W : World} {k : Nat} (o : Nat), a.heap.size ≤ k → Below a.heap.size a W → Below a.heap.size a (W.setCells k o m)
  | [], _, _, _, _, _, h => h
  | _ :: m, _, _, _, o, hk, h => bel_put_at m (o + 1) hk (h.setCell hk _)

theorem bel_set {a W : World} {k o : Nat} {x : Value} (hk : a.heap.size ≤ k) (h : Below a.heap.size a W) : Below a.heap.size a (W.setCell ⟨k, o, none⟩ x) := h.setCell hk _

theorem Fre.there {W : World} {k : Nat} {l : List Value} (h : Fre W k l) (o n : Nat) (hn : o + n ≤ l.length) : W.there k o n := fun j hj =>
  ⟨by rw [h.1 (o + j) _ (List.getElem?_eq_getElem (by omega))]; rfl, h.2.2 (o + j)⟩

theorem Fre.own {W : World} {k : Nat} {l : List Value} (h : Fre W k l) : Own W k l := ⟨h.1, h.there 0 l.length (by omega)⟩

theorem Fre.blk {W : World} {k : Nat} {l : List Value} (h : Fre W k l) : Blk W k l := h.1

theorem Fre.at {W : World} {k : Nat} {l : List Value} (h : Fre W k l) (j : Nat) {v : Value} (hv : l[j]? = some v) : W.cell? ⟨k, j, none⟩ = some v := h.1 j v hv

/-- A block whose cells are all set anew. -/
theorem Fre.full {W : World} {k : Nat} {l m : List Value} (h : Fre W k l) (hm : m.length = l.length) : Fre (W.setCells k 0 m) k m := ⟨(h.own.put hm).1, (Fre.put_at m 0 h).2⟩

theorem Fre.of {W : World} {k : Nat} {l m : List Value} (h : Fre W k l) (e : l = m) : Fre W k m := e ▸ h

section
variable {P : Program} {ops : Array Oper} {rest : List Oper} {op : Oper} {a : Act} {W : World} {Q : Exit → Act → World → Prop}

/-- The step over a store of a whole struct at a place within a block. -/
theorem wp_store_at {K : Act → World → Prop} (ty : TypeId) (x y : Operand) (ho : op.op = .store ty x y) (k o : Nat) (zs l : List Value) (hx : a.eval x = .pointer (some ⟨k, o, none⟩)) (hy : a.eval y = .agg l.toArray)
    (hi : (P.info? ty).map (·.size) = some l.length) (h1 : ∀ v ∈ l, v.oneCell' = true) (hz : o + l.length ≤ zs.length) (hF : Fre W k zs)
    (h : K (a.put op.dst undef) (W.setCells k o l)) : op.wp P a W K Q :=
  wp_store_mid ty x y ho k o l.toArray hx hy (by simpa using hF.there o l.length hz) (by simpa using hi) (all_oneCell_toArray h1) (by simpa using h)

theorem step_store_at (hgd : Region.wanted op (yielded ops a.tmps) = true) (ty : TypeId) (x y : Operand) (ho : op.op = .store ty x y) (k o : Nat) (zs l : List Value) (hx : a.eval x = .pointer (some ⟨k, o, none⟩)) (hy : a.eval y = .agg l.toArray)
    (hi : (P.info? ty).map (·.size) = some l.length) (h1 : ∀ v ∈ l, v.oneCell' = true) (hz : o + l.length ≤ zs.length) (hF : Fre W k zs)
    (h : wpList P ops Q rest (a.put op.dst undef) (W.setCells k o l)) : wpList P ops Q (op :: rest) a W :=
  BigFrame.wpList_want hgd fun _ hK => wp_store_at ty x y ho k o zs l hx hy hi h1 hz hF (hK _ _ h)
end

end Bx
end Go.Proofs.Ytkjdnmlaehjmgaa
