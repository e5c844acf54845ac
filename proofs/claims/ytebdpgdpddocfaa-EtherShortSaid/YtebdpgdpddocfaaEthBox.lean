/-
  Frames that stand in blocks: what stays of them behind a store, and what a whole frame's store leaves.
-/
import Derived.Test.YtebdpgdpddocfaaEthC
namespace Go.Proofs.Ytebdpgdpddocfaa
open Go.RowKit
namespace Eth

theorem Has.other {W : World} {k : Nat} {d s : Int} {g : Bool} {p v t : Int} {b : ByteArray} (h : Has W k d s g p v t b) {b' o' : Nat} {x : Value} (hne : k ≠ b') : Has (W.setCell ⟨b', o', none⟩ x) k d s g p v t b := by
  obtain ⟨h0, h1, h2, h3, h4, h5, h6⟩ := h
  have e : ∀ o, (W.setCell ⟨b', o', none⟩ x).cell? ⟨k, o, none⟩ = W.cell? ⟨k, o, none⟩ := fun o => by rw [cell_set, if_neg (by omega)]
  exact ⟨by rw [e]; exact h0, by rw [e]; exact h1, by rw [e]; exact h2, by rw [e]; exact h3, by rw [e]; exact h4, by rw [e]; exact h5, by rw [e]; exact h6⟩

theorem Has.put {W : World} {k : Nat} (h : Has W k 0 0 false 0 0 0 ⟨#[]⟩) (d s : Int) (g : Bool) (p v t : Int) (b : ByteArray) :
    Has (((((((W.setCell ⟨k, 0, none⟩ (.int .u64 d)).setCell ⟨k, 1, none⟩ (.int .u64 s)).setCell ⟨k, 2, none⟩ (.bool g)).setCell ⟨k, 3, none⟩ (.int .i64 p)).setCell ⟨k, 4, none⟩ (.int .i64 v)).setCell ⟨k, 5, none⟩ (.int .i64 t)).setCell ⟨k, 6, none⟩ (.string b)) k d s g p v t b := by
  obtain ⟨h0, h1, h2, h3, h4, h5, h6⟩ := h
  refine ⟨?_, ?_, ?_, ?_, ?_, ?_, ?_⟩ <;> simp [cell_set, h0, h1, h2, h3, h4, h5, h6]

theorem Has.apart {W : World} {k : Nat} {d s : Int} {g : Bool} {p v t : Int} {b : ByteArray} {b' o' : Nat} {x : Value} (hne : k ≠ b') (h : Has W k d s g p v t b) : Has (W.setCell ⟨b', o', none⟩ x) k d s g p v t b := h.other hne

theorem Has.apart7 {W : World} {k : Nat} {d s : Int} {g : Bool} {p v t : Int} {b : ByteArray} {k' : Nat} {x0 x1 x2 x3 x4 x5 x6 : Value} (hne : k ≠ k') (h : Has W k d s g p v t b) : Has (((((((W.setCell ⟨k', 0, none⟩ x0).setCell ⟨k', 1, none⟩ x1).setCell ⟨k', 2, none⟩ x2).setCell ⟨k', 3, none⟩ x3).setCell ⟨k', 4, none⟩ x4).setCell ⟨k', 5, none⟩ x5).setCell ⟨k', 6, none⟩ x6) k d s g p v t b :=
  ((((((h.other hne).other hne).other hne).other hne).other hne).other hne).other hne

theorem Has.new {w : World} {k : Nat} {d s : Int} {g : Bool} {p v t : Int} {b : ByteArray} (hk : k = w.heap.size) : Has (w.alloc (Obj.cells #[Value.int IntKind.u64 d, Value.int IntKind.u64 s, Value.bool g, Value.int IntKind.i64 p, Value.int IntKind.i64 v, Value.int IntKind.i64 t, Value.string b] 25)) k d s g p v t b := by
  subst hk
  exact Has.alloc w d s g p v t b

theorem bel_set7 {a W : World} {k' : Nat} {x0 x1 x2 x3 x4 x5 x6 : Value} (hb : a.heap.size ≤ k') (h : Below a.heap.size a W) : Below a.heap.size a (((((((W.setCell ⟨k', 0, none⟩ x0).setCell ⟨k', 1, none⟩ x1).setCell ⟨k', 2, none⟩ x2).setCell ⟨k', 3, none⟩ x3).setCell ⟨k', 4, none⟩ x4).setCell ⟨k', 5, none⟩ x5).setCell ⟨k', 6, none⟩ x6) :=
  ((((((h.setCell hb _).setCell hb _).setCell hb _).setCell hb _).setCell hb _).setCell hb _).setCell hb _

theorem Has.out {W : World} {k : Nat} {d s : Int} {g : Bool} {p v t : Int} {b : ByteArray} (h : Has W k d s g p v t b) : W.cell? ⟨k, 0, none⟩ = some (.int .u64 d) ∧ W.cell? ⟨k, 1, none⟩ = some (.int .u64 s) ∧ W.cell? ⟨k, 2, none⟩ = some (.bool g) ∧ W.cell? ⟨k, 3, none⟩ = some (.int .i64 p) ∧ W.cell? ⟨k, 4, none⟩ = some (.int .i64 v) ∧ W.cell? ⟨k, 5, none⟩ = some (.int .i64 t) ∧ W.cell? ⟨k, 6, none⟩ = some (.string b) := h

theorem bel_set {a w' : World} {b o : Nat} {x : Value} (hb : a.heap.size ≤ b) (h : Below a.heap.size a w') : Below a.heap.size a (w'.setCell ⟨b, o, none⟩ x) := h.setCell hb x

theorem bel_alloc {a w' : World} (h : Below a.heap.size a w') (o : Obj) : Below a.heap.size a (w'.alloc o) := h.alloc h.size o

theorem bel_draw {a w' : World} {o : Obj} (h : Below a.heap.size a (w'.alloc o)) : Below a.heap.size a (w'.alloc o).drew := h.drew

theorem Has.draw {W : World} {o : Obj} {k : Nat} {d s : Int} {g : Bool} {p v t : Int} {b : ByteArray} (h : Has (W.alloc o) k d s g p v t b) : Has (W.alloc o).drew k d s g p v t b := h.drew

end Eth
end Go.Proofs.Ytebdpgdpddocfaa
