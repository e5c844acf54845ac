/-
  What ether.Bytes, and the document's answer beside it, write of a right frame; and that they change nothing that was there.
-/
import Derived.Test.YtdnpmajehnddkaaEthB
namespace Go.Proofs.Ytdnpmajehnddkaa
open Go.RowKit
namespace Eth
open Oct Mac

theorem bel_drew {a b c : World} (h1 : Below a.heap.size a b) (h2 : Below b.drew.heap.size b.drew c) : Below a.heap.size a c := h1.drew.trans (h2.mono h1.size)

/-- The cells of a frame that stands in a block. -/
def Has (W : World) (k : Nat) (d s : Int) (g : Bool) (p v t : Int) (b : ByteArray) : Prop := W.cell? ⟨k, 0, none⟩ = some (.int .u64 d) ∧ W.cell? ⟨k, 1, none⟩ = some (.int .u64 s) ∧ W.cell? ⟨k, 2, none⟩ = some (.bool g) ∧ W.cell? ⟨k, 3, none⟩ = some (.int .i64 p) ∧ W.cell? ⟨k, 4, none⟩ = some (.int .i64 v) ∧ W.cell? ⟨k, 5, none⟩ = some (.int .i64 t) ∧ W.cell? ⟨k, 6, none⟩ = some (.string b)

theorem Has.keep {W w1 : World} {k : Nat} {d s : Int} {g : Bool} {p v t : Int} {b : ByteArray} (h : Has W k d s g p v t b) (hb : Below W.heap.size W w1) : Has w1 k d s g p v t b := by
  obtain ⟨h0, h1, h2, h3, h4, h5, h6⟩ := h
  exact ⟨keep_cell hb h0, keep_cell hb h1, keep_cell hb h2, keep_cell hb h3, keep_cell hb h4, keep_cell hb h5, keep_cell hb h6⟩

theorem Has.drew {W : World} {k : Nat} {d s : Int} {g : Bool} {p v t : Int} {b : ByteArray} (h : Has W k d s g p v t b) : Has W.drew k d s g p v t b := h

theorem Has.alloc (w : World) (d s : Int) (g : Bool) (p v t : Int) (b : ByteArray) : Has (w.alloc (Obj.cells #[Value.int IntKind.u64 d, Value.int IntKind.u64 s, Value.bool g, Value.int IntKind.i64 p, Value.int IntKind.i64 v, Value.int IntKind.i64 t, Value.string b] 34)) w.heap.size d s g p v t b :=
  ⟨by simp, by simp, by simp, by simp, by simp, by simp, by simp⟩

theorem Has.more {W : World} {k : Nat} {d s : Int} {g : Bool} {p v t : Int} {b : ByteArray} (h : Has W k d s g p v t b) (o : Obj) : Has (W.alloc o) k d s g p v t b := h.keep (box_below W o)

end Eth
end Go.Proofs.Ytdnpmajehnddkaa
