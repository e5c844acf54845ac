/-
  A list of what happens that came in: in memory, each step field by field.
-/
import Derived.Test.YtfnjgjehmddkcaaDoorTabK
import Derived.Test.YtfnjgjehmddkcaaDoorOpenRows
import Derived.WideShapes
namespace Go.Proofs.YtfnjgjehmddkcaaDoor
open Go.ChangeShapes Go.WideShapes Go.ChangeAt Go.RowKit Go.Deep
namespace Tab

/-- The slice that begins at A reads as the steps l. -/
def Ops (w : World) (A : Option Addr) (l : List Ev) : Prop := ∀ j x, l[j]? = some x → ∃ b o, A = some ⟨b, o, none⟩ ∧ b < w.heap.size ∧ w.cell? ⟨b, o + j * 5, none⟩ = some (.int .i64 x.k) ∧ w.cell? ⟨b, o + j * 5 + 1, none⟩ = some (.int .i64 x.v) ∧ w.cell? ⟨b, o + j * 5 + 2, none⟩ = some (.int .u64 x.m) ∧ w.cell? ⟨b, o + j * 5 + 3, none⟩ = some (.int .i64 x.p) ∧ w.cell? ⟨b, o + j * 5 + 4, none⟩ = some (.int .i64 x.s)

theorem Ops.below {w w' : World} {A : Option Addr} {l : List Ev} (h : Ops w A l) (hb : Below w.heap.size w w') : Ops w' A l := fun j x hj => by
  obtain ⟨b, o, e, h1, h2, h3, h4, h5, h6⟩ := h j x hj
  exact ⟨b, o, e, Nat.lt_of_lt_of_le h1 hb.size, Bx.keep_cell hb h2, Bx.keep_cell hb h3, Bx.keep_cell hb h4, Bx.keep_cell hb h5, Bx.keep_cell hb h6⟩

theorem Ops.at {w : World} {A : Option Addr} {l : List Ev} (h : Ops w A l) {k : Nat} (hk : k < l.length) : ∃ b o, A = some ⟨b, o, none⟩ ∧ b < w.heap.size ∧ w.cell? ⟨b, o + k * 5, none⟩ = some (.int .i64 l[k].k) ∧ w.cell? ⟨b, o + k * 5 + 1, none⟩ = some (.int .i64 l[k].v) ∧ w.cell? ⟨b, o + k * 5 + 2, none⟩ = some (.int .u64 l[k].m) ∧ w.cell? ⟨b, o + k * 5 + 3, none⟩ = some (.int .i64 l[k].p) ∧ w.cell? ⟨b, o + k * 5 + 4, none⟩ = some (.int .i64 l[k].s) := h k l[k] (List.getElem?_eq_getElem hk)

theorem nat_u64 {n : Int} (h : (Lit.int .u64 n).wf = true) : ∃ m : Nat, n = m ∧ m < 18446744073709551616 := by
  have h0 : IntKind.u64.min = 0 := by decide
  have h1 : IntKind.u64.max = 18446744073709551615 := by decide
  simp [Lit.wf, h0, h1] at h
  exact ⟨n.toNat, by omega, by omega⟩

end Tab
end Go.Proofs.YtfnjgjehmddkcaaDoor
