/-
  A list of what happens that came in: in memory, each step field by field.
-/
import Derived.Test.YtfnjgjehmddkcaaTabK
import Derived.Test.YtfnjgjehmddkcaaOpenRows
import Derived.WideShapes
namespace Go.Proofs.Ytfnjgjehmddkcaa
open Go.ChangeShapes Go.WideShapes Go.ChangeAt Go.RowKit Go.Deep
namespace Tab

/-- The slice that begins at A reads as the steps l. -/
def Ops (w : World) (A : Option Addr) (l : List Ev) : Prop := ∀ j x, l[j]? = some x → ∃ b o, A = some ⟨b, o, none⟩ ∧ b < w.heap.size ∧ w.cell? ⟨b, o + j * 5, none⟩ = some (.int .i64 x.k) ∧ w.cell? ⟨b, o + j * 5 + 1, none⟩ = some (.int .i64 x.v) ∧ w.cell? ⟨b, o + j * 5 + 2, none⟩ = some (.int .u64 x.m) ∧ w.cell? ⟨b, o + j * 5 + 3, none⟩ = some (.int .i64 x.p) ∧ w.cell? ⟨b, o + j * 5 + 4, none⟩ = some (.int .i64 x.s)

theorem Ops.below {w w' : World} {A : Option Addr} {l : List Ev} (h : Ops w A l) (hb : Below w.heap.size w w') : Ops w' A l := fun j x hj => by
  obtain ⟨b, o, e, h1, h2, h3, h4, h5, h6⟩ := h j x hj
  exact ⟨b, o, e, Nat.lt_of_lt_of_le h1 hb.size, Bx.keep_cell hb h2, Bx.keep_cell hb h3, Bx.keep_cell hb h4, Bx.keep_cell hb h5, Bx.keep_cell hb h6⟩

theorem Ops.at {w : World} {A : Option Addr} {l : List Ev} (h : Ops w A l) {k : Nat} (hk : k < l.length) : ∃ b o, A = some ⟨b, o, none⟩ ∧ b < w.heap.size ∧ w.cell? ⟨b, o + k * 5, none⟩ = some (.int .i64 l[k].k) ∧ w.cell? ⟨b, o + k * 5 + 1, none⟩ = some (.int .i64 l[k].v) ∧ w.cell? ⟨b, o + k * 5 + 2, none⟩ = some (.int .u64 l[k].m) ∧ w.cell? ⟨b, o + k * 5 + 3, none⟩ = some (.int .i64 l[k].p) ∧ w.cell? ⟨b, o + k * 5 + 4, none⟩ = some (.int .i64 l[k].s) := h k l[k] (List.getElem?_eq_getElem hk)

theorem nat_u64 {n : Int} (h : (Lit.int .u64 n).wf = true) : ∃ m : Nat, n = m ∧ m < 18446744073709551616 := by
  have h0 : IntKind.u64.min = 0 := by decide
  have h1 : IntKind.u64.max = 18446744073709551615 := by decide
  simp [Lit.wf, h0, h1] at h
  exact ⟨n.toNat, by omega, by omega⟩

theorem open_ops {H : Type} {enc : TypeId × Value → H} {W : World} {base b0 : Nat} {spare : Nat → Bool} {held : Bool} {r : Reach} {v : Value} {d : DataW H} {p : List MemPlace}
    (hv : Value.okWide Try.prog W r b0 22 v) (h : DataW.Trod enc Try.prog W base spare held 22 v d p) :
    ∃ (A : Option Addr) (l : List Ev) (cap : Nat), v = .slice A l.length cap ∧ l.length ≤ maxLen ∧ Ops W A l ∧ ∀ x ∈ l, x.m < 18446744073709551616 := by
  obtain ⟨a0, len, cap, rfl⟩ := okWide_slice Try.underlying22 hv
  obtain ⟨fuel, hf⟩ := h
  have hS : Try.prog.underlying 33 = some (.struct (Try.prog.fieldsOf 33)) := by kernel_rfl
  have h5 : (Try.prog.fieldsOf 33).size = 5 := by kernel_rfl
  rcases Fr.open_rows Try.underlying22 hS (by kernel_rfl) (by kernel_rfl) hf with hcs | ⟨a, len', cap', n, hcs, hl, hm, hcell⟩
  · simp [Value.cells] at hcs
    obtain ⟨rfl, rfl, rfl⟩ := hcs
    exact ⟨none, [], 0, rfl, Nat.zero_le _, (fun j x h => by simp at h), fun x hx => by simp at hx⟩
  · simp [Value.cells] at hcs
    obtain ⟨rfl, rfl, rfl⟩ := hcs
    rw [h5] at hcell
    have fld : ∀ (j : Nat) (f : Field), (Try.prog.fieldsOf 33)[j]? = some f → ∀ i, i < len → ∃ c y, W.cell? (a.add (i * 5 + j)) = some c ∧ DataW.trod enc Try.prog W base spare held n f.type [c] = some y := fun j f hj i hi => hcell i hi j f hj
    have each : ∀ i, i < len → ∃ x : Ev, W.cell? (a.add (i * 5 + 0)) = some (.int .i64 x.k) ∧ W.cell? (a.add (i * 5 + 1)) = some (.int .i64 x.v) ∧ W.cell? (a.add (i * 5 + 2)) = some (.int .u64 x.m) ∧ W.cell? (a.add (i * 5 + 3)) = some (.int .i64 x.p) ∧ W.cell? (a.add (i * 5 + 4)) = some (.int .i64 x.s) ∧ x.m < 18446744073709551616 := by
      intro i hi
      obtain ⟨c0, y0, e0, t0⟩ := fld 0 ((Try.prog.fieldsOf 33)[0]'(by rw [h5]; decide)) (Array.getElem?_eq_getElem _) i hi
      obtain ⟨c1, y1, e1, t1⟩ := fld 1 ((Try.prog.fieldsOf 33)[1]'(by rw [h5]; decide)) (Array.getElem?_eq_getElem _) i hi
      obtain ⟨c2, y2, e2, t2⟩ := fld 2 ((Try.prog.fieldsOf 33)[2]'(by rw [h5]; decide)) (Array.getElem?_eq_getElem _) i hi
      obtain ⟨c3, y3, e3, t3⟩ := fld 3 ((Try.prog.fieldsOf 33)[3]'(by rw [h5]; decide)) (Array.getElem?_eq_getElem _) i hi
      obtain ⟨c4, y4, e4, t4⟩ := fld 4 ((Try.prog.fieldsOf 33)[4]'(by rw [h5]; decide)) (Array.getElem?_eq_getElem _) i hi
      obtain ⟨x0, g0, _, _⟩ := DataW.trod_int Try.underlying3 t0
      obtain ⟨x1, g1, _, _⟩ := DataW.trod_int Try.underlying3 t1
      obtain ⟨x2, g2, _, w2⟩ := DataW.trod_int Try.underlying31 t2
      obtain ⟨x3, g3, _, _⟩ := DataW.trod_int Try.underlying3 t3
      obtain ⟨x4, g4, _, _⟩ := DataW.trod_int Try.underlying3 t4
      simp at g0 g1 g2 g3 g4
      obtain ⟨m, rfl, hm⟩ := nat_u64 w2
      subst g0 g1 g2 g3 g4
      exact ⟨⟨x0, x1, m, x3, x4⟩, e0, e1, e2, e3, e4, hm⟩
    haveI : Inhabited Ev := ⟨⟨0, 0, 0, 0, 0⟩⟩
    obtain ⟨q, hq⟩ := choose_lt each
    have hget : ∀ j x, ((List.range len).map q)[j]? = some x → j < len ∧ x = q j := by
      intro j x hj
      rw [List.getElem?_map] at hj
      cases hr : (List.range len)[j]? with
      | none => rw [hr] at hj; cases hj
      | some k =>
        rw [hr] at hj
        obtain ⟨h1, h2⟩ := List.getElem?_eq_some_iff.1 hr
        rw [List.getElem_range] at h2
        rw [List.length_range] at h1
        subst h2
        exact ⟨h1, (Option.some.inj hj).symm⟩
    refine ⟨some a, (List.range len).map q, cap, by simp, by simp; omega, fun j x hj => ?_, fun x hx => ?_⟩
    · obtain ⟨hj1, rfl⟩ := hget j x hj
      obtain ⟨c0, c1, c2, c3, c4, _⟩ := hq j hj1
      obtain ⟨b, o, sp⟩ := a
      cases sp with
      | none =>
        rw [Addr.add_lit] at c0 c1 c2 c3 c4
        exact ⟨b, o, rfl, World.block_lt_of_cell? _ _ c0, c0, c1, c2, c3, c4⟩
      | some s =>
        exfalso
        obtain ⟨c00, _⟩ := hq 0 (by omega)
        rw [show Addr.add ⟨b, o, some s⟩ (0 * 5 + 0) = ⟨b, o, some s⟩ from rfl, Fr.no_spot] at c00
        cases c00
    · obtain ⟨j, hj, rfl⟩ := List.mem_map.1 hx
      exact (hq j (List.mem_range.1 hj)).2.2.2.2.2

end Tab
end Go.Proofs.Ytfnjgjehmddkcaa
