/-
  A plan that came in by value: its two rows of numbers, and its VLANs in memory.
-/
import Derived.Test.YtbighadkcmhplaaMemA
import Derived.Test.YtbighadkcmhplaaOpenRows
import Derived.Test.YtbighadkcmhplaaOpenArr
import Derived.WideShapes
namespace Go.Proofs.Ytbighadkcmhplaa
open Go.ChangeShapes Go.WideShapes Go.ChangeAt Go.RowKit Go.Deep
namespace Mem

/-- Each cell of an array of integers that came in. -/
theorem chunk_ints {H : Type} {enc : TypeId × Value → H} {P : Program} {W : World} {base : Nat} {spare : Nat → Bool} {held : Bool} {t e : TypeId} {k : IntKind} {n fuel : Nat} {cs : List Value} {x : DataW H × List MemPlace}
    (ht : P.underlying t = some (.array n e)) (he : P.underlying e = some (.int k)) (hce : P.cellsOf e = 1) (h : DataW.trod enc P W base spare held fuel t cs = some x) :
    ∃ z : Nat → Int, ∀ j, j < n → cs[j]? = some (.int k (z j)) := by
  obtain ⟨xs, m, _, _, _, hxl, hx⟩ := DataW.trod_array ht h
  have each : ∀ j, j < n → ∃ z, cs[j]? = some (.int k z) := by
    intro j hj
    have g := hx j hj
    rw [hce, List.getElem?_eq_getElem (by omega), Nat.mul_one] at g
    obtain ⟨a, ha, _, _⟩ := DataW.trod_int he g
    refine ⟨a, ?_⟩
    have := congrArg (fun l : List Value => l[0]?) ha
    simpa [List.getElem?_take, List.getElem?_drop] using this
  exact choose_lt each

set_option maxRecDepth 20000 in
theorem open_vls {H : Type} {enc : TypeId × Value → H} {W : World} {base : Nat} {spare : Nat → Bool} {held : Bool} {fuel : Nat} {v : Value} {x : DataW H × List MemPlace}
    (hf : DataW.trod enc Try.prog W base spare held fuel 23 [v] = some x) :
    ∃ (A : Option Addr) (l : List Vl) (cap : Nat), v = .slice A l.length cap ∧ l.length ≤ maxLen ∧ Vls W A l := by
  have hS : Try.prog.underlying 38 = some (.struct (Try.prog.fieldsOf 38)) := by kernel_rfl
  have h3 : (Try.prog.fieldsOf 38).size = 3 := by kernel_rfl
  rcases Fr.open_rows Try.underlying23 hS (by kernel_rfl) (by kernel_rfl) hf with hcs | ⟨a, len, cap, n, hcs, hl, hm, hcell⟩
  · injection hcs with hcs _
    exact ⟨none, [], 0, hcs, Nat.zero_le _, fun j x h => by simp at h⟩
  · injection hcs with hcs _
    subst hcs
    rw [h3] at hcell
    have fld : ∀ (j : Nat) (f : Field), (Try.prog.fieldsOf 38)[j]? = some f → ∀ i, i < len → ∃ c y, W.cell? (a.add (i * 3 + j)) = some c ∧ DataW.trod enc Try.prog W base spare held n f.type [c] = some y := fun j f hj i hi => hcell i hi j f hj
    have each : ∀ i, i < len → ∃ x : Vl, W.cell? (a.add (i * 3 + 0)) = some (.int .i64 x.v) ∧ W.cell? (a.add (i * 3 + 1)) = some (.int .i64 x.t) ∧ W.cell? (a.add (i * 3 + 2)) = some (.int .i64 x.u) := by
      intro i hi
      obtain ⟨c0, y0, e0, t0⟩ := fld 0 ((Try.prog.fieldsOf 38)[0]'(by rw [h3]; decide)) (Array.getElem?_eq_getElem _) i hi
      obtain ⟨c1, y1, e1, t1⟩ := fld 1 ((Try.prog.fieldsOf 38)[1]'(by rw [h3]; decide)) (Array.getElem?_eq_getElem _) i hi
      obtain ⟨c2, y2, e2, t2⟩ := fld 2 ((Try.prog.fieldsOf 38)[2]'(by rw [h3]; decide)) (Array.getElem?_eq_getElem _) i hi
      obtain ⟨x0, g0, _, w0⟩ := DataW.trod_int Try.underlying3 t0
      obtain ⟨x1, g1, _, w1⟩ := DataW.trod_int Try.underlying3 t1
      obtain ⟨x2, g2, _, w2⟩ := DataW.trod_int Try.underlying3 t2
      simp at g0 g1 g2
      subst g0 g1 g2
      exact ⟨⟨x0, x1, x2⟩, e0, e1, e2⟩
    haveI : Inhabited Vl := ⟨⟨0, 0, 0⟩⟩
    obtain ⟨q, hq⟩ := choose_lt each
    have hget : ∀ j x, ((List.range len).map q)[j]? = some x → j < len ∧ x = q j := by
      intro j x hj
      rw [List.getElem?_map] at hj
      cases hr : (List.range len)[j]? with
      | none => rw [hr] at hj; cases hj
      | some k =>
        rw [hr] at hj
        obtain ⟨h1, h2⟩ := List.getElem?_eq_some_iff.1 hr
        rw [List.getElem_range] at h2
        rw [List.length_range] at h1
        subst h2
        exact ⟨h1, (Option.some.inj hj).symm⟩
    refine ⟨some a, (List.range len).map q, cap, by simp, by simp; omega, fun j x hj => ?_⟩
    obtain ⟨hj1, rfl⟩ := hget j x hj
    obtain ⟨c0, c1, c2⟩ := hq j hj1
    obtain ⟨b, o, sp⟩ := a
    cases sp with
    | none =>
      rw [Addr.add_lit] at c0 c1 c2
      exact ⟨b, o, rfl, World.block_lt_of_cell? _ _ c0, c0, c1, c2⟩
    | some s =>
      exfalso
      obtain ⟨c00, _⟩ := hq 0 (by omega)
      rw [show Addr.add ⟨b, o, some s⟩ (0 * 3 + 0) = ⟨b, o, some s⟩ from rfl, Fr.no_spot] at c00
      cases c00

set_option maxRecDepth 20000 in
theorem open_plan {H : Type} {enc : TypeId × Value → H} {W : World} {base b0 : Nat} {spare : Nat → Bool} {held : Bool} {r : Reach} {v : Value} {d : DataW H} {p : List MemPlace}
    (hv : Value.okWide Try.prog W r b0 25 v) (h : DataW.Trod enc Try.prog W base spare held 25 v d p) :
    ∃ (o k : Nat → Int) (A : Option Addr) (l : List Vl) (c : Nat), v = pv o k A l.length c ∧ l.length ≤ maxLen ∧ Vls W A l := by
  have c8 : Try.prog.cellsOf 22 = 8 := by kernel_rfl
  have c1 : Try.prog.cellsOf 23 = 1 := by kernel_rfl
  have c17 : Try.prog.cellsOf 25 = 17 := by kernel_rfl
  have hS := Try.underlying25
  simp only [Value.okWide, hS] at hv
  obtain ⟨cs, rfl, h2, _⟩ := hv
  obtain ⟨l⟩ := cs
  obtain ⟨fuel, hf⟩ := h
  obtain ⟨xs, n, _, _, _, hlen, hg⟩ := DataW.trod_struct hS hf
  have hl : l.length = 17 := by have := h2.trans c17; simpa using this
  have hlen3 : xs.length = 3 := hlen
  match l, hl with
  | [a0, a1, a2, a3, a4, a5, a6, a7, a8, a9, a10, a11, a12, a13, a14, a15, a16], _ =>
    have g0 : DataW.trod enc Try.prog W base spare held n 22 [a0, a1, a2, a3, a4, a5, a6, a7] = xs[0]? := by have := hg 0 _ rfl; simpa [Value.cells, c8] using this
    have g1 : DataW.trod enc Try.prog W base spare held n 22 [a8, a9, a10, a11, a12, a13, a14, a15] = xs[1]? := by have := hg 1 _ rfl; simpa [Value.cells, c8] using this
    have g2 : DataW.trod enc Try.prog W base spare held n 23 [a16] = xs[2]? := by have := hg 2 _ rfl; simpa [Value.cells, c1] using this
    rw [List.getElem?_eq_getElem (by omega)] at g0 g1 g2
    obtain ⟨o, ho⟩ := chunk_ints Try.underlying22 Try.underlying3 (by kernel_rfl) g0
    obtain ⟨k, hk⟩ := chunk_ints Try.underlying22 Try.underlying3 (by kernel_rfl) g1
    obtain ⟨A, m, c, rfl, hm, hA⟩ := open_vls g2
    refine ⟨o, k, A, m, c, ?_, hm, hA⟩
    have o0 := ho 0 (by decide); have o1 := ho 1 (by decide); have o2 := ho 2 (by decide); have o3 := ho 3 (by decide)
    have o4 := ho 4 (by decide); have o5 := ho 5 (by decide); have o6 := ho 6 (by decide); have o7 := ho 7 (by decide)
    have k0 := hk 0 (by decide); have k1 := hk 1 (by decide); have k2 := hk 2 (by decide); have k3 := hk 3 (by decide)
    have k4 := hk 4 (by decide); have k5 := hk 5 (by decide); have k6 := hk 6 (by decide); have k7 := hk 7 (by decide)
    simp at o0 o1 o2 o3 o4 o5 o6 o7 k0 k1 k2 k3 k4 k5 k6 k7
    subst o0 o1 o2 o3 o4 o5 o6 o7 k0 k1 k2 k3 k4 k5 k6 k7
    rfl

end Mem
end Go.Proofs.Ytbighadkcmhplaa
