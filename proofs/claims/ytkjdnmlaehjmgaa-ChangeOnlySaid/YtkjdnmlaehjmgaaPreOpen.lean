/-
  Vectors, times and a case that came in by value: their numbers, and the vectors of a slice in memory.
-/
import Derived.Test.YtkjdnmlaehjmgaaOpenRows
import Derived.Test.YtkjdnmlaehjmgaaOpen
import Derived.Test.YtkjdnmlaehjmgaaPreD
import Derived.WideShapes
namespace Go.Proofs.Ytkjdnmlaehjmgaa
open Go.ChangeShapes Go.WideShapes Go.ChangeAt Go.RowKit Go.Deep
namespace Pre

/-- A vector whose numbers are those of a machine. -/
def wfV (x : Vc) : Prop := x.r < 18446744073709551616 ∧ x.c < 18446744073709551616 ∧ x.b < 18446744073709551616 ∧ (-9223372036854775808 ≤ x.p ∧ x.p ≤ 9223372036854775807)
def wfT (x : Tm) : Prop := (-9223372036854775808 ≤ x.a ∧ x.a ≤ 9223372036854775807) ∧ (-9223372036854775808 ≤ x.m ∧ x.m ≤ 9223372036854775807)

theorem int_in {n : Int} (h : (Lit.int .i64 n).wf = true) : -9223372036854775808 ≤ n ∧ n ≤ 9223372036854775807 := by
  have h0 : IntKind.i64.min = -9223372036854775808 := by decide
  have h1 : IntKind.i64.max = 9223372036854775807 := by decide
  simp [Lit.wf, h0, h1] at h
  omega

theorem nat_u64 {n : Int} (h : (Lit.int .u64 n).wf = true) : ∃ m : Nat, n = m ∧ m < 18446744073709551616 := by
  have h0 : IntKind.u64.min = 0 := by decide
  have h1 : IntKind.u64.max = 18446744073709551615 := by decide
  simp [Lit.wf, h0, h1] at h
  exact ⟨n.toNat, by omega, by omega⟩

set_option maxRecDepth 20000 in
theorem open_vs {H : Type} {enc : TypeId × Value → H} {W : World} {base : Nat} {spare : Nat → Bool} {held : Bool} {fuel : Nat} {v : Value} {x : DataW H × List MemPlace}
    (hf : DataW.trod enc Try.prog W base spare held fuel 69 [v] = some x) :
    ∃ (A : Option Addr) (l : List Vc) (cap : Nat), v = .slice A l.length cap ∧ l.length ≤ maxLen ∧ Vs W A l ∧ ∀ x ∈ l, wfV x := by
  have hS : Try.prog.underlying 26 = some (.struct (Try.prog.fieldsOf 26)) := by kernel_rfl
  have h4 : (Try.prog.fieldsOf 26).size = 4 := by kernel_rfl
  rcases Fr.open_rows Try.underlying69 hS (by kernel_rfl) (by kernel_rfl) hf with hcs | ⟨a, len, cap, n, hcs, hl, hm, hcell⟩
  · injection hcs with hcs _
    exact ⟨none, [], 0, hcs, Nat.zero_le _, (fun j x h => by simp at h), fun x hx => by simp at hx⟩
  · injection hcs with hcs _
    subst hcs
    rw [h4] at hcell
    have fld : ∀ (j : Nat) (f : Field), (Try.prog.fieldsOf 26)[j]? = some f → ∀ i, i < len → ∃ c y, W.cell? (a.add (i * 4 + j)) = some c ∧ DataW.trod enc Try.prog W base spare held n f.type [c] = some y := fun j f hj i hi => hcell i hi j f hj
    have each : ∀ i, i < len → ∃ x : Vc, W.cell? (a.add (i * 4 + 0)) = some (.int .u64 x.r) ∧ W.cell? (a.add (i * 4 + 1)) = some (.int .u64 x.c) ∧ W.cell? (a.add (i * 4 + 2)) = some (.int .u64 x.b) ∧ W.cell? (a.add (i * 4 + 3)) = some (.int .i64 x.p) ∧ wfV x := by
      intro i hi
      obtain ⟨c0, y0, e0, t0⟩ := fld 0 ((Try.prog.fieldsOf 26)[0]'(by rw [h4]; decide)) (Array.getElem?_eq_getElem _) i hi
      obtain ⟨c1, y1, e1, t1⟩ := fld 1 ((Try.prog.fieldsOf 26)[1]'(by rw [h4]; decide)) (Array.getElem?_eq_getElem _) i hi
      obtain ⟨c2, y2, e2, t2⟩ := fld 2 ((Try.prog.fieldsOf 26)[2]'(by rw [h4]; decide)) (Array.getElem?_eq_getElem _) i hi
      obtain ⟨c3, y3, e3, t3⟩ := fld 3 ((Try.prog.fieldsOf 26)[3]'(by rw [h4]; decide)) (Array.getElem?_eq_getElem _) i hi
      obtain ⟨x0, g0, _, w0⟩ := DataW.trod_int Try.underlying22 t0
      obtain ⟨x1, g1, _, w1⟩ := DataW.trod_int Try.underlying22 t1
      obtain ⟨x2, g2, _, w2⟩ := DataW.trod_int Try.underlying22 t2
      obtain ⟨x3, g3, _, w3⟩ := DataW.trod_int Try.underlying3 t3
      simp at g0 g1 g2 g3
      obtain ⟨m0, rfl, h0⟩ := nat_u64 w0
      obtain ⟨m1, rfl, h1⟩ := nat_u64 w1
      obtain ⟨m2, rfl, h2⟩ := nat_u64 w2
      subst g0 g1 g2 g3
      exact ⟨⟨m0, m1, m2, x3⟩, e0, e1, e2, e3, h0, h1, h2, int_in w3⟩
    obtain ⟨q, hq⟩ := choose_lt each
    have hget : ∀ j x, ((List.range len).map q)[j]? = some x → j < len ∧ x = q j := by
      intro j x hj
      rw [List.getElem?_map] at hj
      cases hr : (List.range len)[j]? with
      | none => rw [hr] at hj; cases hj
      | some k =>
        rw [hr] at hj
        obtain ⟨h1, h2⟩ := List.getElem?_eq_some_iff.1 hr
        rw [List.getElem_range] at h2
        rw [List.length_range] at h1
        subst h2
        exact ⟨h1, (Option.some.inj hj).symm⟩
    refine ⟨some a, (List.range len).map q, cap, by simp, by simp; omega, fun j x hj => ?_, fun x hx => ?_⟩
    · obtain ⟨hj1, rfl⟩ := hget j x hj
      obtain ⟨c0, c1, c2, c3, _⟩ := hq j hj1
      obtain ⟨b, o, sp⟩ := a
      cases sp with
      | none =>
        rw [Addr.add_lit] at c0 c1 c2 c3
        exact ⟨b, o, rfl, World.block_lt_of_cell? _ _ c0, c0, c1, c2, c3⟩
      | some s =>
        exfalso
        obtain ⟨c00, _⟩ := hq 0 (by omega)
        rw [show Addr.add ⟨b, o, some s⟩ (0 * 4 + 0) = ⟨b, o, some s⟩ from rfl, Fr.no_spot] at c00
        cases c00
    · obtain ⟨i, hi, rfl⟩ := List.mem_map.1 hx
      exact (hq i (List.mem_range.1 hi)).2.2.2.2

set_option maxRecDepth 40000 in
theorem open_vs' {H : Type} {enc : TypeId × Value → H} {W : World} {base b0 : Nat} {spare : Nat → Bool} {held : Bool} {r : Reach} {v : Value} {d : DataW H} {p : List MemPlace}
    (hv : Value.okWide Try.prog W r b0 69 v) (h : DataW.Trod enc Try.prog W base spare held 69 v d p) :
    ∃ (A : Option Addr) (l : List Vc) (cap : Nat), v = .slice A l.length cap ∧ l.length ≤ maxLen ∧ Vs W A l ∧ ∀ x ∈ l, wfV x := by
  obtain ⟨a0, len, cap, rfl⟩ := okWide_slice Try.underlying69 hv
  obtain ⟨fuel, hf⟩ := h
  exact open_vs hf

set_option maxRecDepth 20000 in
theorem open_vec {H : Type} {enc : TypeId × Value → H} {W : World} {base b0 : Nat} {spare : Nat → Bool} {held : Bool} {r : Reach} {v : Value} {d : DataW H} {p : List MemPlace}
    (hv : Value.okWide Try.prog W r b0 26 v) (h : DataW.Trod enc Try.prog W base spare held 26 v d p) :
    ∃ x : Vc, v = vv x ∧ wfV x := by
  obtain ⟨l, n, rfl, hl, hg⟩ := Fr.open_fields Try.underlying26 (by kernel_rfl) (by kernel_rfl) hv h
  match l, hl with
  | [v0, v1, v2, v3], _ =>
    obtain ⟨c0, y0, e0, t0⟩ := hg 0 _ rfl
    obtain ⟨c1, y1, e1, t1⟩ := hg 1 _ rfl
    obtain ⟨c2, y2, e2, t2⟩ := hg 2 _ rfl
    obtain ⟨c3, y3, e3, t3⟩ := hg 3 _ rfl
    cases e0
    cases e1
    cases e2
    cases e3
    obtain ⟨x0, g0, _, w0⟩ := DataW.trod_int Try.underlying22 t0
    obtain ⟨x1, g1, _, w1⟩ := DataW.trod_int Try.underlying22 t1
    obtain ⟨x2, g2, _, w2⟩ := DataW.trod_int Try.underlying22 t2
    obtain ⟨x3, g3, _, w3⟩ := DataW.trod_int Try.underlying3 t3
    simp at g0 g1 g2 g3
    obtain ⟨m0, rfl, h0⟩ := nat_u64 w0
    obtain ⟨m1, rfl, h1⟩ := nat_u64 w1
    obtain ⟨m2, rfl, h2⟩ := nat_u64 w2
    subst g0 g1 g2 g3
    exact ⟨⟨m0, m1, m2, x3⟩, rfl, h0, h1, h2, int_in w3⟩

set_option maxRecDepth 20000 in
theorem open_tm {H : Type} {enc : TypeId × Value → H} {W : World} {base b0 : Nat} {spare : Nat → Bool} {held : Bool} {r : Reach} {v : Value} {d : DataW H} {p : List MemPlace}
    (hv : Value.okWide Try.prog W r b0 24 v) (h : DataW.Trod enc Try.prog W base spare held 24 v d p) :
    ∃ x : Tm, v = tmv x ∧ wfT x := by
  obtain ⟨l, n, rfl, hl, hg⟩ := Fr.open_fields Try.underlying24 (by kernel_rfl) (by kernel_rfl) hv h
  match l, hl with
  | [v0, v1, v2, v3], _ =>
    obtain ⟨c0, y0, e0, t0⟩ := hg 0 _ rfl
    obtain ⟨c1, y1, e1, t1⟩ := hg 1 _ rfl
    obtain ⟨c2, y2, e2, t2⟩ := hg 2 _ rfl
    obtain ⟨c3, y3, e3, t3⟩ := hg 3 _ rfl
    cases e0
    cases e1
    cases e2
    cases e3
    obtain ⟨x0, g0, _, w0⟩ := DataW.trod_int Try.underlying3 t0
    obtain ⟨x1, g1, _, w1⟩ := DataW.trod_int Try.underlying3 t1
    obtain ⟨x2, g2, _, w2⟩ := DataW.trod_int Try.underlying3 t2
    obtain ⟨x3, g3, _, w3⟩ := DataW.trod_int Try.underlying3 t3
    simp at g0 g1 g2 g3
    subst g0 g1 g2 g3
    exact ⟨⟨x0, x1, x2, x3⟩, rfl, int_in w0, int_in w1⟩

end Pre
end Go.Proofs.Ytkjdnmlaehjmgaa
