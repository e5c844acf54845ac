/-
  Vectors, times and a case that came in by value: their numbers, and the vectors of a slice in memory.
-/
import Derived.Test.YtakbmdamegjdeaaOpenRows
import Derived.Test.YtakbmdamegjdeaaOpen
import Derived.Test.YtakbmdamegjdeaaPreD
import Derived.WideShapes
namespace Go.Proofs.Ytakbmdamegjdeaa
open Go.ChangeShapes Go.WideShapes Go.ChangeAt Go.RowKit Go.Deep
namespace Pre

/-- A vector whose numbers are those of a machine. -/
def wfV (x : Vc) : Prop := x.r < 18446744073709551616 ∧ x.c < 18446744073709551616 ∧ x.b < 18446744073709551616 ∧ (-9223372036854775808 ≤ x.p ∧ x.p ≤ 9223372036854775807)
def wfT (x : Tm) : Prop := (-9223372036854775808 ≤ x.a ∧ x.a ≤ 9223372036854775807) ∧ (-9223372036854775808 ≤ x.m ∧ x.m ≤ 9223372036854775807)

theorem int_in {n : Int} (h : (Lit.int .i64 n).wf = true) : -9223372036854775808 ≤ n ∧ n ≤ 9223372036854775807 := by
  have h0 : IntKind.i64.min = -9223372036854775808 := by decide
  have h1 : IntKind.i64.max = 9223372036854775807 := by decide
  simp [Lit.wf, h0, h1] at h
  omega

theorem nat_u64 {n : Int} (h : (Lit.int .u64 n).wf = true) : ∃ m : Nat, n = m ∧ m < 18446744073709551616 := by
  have h0 : IntKind.u64.min = 0 := by decide
  have h1 : IntKind.u64.max = 18446744073709551615 := by decide
  simp [Lit.wf, h0, h1] at h
  exact ⟨n.toNat, by omega, by omega⟩

set_option maxRecDepth 20000 in
theorem open_vec {H : Type} {enc : TypeId × Value → H} {W : World} {base b0 : Nat} {spare : Nat → Bool} {held : Bool} {r : Reach} {v : Value} {d : DataW H} {p : List MemPlace}
    (hv : Value.okWide Try.prog W r b0 24 v) (h : DataW.Trod enc Try.prog W base spare held 24 v d p) :
    ∃ x : Vc, v = vv x ∧ wfV x := by
  obtain ⟨l, n, rfl, hl, hg⟩ := Fr.open_fields Try.underlying24 (by kernel_rfl) (by kernel_rfl) hv h
  match l, hl with
  | [v0, v1, v2, v3], _ =>
    obtain ⟨c0, y0, e0, t0⟩ := hg 0 _ rfl
    obtain ⟨c1, y1, e1, t1⟩ := hg 1 _ rfl
    obtain ⟨c2, y2, e2, t2⟩ := hg 2 _ rfl
    obtain ⟨c3, y3, e3, t3⟩ := hg 3 _ rfl
    cases e0
    cases e1
    cases e2
    cases e3
    obtain ⟨x0, g0, _, w0⟩ := DataW.trod_int Try.underlying22 t0
    obtain ⟨x1, g1, _, w1⟩ := DataW.trod_int Try.underlying22 t1
    obtain ⟨x2, g2, _, w2⟩ := DataW.trod_int Try.underlying22 t2
    obtain ⟨x3, g3, _, w3⟩ := DataW.trod_int Try.underlying3 t3
    simp at g0 g1 g2 g3
    obtain ⟨m0, rfl, h0⟩ := nat_u64 w0
    obtain ⟨m1, rfl, h1⟩ := nat_u64 w1
    obtain ⟨m2, rfl, h2⟩ := nat_u64 w2
    subst g0 g1 g2 g3
    exact ⟨⟨m0, m1, m2, x3⟩, rfl, h0, h1, h2, int_in w3⟩

set_option maxRecDepth 20000 in
theorem open_tm {H : Type} {enc : TypeId × Value → H} {W : World} {base b0 : Nat} {spare : Nat → Bool} {held : Bool} {r : Reach} {v : Value} {d : DataW H} {p : List MemPlace}
    (hv : Value.okWide Try.prog W r b0 26 v) (h : DataW.Trod enc Try.prog W base spare held 26 v d p) :
    ∃ x : Tm, v = tmv x ∧ wfT x := by
  obtain ⟨l, n, rfl, hl, hg⟩ := Fr.open_fields Try.underlying26 (by kernel_rfl) (by kernel_rfl) hv h
  match l, hl with
  | [v0, v1, v2, v3], _ =>
    obtain ⟨c0, y0, e0, t0⟩ := hg 0 _ rfl
    obtain ⟨c1, y1, e1, t1⟩ := hg 1 _ rfl
    obtain ⟨c2, y2, e2, t2⟩ := hg 2 _ rfl
    obtain ⟨c3, y3, e3, t3⟩ := hg 3 _ rfl
    cases e0
    cases e1
    cases e2
    cases e3
    obtain ⟨x0, g0, _, w0⟩ := DataW.trod_int Try.underlying3 t0
    obtain ⟨x1, g1, _, w1⟩ := DataW.trod_int Try.underlying3 t1
    obtain ⟨x2, g2, _, w2⟩ := DataW.trod_int Try.underlying3 t2
    obtain ⟨x3, g3, _, w3⟩ := DataW.trod_int Try.underlying3 t3
    simp at g0 g1 g2 g3
    subst g0 g1 g2 g3
    exact ⟨⟨x0, x1, x2, x3⟩, rfl, int_in w0, int_in w1⟩

end Pre
end Go.Proofs.Ytakbmdamegjdeaa
