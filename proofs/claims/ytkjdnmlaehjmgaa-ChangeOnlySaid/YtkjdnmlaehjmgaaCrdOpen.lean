/-
  An argument that is a port of the tree, or a BPDU, by value.
-/
import Derived.Test.YtkjdnmlaehjmgaaPreOpen
import Derived.Test.YtkjdnmlaehjmgaaCrdEq
namespace Go.Proofs.Ytkjdnmlaehjmgaa
open Go.RowKit
namespace Crd
open Pre Go.ChangeShapes Go.WideShapes Go.ChangeAt Go.Deep

/-- Numbers that are those of a machine. -/
def wfM (x : Tm) : Prop := (-9223372036854775808 ≤ x.a ∧ x.a ≤ 9223372036854775807) ∧ (-9223372036854775808 ≤ x.m ∧ x.m ≤ 9223372036854775807) ∧ (-9223372036854775808 ≤ x.h ∧ x.h ≤ 9223372036854775807) ∧ (-9223372036854775808 ≤ x.d ∧ x.d ≤ 9223372036854775807)
def wfCd (x : Cd) : Prop := x.cost < 18446744073709551616 ∧ (-9223372036854775808 ≤ x.info ∧ x.info ≤ 9223372036854775807) ∧ wfV x.v ∧ wfM x.t ∧ (-9223372036854775808 ≤ x.role ∧ x.role ≤ 9223372036854775807) ∧ (-9223372036854775808 ≤ x.st ∧ x.st ≤ 9223372036854775807) ∧ (-9223372036854775808 ≤ x.hrd ∧ x.hrd ≤ 9223372036854775807) ∧ (-9223372036854775808 ≤ x.wai ∧ x.wai ≤ 9223372036854775807) ∧ (-9223372036854775808 ≤ x.rcn ∧ x.rcn ≤ 9223372036854775807) ∧ (-9223372036854775808 ≤ x.chg ∧ x.chg ≤ 9223372036854775807) ∧ (-9223372036854775808 ≤ x.qui ∧ x.qui ≤ 9223372036854775807) ∧ (-9223372036854775808 ≤ x.sen ∧ x.sen ≤ 9223372036854775807) ∧ (-9223372036854775808 ≤ x.hel ∧ x.hel ≤ 9223372036854775807)
def wfBd (x : Bd) : Prop := (-9223372036854775808 ≤ x.k ∧ x.k ≤ 9223372036854775807) ∧ (-9223372036854775808 ≤ x.ro ∧ x.ro ≤ 9223372036854775807) ∧ wfV x.v ∧ wfM x.t

theorem cd_cells {l : List Value} (h : l.length = 31) : ∃ c0 c1 c2 c3 c4 c5 c6 c7 c8 c9 c10 c11 c12 c13 c14 c15 c16 c17 c18 c19 c20 c21 c22 c23 c24 c25 c26 c27 c28 c29 c30, l = [c0, c1, c2, c3, c4, c5, c6, c7, c8, c9, c10, c11, c12, c13, c14, c15, c16, c17, c18, c19, c20, c21, c22, c23, c24, c25, c26, c27, c28, c29, c30] := by
  match l, h with
  | [c0, c1, c2, c3, c4, c5, c6, c7, c8, c9, c10, c11, c12, c13, c14, c15, c16, c17, c18, c19, c20, c21, c22, c23, c24, c25, c26, c27, c28, c29, c30], _ => exact ⟨c0, c1, c2, c3, c4, c5, c6, c7, c8, c9, c10, c11, c12, c13, c14, c15, c16, c17, c18, c19, c20, c21, c22, c23, c24, c25, c26, c27, c28, c29, c30, rfl⟩

set_option maxRecDepth 40000 in
set_option maxHeartbeats 4000000 in
theorem open_cd {H : Type} {enc : TypeId × Value → H} {W : World} {base b0 : Nat} {spare : Nat → Bool} {held : Bool} {r : Reach} {v : Value} {d : DataW H} {p : List MemPlace}
    (hv : Value.okWide Try.prog W r b0 28 v) (h : DataW.Trod enc Try.prog W base spare held 28 v d p) :
    ∃ x : Cd, v = cdv x ∧ wfCd x := by
  have hs := Try.underlying28
  have kT : Try.prog.cellsOf 28 = 31 := by kernel_rfl
  have k0 : Try.prog.cellsOf 4 = 1 := by kernel_rfl
  have k1 : Try.prog.cellsOf 3 = 1 := by kernel_rfl
  have k2 : Try.prog.cellsOf 24 = 4 := by kernel_rfl
  have k3 : Try.prog.cellsOf 26 = 4 := by kernel_rfl
  have k4 : Try.prog.cellsOf 22 = 1 := by kernel_rfl
  simp only [Value.okWide, hs] at hv
  obtain ⟨cs, rfl, h2, _⟩ := hv
  obtain ⟨l⟩ := cs
  obtain ⟨fuel, hf⟩ := h
  obtain ⟨xs, n, _, _, hcl, hlen, hg⟩ := DataW.trod_struct hs hf
  have hl : l.length = 31 := by rw [kT] at hcl; simpa [Value.cells] using hcl
  obtain ⟨c0, c1, c2, c3, c4, c5, c6, c7, c8, c9, c10, c11, c12, c13, c14, c15, c16, c17, c18, c19, c20, c21, c22, c23, c24, c25, c26, c27, c28, c29, c30, rfl⟩ := cd_cells hl
  have hx : ∀ i, i < 25 → ∃ y, xs[i]? = some y := fun i hi => ⟨xs[i]'(by rw [hlen]; exact hi), List.getElem?_eq_getElem _⟩
  have g0 : DataW.trod enc Try.prog W base spare held n 4 (([c0, c1, c2, c3, c4, c5, c6, c7, c8, c9, c10, c11, c12, c13, c14, c15, c16, c17, c18, c19, c20, c21, c22, c23, c24, c25, c26, c27, c28, c29, c30].drop 0).take (Try.prog.cellsOf 4)) = xs[0]? := hg 0 _ rfl
  obtain ⟨y0, e0⟩ := hx 0 (by omega)
  rw [e0, k0] at g0
  obtain ⟨a0, q0, _⟩ := DataW.trod_bool Try.underlying4 g0
  have g1 : DataW.trod enc Try.prog W base spare held n 4 (([c0, c1, c2, c3, c4, c5, c6, c7, c8, c9, c10, c11, c12, c13, c14, c15, c16, c17, c18, c19, c20, c21, c22, c23, c24, c25, c26, c27, c28, c29, c30].drop 1).take (Try.prog.cellsOf 4)) = xs[1]? := hg 1 _ rfl
  obtain ⟨y1, e1⟩ := hx 1 (by omega)
  rw [e1, k0] at g1
  obtain ⟨a1, q1, _⟩ := DataW.trod_bool Try.underlying4 g1
  have g2 : DataW.trod enc Try.prog W base spare held n 4 (([c0, c1, c2, c3, c4, c5, c6, c7, c8, c9, c10, c11, c12, c13, c14, c15, c16, c17, c18, c19, c20, c21, c22, c23, c24, c25, c26, c27, c28, c29, c30].drop 2).take (Try.prog.cellsOf 4)) = xs[2]? := hg 2 _ rfl
  obtain ⟨y2, e2⟩ := hx 2 (by omega)
  rw [e2, k0] at g2
  obtain ⟨a2, q2, _⟩ := DataW.trod_bool Try.underlying4 g2
  have g3 : DataW.trod enc Try.prog W base spare held n 22 (([c0, c1, c2, c3, c4, c5, c6, c7, c8, c9, c10, c11, c12, c13, c14, c15, c16, c17, c18, c19, c20, c21, c22, c23, c24, c25, c26, c27, c28, c29, c30].drop 3).take (Try.prog.cellsOf 22)) = xs[3]? := hg 3 _ rfl
  obtain ⟨y3, e3⟩ := hx 3 (by omega)
  rw [e3, k4] at g3
  obtain ⟨a3, q3, _, w3⟩ := DataW.trod_int Try.underlying22 g3
  have g4 : DataW.trod enc Try.prog W base spare held n 3 (([c0, c1, c2, c3, c4, c5, c6, c7, c8, c9, c10, c11, c12, c13, c14, c15, c16, c17, c18, c19, c20, c21, c22, c23, c24, c25, c26, c27, c28, c29, c30].drop 4).take (Try.prog.cellsOf 3)) = xs[4]? := hg 4 _ rfl
  obtain ⟨y4, e4⟩ := hx 4 (by omega)
  rw [e4, k1] at g4
  obtain ⟨a4, q4, _, w4⟩ := DataW.trod_int Try.underlying3 g4
  have g5 : DataW.trod enc Try.prog W base spare held n 26 (([c0, c1, c2, c3, c4, c5, c6, c7, c8, c9, c10, c11, c12, c13, c14, c15, c16, c17, c18, c19, c20, c21, c22, c23, c24, c25, c26, c27, c28, c29, c30].drop 5).take (Try.prog.cellsOf 26)) = xs[5]? := hg 5 _ rfl
  obtain ⟨y5, e5⟩ := hx 5 (by omega)
  rw [e5, k3] at g5
  obtain ⟨zs5, n5, _, _, _, zl5, zg5⟩ := DataW.trod_struct Try.underlying26 g5
  have zx5 : ∀ i, i < 4 → ∃ y, zs5[i]? = some y := fun i hi => ⟨zs5[i]'(by rw [zl5]; exact hi), List.getElem?_eq_getElem _⟩
  have u5_0 : DataW.trod enc Try.prog W base spare held n5 22 (([c5, c6, c7, c8].drop 0).take (Try.prog.cellsOf 22)) = zs5[0]? := zg5 0 _ rfl
  obtain ⟨v5_0, f5_0⟩ := zx5 0 (by omega)
  rw [f5_0, show Try.prog.cellsOf 22 = 1 by kernel_rfl] at u5_0
  obtain ⟨r5_0, s5_0, _, x5_0⟩ := DataW.trod_int Try.underlying22 u5_0
  have u5_1 : DataW.trod enc Try.prog W base spare held n5 22 (([c5, c6, c7, c8].drop 1).take (Try.prog.cellsOf 22)) = zs5[1]? := zg5 1 _ rfl
  obtain ⟨v5_1, f5_1⟩ := zx5 1 (by omega)
  rw [f5_1, show Try.prog.cellsOf 22 = 1 by kernel_rfl] at u5_1
  obtain ⟨r5_1, s5_1, _, x5_1⟩ := DataW.trod_int Try.underlying22 u5_1
  have u5_2 : DataW.trod enc Try.prog W base spare held n5 22 (([c5, c6, c7, c8].drop 2).take (Try.prog.cellsOf 22)) = zs5[2]? := zg5 2 _ rfl
  obtain ⟨v5_2, f5_2⟩ := zx5 2 (by omega)
  rw [f5_2, show Try.prog.cellsOf 22 = 1 by kernel_rfl] at u5_2
  obtain ⟨r5_2, s5_2, _, x5_2⟩ := DataW.trod_int Try.underlying22 u5_2
  have u5_3 : DataW.trod enc Try.prog W base spare held n5 3 (([c5, c6, c7, c8].drop 3).take (Try.prog.cellsOf 3)) = zs5[3]? := zg5 3 _ rfl
  obtain ⟨v5_3, f5_3⟩ := zx5 3 (by omega)
  rw [f5_3, show Try.prog.cellsOf 3 = 1 by kernel_rfl] at u5_3
  obtain ⟨r5_3, s5_3, _, x5_3⟩ := DataW.trod_int Try.underlying3 u5_3
  have g6 : DataW.trod enc Try.prog W base spare held n 24 (([c0, c1, c2, c3, c4, c5, c6, c7, c8, c9, c10, c11, c12, c13, c14, c15, c16, c17, c18, c19, c20, c21, c22, c23, c24, c25, c26, c27, c28, c29, c30].drop 9).take (Try.prog.cellsOf 24)) = xs[6]? := hg 6 _ rfl
  obtain ⟨y6, e6⟩ := hx 6 (by omega)
  rw [e6, k2] at g6
  obtain ⟨zs6, n6, _, _, _, zl6, zg6⟩ := DataW.trod_struct Try.underlying24 g6
  have zx6 : ∀ i, i < 4 → ∃ y, zs6[i]? = some y := fun i hi => ⟨zs6[i]'(by rw [zl6]; exact hi), List.getElem?_eq_getElem _⟩
  have u6_0 : DataW.trod enc Try.prog W base spare held n6 3 (([c9, c10, c11, c12].drop 0).take (Try.prog.cellsOf 3)) = zs6[0]? := zg6 0 _ rfl
  obtain ⟨v6_0, f6_0⟩ := zx6 0 (by omega)
  rw [f6_0, show Try.prog.cellsOf 3 = 1 by kernel_rfl] at u6_0
  obtain ⟨r6_0, s6_0, _, x6_0⟩ := DataW.trod_int Try.underlying3 u6_0
  have u6_1 : DataW.trod enc Try.prog W base spare held n6 3 (([c9, c10, c11, c12].drop 1).take (Try.prog.cellsOf 3)) = zs6[1]? := zg6 1 _ rfl
  obtain ⟨v6_1, f6_1⟩ := zx6 1 (by omega)
  rw [f6_1, show Try.prog.cellsOf 3 = 1 by kernel_rfl] at u6_1
  obtain ⟨r6_1, s6_1, _, x6_1⟩ := DataW.trod_int Try.underlying3 u6_1
  have u6_2 : DataW.trod enc Try.prog W base spare held n6 3 (([c9, c10, c11, c12].drop 2).take (Try.prog.cellsOf 3)) = zs6[2]? := zg6 2 _ rfl
  obtain ⟨v6_2, f6_2⟩ := zx6 2 (by omega)
  rw [f6_2, show Try.prog.cellsOf 3 = 1 by kernel_rfl] at u6_2
  obtain ⟨r6_2, s6_2, _, x6_2⟩ := DataW.trod_int Try.underlying3 u6_2
  have u6_3 : DataW.trod enc Try.prog W base spare held n6 3 (([c9, c10, c11, c12].drop 3).take (Try.prog.cellsOf 3)) = zs6[3]? := zg6 3 _ rfl
  obtain ⟨v6_3, f6_3⟩ := zx6 3 (by omega)
  rw [f6_3, show Try.prog.cellsOf 3 = 1 by kernel_rfl] at u6_3
  obtain ⟨r6_3, s6_3, _, x6_3⟩ := DataW.trod_int Try.underlying3 u6_3
  have g7 : DataW.trod enc Try.prog W base spare held n 3 (([c0, c1, c2, c3, c4, c5, c6, c7, c8, c9, c10, c11, c12, c13, c14, c15, c16, c17, c18, c19, c20, c21, c22, c23, c24, c25, c26, c27, c28, c29, c30].drop 13).take (Try.prog.cellsOf 3)) = xs[7]? := hg 7 _ rfl
  obtain ⟨y7, e7⟩ := hx 7 (by omega)
  rw [e7, k1] at g7
  obtain ⟨a7, q7, _, w7⟩ := DataW.trod_int Try.underlying3 g7
  have g8 : DataW.trod enc Try.prog W base spare held n 3 (([c0, c1, c2, c3, c4, c5, c6, c7, c8, c9, c10, c11, c12, c13, c14, c15, c16, c17, c18, c19, c20, c21, c22, c23, c24, c25, c26, c27, c28, c29, c30].drop 14).take (Try.prog.cellsOf 3)) = xs[8]? := hg 8 _ rfl
  obtain ⟨y8, e8⟩ := hx 8 (by omega)
  rw [e8, k1] at g8
  obtain ⟨a8, q8, _, w8⟩ := DataW.trod_int Try.underlying3 g8
  have g9 : DataW.trod enc Try.prog W base spare held n 4 (([c0, c1, c2, c3, c4, c5, c6, c7, c8, c9, c10, c11, c12, c13, c14, c15, c16, c17, c18, c19, c20, c21, c22, c23, c24, c25, c26, c27, c28, c29, c30].drop 15).take (Try.prog.cellsOf 4)) = xs[9]? := hg 9 _ rfl
  obtain ⟨y9, e9⟩ := hx 9 (by omega)
  rw [e9, k0] at g9
  obtain ⟨a9, q9, _⟩ := DataW.trod_bool Try.underlying4 g9
  have g10 : DataW.trod enc Try.prog W base spare held n 4 (([c0, c1, c2, c3, c4, c5, c6, c7, c8, c9, c10, c11, c12, c13, c14, c15, c16, c17, c18, c19, c20, c21, c22, c23, c24, c25, c26, c27, c28, c29, c30].drop 16).take (Try.prog.cellsOf 4)) = xs[10]? := hg 10 _ rfl
  obtain ⟨y10, e10⟩ := hx 10 (by omega)
  rw [e10, k0] at g10
  obtain ⟨a10, q10, _⟩ := DataW.trod_bool Try.underlying4 g10
  have g11 : DataW.trod enc Try.prog W base spare held n 4 (([c0, c1, c2, c3, c4, c5, c6, c7, c8, c9, c10, c11, c12, c13, c14, c15, c16, c17, c18, c19, c20, c21, c22, c23, c24, c25, c26, c27, c28, c29, c30].drop 17).take (Try.prog.cellsOf 4)) = xs[11]? := hg 11 _ rfl
  obtain ⟨y11, e11⟩ := hx 11 (by omega)
  rw [e11, k0] at g11
  obtain ⟨a11, q11, _⟩ := DataW.trod_bool Try.underlying4 g11
  have g12 : DataW.trod enc Try.prog W base spare held n 4 (([c0, c1, c2, c3, c4, c5, c6, c7, c8, c9, c10, c11, c12, c13, c14, c15, c16, c17, c18, c19, c20, c21, c22, c23, c24, c25, c26, c27, c28, c29, c30].drop 18).take (Try.prog.cellsOf 4)) = xs[12]? := hg 12 _ rfl
  obtain ⟨y12, e12⟩ := hx 12 (by omega)
  rw [e12, k0] at g12
  obtain ⟨a12, q12, _⟩ := DataW.trod_bool Try.underlying4 g12
  have g13 : DataW.trod enc Try.prog W base spare held n 4 (([c0, c1, c2, c3, c4, c5, c6, c7, c8, c9, c10, c11, c12, c13, c14, c15, c16, c17, c18, c19, c20, c21, c22, c23, c24, c25, c26, c27, c28, c29, c30].drop 19).take (Try.prog.cellsOf 4)) = xs[13]? := hg 13 _ rfl
  obtain ⟨y13, e13⟩ := hx 13 (by omega)
  rw [e13, k0] at g13
  obtain ⟨a13, q13, _⟩ := DataW.trod_bool Try.underlying4 g13
  have g14 : DataW.trod enc Try.prog W base spare held n 4 (([c0, c1, c2, c3, c4, c5, c6, c7, c8, c9, c10, c11, c12, c13, c14, c15, c16, c17, c18, c19, c20, c21, c22, c23, c24, c25, c26, c27, c28, c29, c30].drop 20).take (Try.prog.cellsOf 4)) = xs[14]? := hg 14 _ rfl
  obtain ⟨y14, e14⟩ := hx 14 (by omega)
  rw [e14, k0] at g14
  obtain ⟨a14, q14, _⟩ := DataW.trod_bool Try.underlying4 g14
  have g15 : DataW.trod enc Try.prog W base spare held n 4 (([c0, c1, c2, c3, c4, c5, c6, c7, c8, c9, c10, c11, c12, c13, c14, c15, c16, c17, c18, c19, c20, c21, c22, c23, c24, c25, c26, c27, c28, c29, c30].drop 21).take (Try.prog.cellsOf 4)) = xs[15]? := hg 15 _ rfl
  obtain ⟨y15, e15⟩ := hx 15 (by omega)
  rw [e15, k0] at g15
  obtain ⟨a15, q15, _⟩ := DataW.trod_bool Try.underlying4 g15
  have g16 : DataW.trod enc Try.prog W base spare held n 4 (([c0, c1, c2, c3, c4, c5, c6, c7, c8, c9, c10, c11, c12, c13, c14, c15, c16, c17, c18, c19, c20, c21, c22, c23, c24, c25, c26, c27, c28, c29, c30].drop 22).take (Try.prog.cellsOf 4)) = xs[16]? := hg 16 _ rfl
  obtain ⟨y16, e16⟩ := hx 16 (by omega)
  rw [e16, k0] at g16
  obtain ⟨a16, q16, _⟩ := DataW.trod_bool Try.underlying4 g16
  have g17 : DataW.trod enc Try.prog W base spare held n 4 (([c0, c1, c2, c3, c4, c5, c6, c7, c8, c9, c10, c11, c12, c13, c14, c15, c16, c17, c18, c19, c20, c21, c22, c23, c24, c25, c26, c27, c28, c29, c30].drop 23).take (Try.prog.cellsOf 4)) = xs[17]? := hg 17 _ rfl
  obtain ⟨y17, e17⟩ := hx 17 (by omega)
  rw [e17, k0] at g17
  obtain ⟨a17, q17, _⟩ := DataW.trod_bool Try.underlying4 g17
  have g18 : DataW.trod enc Try.prog W base spare held n 3 (([c0, c1, c2, c3, c4, c5, c6, c7, c8, c9, c10, c11, c12, c13, c14, c15, c16, c17, c18, c19, c20, c21, c22, c23, c24, c25, c26, c27, c28, c29, c30].drop 24).take (Try.prog.cellsOf 3)) = xs[18]? := hg 18 _ rfl
  obtain ⟨y18, e18⟩ := hx 18 (by omega)
  rw [e18, k1] at g18
  obtain ⟨a18, q18, _, w18⟩ := DataW.trod_int Try.underlying3 g18
  have g19 : DataW.trod enc Try.prog W base spare held n 3 (([c0, c1, c2, c3, c4, c5, c6, c7, c8, c9, c10, c11, c12, c13, c14, c15, c16, c17, c18, c19, c20, c21, c22, c23, c24, c25, c26, c27, c28, c29, c30].drop 25).take (Try.prog.cellsOf 3)) = xs[19]? := hg 19 _ rfl
  obtain ⟨y19, e19⟩ := hx 19 (by omega)
  rw [e19, k1] at g19
  obtain ⟨a19, q19, _, w19⟩ := DataW.trod_int Try.underlying3 g19
  have g20 : DataW.trod enc Try.prog W base spare held n 3 (([c0, c1, c2, c3, c4, c5, c6, c7, c8, c9, c10, c11, c12, c13, c14, c15, c16, c17, c18, c19, c20, c21, c22, c23, c24, c25, c26, c27, c28, c29, c30].drop 26).take (Try.prog.cellsOf 3)) = xs[20]? := hg 20 _ rfl
  obtain ⟨y20, e20⟩ := hx 20 (by omega)
  rw [e20, k1] at g20
  obtain ⟨a20, q20, _, w20⟩ := DataW.trod_int Try.underlying3 g20
  have g21 : DataW.trod enc Try.prog W base spare held n 3 (([c0, c1, c2, c3, c4, c5, c6, c7, c8, c9, c10, c11, c12, c13, c14, c15, c16, c17, c18, c19, c20, c21, c22, c23, c24, c25, c26, c27, c28, c29, c30].drop 27).take (Try.prog.cellsOf 3)) = xs[21]? := hg 21 _ rfl
  obtain ⟨y21, e21⟩ := hx 21 (by omega)
  rw [e21, k1] at g21
  obtain ⟨a21, q21, _, w21⟩ := DataW.trod_int Try.underlying3 g21
  have g22 : DataW.trod enc Try.prog W base spare held n 3 (([c0, c1, c2, c3, c4, c5, c6, c7, c8, c9, c10, c11, c12, c13, c14, c15, c16, c17, c18, c19, c20, c21, c22, c23, c24, c25, c26, c27, c28, c29, c30].drop 28).take (Try.prog.cellsOf 3)) = xs[22]? := hg 22 _ rfl
  obtain ⟨y22, e22⟩ := hx 22 (by omega)
  rw [e22, k1] at g22
  obtain ⟨a22, q22, _, w22⟩ := DataW.trod_int Try.underlying3 g22
  have g23 : DataW.trod enc Try.prog W base spare held n 3 (([c0, c1, c2, c3, c4, c5, c6, c7, c8, c9, c10, c11, c12, c13, c14, c15, c16, c17, c18, c19, c20, c21, c22, c23, c24, c25, c26, c27, c28, c29, c30].drop 29).take (Try.prog.cellsOf 3)) = xs[23]? := hg 23 _ rfl
  obtain ⟨y23, e23⟩ := hx 23 (by omega)
  rw [e23, k1] at g23
  obtain ⟨a23, q23, _, w23⟩ := DataW.trod_int Try.underlying3 g23
  have g24 : DataW.trod enc Try.prog W base spare held n 3 (([c0, c1, c2, c3, c4, c5, c6, c7, c8, c9, c10, c11, c12, c13, c14, c15, c16, c17, c18, c19, c20, c21, c22, c23, c24, c25, c26, c27, c28, c29, c30].drop 30).take (Try.prog.cellsOf 3)) = xs[24]? := hg 24 _ rfl
  obtain ⟨y24, e24⟩ := hx 24 (by omega)
  rw [e24, k1] at g24
  obtain ⟨a24, q24, _, w24⟩ := DataW.trod_int Try.underlying3 g24
  simp at q0 q1 q2 q3 q4 s5_0 s5_1 s5_2 s5_3 s6_0 s6_1 s6_2 s6_3 q7 q8 q9 q10 q11 q12 q13 q14 q15 q16 q17 q18 q19 q20 q21 q22 q23 q24
  subst q0 q1 q2 q3 q4 s5_0 s5_1 s5_2 s5_3 s6_0 s6_1 s6_2 s6_3 q7 q8 q9 q10 q11 q12 q13 q14 q15 q16 q17 q18 q19 q20 q21 q22 q23 q24
  obtain ⟨m3, rfl, l3⟩ := nat_u64 w3
  obtain ⟨m5_0, rfl, l5_0⟩ := nat_u64 x5_0
  obtain ⟨m5_1, rfl, l5_1⟩ := nat_u64 x5_1
  obtain ⟨m5_2, rfl, l5_2⟩ := nat_u64 x5_2
  exact ⟨⟨a0, a1, a2, m3, a4, ⟨m5_0, m5_1, m5_2, r5_3⟩, ⟨r6_0, r6_1, r6_2, r6_3⟩, a7, a8, a9, a10, a11, a12, a13, a14, a15, a16, a17, a18, a19, a20, a21, a22, a23, a24⟩, rfl, l3, int_in w4, ⟨l5_0, l5_1, l5_2, int_in x5_3⟩, ⟨int_in x6_0, int_in x6_1, int_in x6_2, int_in x6_3⟩, int_in w7, int_in w8, int_in w18, int_in w19, int_in w20, int_in w21, int_in w22, int_in w23, int_in w24⟩

theorem bd_cells {l : List Value} (h : l.length = 16) : ∃ c0 c1 c2 c3 c4 c5 c6 c7 c8 c9 c10 c11 c12 c13 c14 c15, l = [c0, c1, c2, c3, c4, c5, c6, c7, c8, c9, c10, c11, c12, c13, c14, c15] := by
  match l, h with
  | [c0, c1, c2, c3, c4, c5, c6, c7, c8, c9, c10, c11, c12, c13, c14, c15], _ => exact ⟨c0, c1, c2, c3, c4, c5, c6, c7, c8, c9, c10, c11, c12, c13, c14, c15, rfl⟩

set_option maxRecDepth 40000 in
set_option maxHeartbeats 4000000 in
theorem open_bd {H : Type} {enc : TypeId × Value → H} {W : World} {base b0 : Nat} {spare : Nat → Bool} {held : Bool} {r : Reach} {v : Value} {d : DataW H} {p : List MemPlace}
    (hv : Value.okWide Try.prog W r b0 33 v) (h : DataW.Trod enc Try.prog W base spare held 33 v d p) :
    ∃ x : Bd, v = bdv x ∧ wfBd x := by
  have hs := Try.underlying33
  have kT : Try.prog.cellsOf 33 = 16 := by kernel_rfl
  have k0 : Try.prog.cellsOf 4 = 1 := by kernel_rfl
  have k1 : Try.prog.cellsOf 3 = 1 := by kernel_rfl
  have k2 : Try.prog.cellsOf 26 = 4 := by kernel_rfl
  simp only [Value.okWide, hs] at hv
  obtain ⟨cs, rfl, h2, _⟩ := hv
  obtain ⟨l⟩ := cs
  obtain ⟨fuel, hf⟩ := h
  obtain ⟨xs, n, _, _, hcl, hlen, hg⟩ := DataW.trod_struct hs hf
  have hl : l.length = 16 := by rw [kT] at hcl; simpa [Value.cells] using hcl
  obtain ⟨c0, c1, c2, c3, c4, c5, c6, c7, c8, c9, c10, c11, c12, c13, c14, c15, rfl⟩ := bd_cells hl
  have hx : ∀ i, i < 13 → ∃ y, xs[i]? = some y := fun i hi => ⟨xs[i]'(by rw [hlen]; exact hi), List.getElem?_eq_getElem _⟩
  have g0 : DataW.trod enc Try.prog W base spare held n 3 (([c0, c1, c2, c3, c4, c5, c6, c7, c8, c9, c10, c11, c12, c13, c14, c15].drop 0).take (Try.prog.cellsOf 3)) = xs[0]? := hg 0 _ rfl
  obtain ⟨y0, e0⟩ := hx 0 (by omega)
  rw [e0, k1] at g0
  obtain ⟨a0, q0, _, w0⟩ := DataW.trod_int Try.underlying3 g0
  have g1 : DataW.trod enc Try.prog W base spare held n 4 (([c0, c1, c2, c3, c4, c5, c6, c7, c8, c9, c10, c11, c12, c13, c14, c15].drop 1).take (Try.prog.cellsOf 4)) = xs[1]? := hg 1 _ rfl
  obtain ⟨y1, e1⟩ := hx 1 (by omega)
  rw [e1, k0] at g1
  obtain ⟨a1, q1, _⟩ := DataW.trod_bool Try.underlying4 g1
  have g2 : DataW.trod enc Try.prog W base spare held n 4 (([c0, c1, c2, c3, c4, c5, c6, c7, c8, c9, c10, c11, c12, c13, c14, c15].drop 2).take (Try.prog.cellsOf 4)) = xs[2]? := hg 2 _ rfl
  obtain ⟨y2, e2⟩ := hx 2 (by omega)
  rw [e2, k0] at g2
  obtain ⟨a2, q2, _⟩ := DataW.trod_bool Try.underlying4 g2
  have g3 : DataW.trod enc Try.prog W base spare held n 3 (([c0, c1, c2, c3, c4, c5, c6, c7, c8, c9, c10, c11, c12, c13, c14, c15].drop 3).take (Try.prog.cellsOf 3)) = xs[3]? := hg 3 _ rfl
  obtain ⟨y3, e3⟩ := hx 3 (by omega)
  rw [e3, k1] at g3
  obtain ⟨a3, q3, _, w3⟩ := DataW.trod_int Try.underlying3 g3
  have g4 : DataW.trod enc Try.prog W base spare held n 4 (([c0, c1, c2, c3, c4, c5, c6, c7, c8, c9, c10, c11, c12, c13, c14, c15].drop 4).take (Try.prog.cellsOf 4)) = xs[4]? := hg 4 _ rfl
  obtain ⟨y4, e4⟩ := hx 4 (by omega)
  rw [e4, k0] at g4
  obtain ⟨a4, q4, _⟩ := DataW.trod_bool Try.underlying4 g4
  have g5 : DataW.trod enc Try.prog W base spare held n 4 (([c0, c1, c2, c3, c4, c5, c6, c7, c8, c9, c10, c11, c12, c13, c14, c15].drop 5).take (Try.prog.cellsOf 4)) = xs[5]? := hg 5 _ rfl
  obtain ⟨y5, e5⟩ := hx 5 (by omega)
  rw [e5, k0] at g5
  obtain ⟨a5, q5, _⟩ := DataW.trod_bool Try.underlying4 g5
  have g6 : DataW.trod enc Try.prog W base spare held n 4 (([c0, c1, c2, c3, c4, c5, c6, c7, c8, c9, c10, c11, c12, c13, c14, c15].drop 6).take (Try.prog.cellsOf 4)) = xs[6]? := hg 6 _ rfl
  obtain ⟨y6, e6⟩ := hx 6 (by omega)
  rw [e6, k0] at g6
  obtain ⟨a6, q6, _⟩ := DataW.trod_bool Try.underlying4 g6
  have g7 : DataW.trod enc Try.prog W base spare held n 4 (([c0, c1, c2, c3, c4, c5, c6, c7, c8, c9, c10, c11, c12, c13, c14, c15].drop 7).take (Try.prog.cellsOf 4)) = xs[7]? := hg 7 _ rfl
  obtain ⟨y7, e7⟩ := hx 7 (by omega)
  rw [e7, k0] at g7
  obtain ⟨a7, q7, _⟩ := DataW.trod_bool Try.underlying4 g7
  have g8 : DataW.trod enc Try.prog W base spare held n 26 (([c0, c1, c2, c3, c4, c5, c6, c7, c8, c9, c10, c11, c12, c13, c14, c15].drop 8).take (Try.prog.cellsOf 26)) = xs[8]? := hg 8 _ rfl
  obtain ⟨y8, e8⟩ := hx 8 (by omega)
  rw [e8, k2] at g8
  obtain ⟨zs8, n8, _, _, _, zl8, zg8⟩ := DataW.trod_struct Try.underlying26 g8
  have zx8 : ∀ i, i < 4 → ∃ y, zs8[i]? = some y := fun i hi => ⟨zs8[i]'(by rw [zl8]; exact hi), List.getElem?_eq_getElem _⟩
  have u8_0 : DataW.trod enc Try.prog W base spare held n8 22 (([c8, c9, c10, c11].drop 0).take (Try.prog.cellsOf 22)) = zs8[0]? := zg8 0 _ rfl
  obtain ⟨v8_0, f8_0⟩ := zx8 0 (by omega)
  rw [f8_0, show Try.prog.cellsOf 22 = 1 by kernel_rfl] at u8_0
  obtain ⟨r8_0, s8_0, _, x8_0⟩ := DataW.trod_int Try.underlying22 u8_0
  have u8_1 : DataW.trod enc Try.prog W base spare held n8 22 (([c8, c9, c10, c11].drop 1).take (Try.prog.cellsOf 22)) = zs8[1]? := zg8 1 _ rfl
  obtain ⟨v8_1, f8_1⟩ := zx8 1 (by omega)
  rw [f8_1, show Try.prog.cellsOf 22 = 1 by kernel_rfl] at u8_1
  obtain ⟨r8_1, s8_1, _, x8_1⟩ := DataW.trod_int Try.underlying22 u8_1
  have u8_2 : DataW.trod enc Try.prog W base spare held n8 22 (([c8, c9, c10, c11].drop 2).take (Try.prog.cellsOf 22)) = zs8[2]? := zg8 2 _ rfl
  obtain ⟨v8_2, f8_2⟩ := zx8 2 (by omega)
  rw [f8_2, show Try.prog.cellsOf 22 = 1 by kernel_rfl] at u8_2
  obtain ⟨r8_2, s8_2, _, x8_2⟩ := DataW.trod_int Try.underlying22 u8_2
  have u8_3 : DataW.trod enc Try.prog W base spare held n8 3 (([c8, c9, c10, c11].drop 3).take (Try.prog.cellsOf 3)) = zs8[3]? := zg8 3 _ rfl
  obtain ⟨v8_3, f8_3⟩ := zx8 3 (by omega)
  rw [f8_3, show Try.prog.cellsOf 3 = 1 by kernel_rfl] at u8_3
  obtain ⟨r8_3, s8_3, _, x8_3⟩ := DataW.trod_int Try.underlying3 u8_3
  have g9 : DataW.trod enc Try.prog W base spare held n 3 (([c0, c1, c2, c3, c4, c5, c6, c7, c8, c9, c10, c11, c12, c13, c14, c15].drop 12).take (Try.prog.cellsOf 3)) = xs[9]? := hg 9 _ rfl
  obtain ⟨y9, e9⟩ := hx 9 (by omega)
  rw [e9, k1] at g9
  obtain ⟨a9, q9, _, w9⟩ := DataW.trod_int Try.underlying3 g9
  have g10 : DataW.trod enc Try.prog W base spare held n 3 (([c0, c1, c2, c3, c4, c5, c6, c7, c8, c9, c10, c11, c12, c13, c14, c15].drop 13).take (Try.prog.cellsOf 3)) = xs[10]? := hg 10 _ rfl
  obtain ⟨y10, e10⟩ := hx 10 (by omega)
  rw [e10, k1] at g10
  obtain ⟨a10, q10, _, w10⟩ := DataW.trod_int Try.underlying3 g10
  have g11 : DataW.trod enc Try.prog W base spare held n 3 (([c0, c1, c2, c3, c4, c5, c6, c7, c8, c9, c10, c11, c12, c13, c14, c15].drop 14).take (Try.prog.cellsOf 3)) = xs[11]? := hg 11 _ rfl
  obtain ⟨y11, e11⟩ := hx 11 (by omega)
  rw [e11, k1] at g11
  obtain ⟨a11, q11, _, w11⟩ := DataW.trod_int Try.underlying3 g11
  have g12 : DataW.trod enc Try.prog W base spare held n 3 (([c0, c1, c2, c3, c4, c5, c6, c7, c8, c9, c10, c11, c12, c13, c14, c15].drop 15).take (Try.prog.cellsOf 3)) = xs[12]? := hg 12 _ rfl
  obtain ⟨y12, e12⟩ := hx 12 (by omega)
  rw [e12, k1] at g12
  obtain ⟨a12, q12, _, w12⟩ := DataW.trod_int Try.underlying3 g12
  simp at q0 q1 q2 q3 q4 q5 q6 q7 s8_0 s8_1 s8_2 s8_3 q9 q10 q11 q12
  subst q0 q1 q2 q3 q4 q5 q6 q7 s8_0 s8_1 s8_2 s8_3 q9 q10 q11 q12
  obtain ⟨m8_0, rfl, l8_0⟩ := nat_u64 x8_0
  obtain ⟨m8_1, rfl, l8_1⟩ := nat_u64 x8_1
  obtain ⟨m8_2, rfl, l8_2⟩ := nat_u64 x8_2
  exact ⟨⟨a0, a1, a2, a3, a4, a5, a6, a7, ⟨m8_0, m8_1, m8_2, r8_3⟩, ⟨a9, a10, a11, a12⟩⟩, rfl, int_in w0, int_in w3, ⟨l8_0, l8_1, l8_2, int_in x8_3⟩, ⟨int_in w9, int_in w10, int_in w11, int_in w12⟩⟩

end Crd
end Go.Proofs.Ytkjdnmlaehjmgaa
