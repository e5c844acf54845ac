/-
  An argument that is a bridge of the tree, by value.
-/
import Derived.Test.YtkjdnmlaehjmgaaCrdOpen
import Derived.Test.YtkjdnmlaehjmgaaTre
import Derived.WideShapes
namespace Go.Proofs.Ytkjdnmlaehjmgaa
open Go.RowKit
namespace Tre
open Pre Crd Go.ChangeShapes Go.WideShapes Go.ChangeAt Go.Deep

theorem td_cells {l : List Value} (h : l.length = 262) : ∃ c0 c1 c2 c3 c4 c5 c6 c7 c8 c9 c10 c11 c12 c13 m, l = c0 :: c1 :: c2 :: c3 :: c4 :: c5 :: c6 :: c7 :: c8 :: c9 :: c10 :: c11 :: c12 :: c13 :: m ∧ m.length = 248 := by
  match l, h with
  | c0 :: c1 :: c2 :: c3 :: c4 :: c5 :: c6 :: c7 :: c8 :: c9 :: c10 :: c11 :: c12 :: c13 :: m, h => exact ⟨c0, c1, c2, c3, c4, c5, c6, c7, c8, c9, c10, c11, c12, c13, m, rfl, by simpa using h⟩

set_option maxRecDepth 40000 in
set_option maxHeartbeats 4000000 in
theorem cd_in {H : Type} {enc : TypeId × Value → H} {W : World} {base : Nat} {spare : Nat → Bool} {held : Bool} {fuel : Nat} {l : List Value} {y : DataW H × List MemPlace} (hl : l.length = 31) (hf : DataW.trod enc Try.prog W base spare held fuel 28 l = some y) : ∃ x : Cd, l = cdl x ∧ wfCd x := by
  have hs := Try.underlying28
  have k0 : Try.prog.cellsOf 4 = 1 := by kernel_rfl
  have k1 : Try.prog.cellsOf 3 = 1 := by kernel_rfl
  have k2 : Try.prog.cellsOf 24 = 4 := by kernel_rfl
  have k3 : Try.prog.cellsOf 26 = 4 := by kernel_rfl
  have k4 : Try.prog.cellsOf 22 = 1 := by kernel_rfl
  obtain ⟨xs, n, _, _, hcl, hlen, hg⟩ := DataW.trod_struct hs hf
  obtain ⟨c0, c1, c2, c3, c4, c5, c6, c7, c8, c9, c10, c11, c12, c13, c14, c15, c16, c17, c18, c19, c20, c21, c22, c23, c24, c25, c26, c27, c28, c29, c30, rfl⟩ := cd_cells hl
  have hx : ∀ i, i < 25 → ∃ y, xs[i]? = some y := fun i hi => ⟨xs[i]'(by rw [hlen]; exact hi), List.getElem?_eq_getElem _⟩
  have g0 : DataW.trod enc Try.prog W base spare held n 4 (([c0, c1, c2, c3, c4, c5, c6, c7, c8, c9, c10, c11, c12, c13, c14, c15, c16, c17, c18, c19, c20, c21, c22, c23, c24, c25, c26, c27, c28, c29, c30].drop 0).take (Try.prog.cellsOf 4)) = xs[0]? := hg 0 _ rfl
  obtain ⟨y0, e0⟩ := hx 0 (by omega)
  rw [e0, k0] at g0
  obtain ⟨a0, q0, _⟩ := DataW.trod_bool Try.underlying4 g0
  have g1 : DataW.trod enc Try.prog W base spare held n 4 (([c0, c1, c2, c3, c4, c5, c6, c7, c8, c9, c10, c11, c12, c13, c14, c15, c16, c17, c18, c19, c20, c21, c22, c23, c24, c25, c26, c27, c28, c29, c30].drop 1).take (Try.prog.cellsOf 4)) = xs[1]? := hg 1 _ rfl
  obtain ⟨y1, e1⟩ := hx 1 (by omega)
  rw [e1, k0] at g1
  obtain ⟨a1, q1, _⟩ := DataW.trod_bool Try.underlying4 g1
  have g2 : DataW.trod enc Try.prog W base spare held n 4 (([c0, c1, c2, c3, c4, c5, c6, c7, c8, c9, c10, c11, c12, c13, c14, c15, c16, c17, c18, c19, c20, c21, c22, c23, c24, c25, c26, c27, c28, c29, c30].drop 2).take (Try.prog.cellsOf 4)) = xs[2]? := hg 2 _ rfl
  obtain ⟨y2, e2⟩ := hx 2 (by omega)
  rw [e2, k0] at g2
  obtain ⟨a2, q2, _⟩ := DataW.trod_bool Try.underlying4 g2
  have g3 : DataW.trod enc Try.prog W base spare held n 22 (([c0, c1, c2, c3, c4, c5, c6, c7, c8, c9, c10, c11, c12, c13, c14, c15, c16, c17, c18, c19, c20, c21, c22, c23, c24, c25, c26, c27, c28, c29, c30].drop 3).take (Try.prog.cellsOf 22)) = xs[3]? := hg 3 _ rfl
  obtain ⟨y3, e3⟩ := hx 3 (by omega)
  rw [e3, k4] at g3
  obtain ⟨a3, q3, _, w3⟩ := DataW.trod_int Try.underlying22 g3
  have g4 : DataW.trod enc Try.prog W base spare held n 3 (([c0, c1, c2, c3, c4, c5, c6, c7, c8, c9, c10, c11, c12, c13, c14, c15, c16, c17, c18, c19, c20, c21, c22, c23, c24, c25, c26, c27, c28, c29, c30].drop 4).take (Try.prog.cellsOf 3)) = xs[4]? := hg 4 _ rfl
  obtain ⟨y4, e4⟩ := hx 4 (by omega)
  rw [e4, k1] at g4
  obtain ⟨a4, q4, _, w4⟩ := DataW.trod_int Try.underlying3 g4
  have g5 : DataW.trod enc Try.prog W base spare held n 26 (([c0, c1, c2, c3, c4, c5, c6, c7, c8, c9, c10, c11, c12, c13, c14, c15, c16, c17, c18, c19, c20, c21, c22, c23, c24, c25, c26, c27, c28, c29, c30].drop 5).take (Try.prog.cellsOf 26)) = xs[5]? := hg 5 _ rfl
  obtain ⟨y5, e5⟩ := hx 5 (by omega)
  rw [e5, k3] at g5
  obtain ⟨zs5, n5, _, _, _, zl5, zg5⟩ := DataW.trod_struct Try.underlying26 g5
  have zx5 : ∀ i, i < 4 → ∃ y, zs5[i]? = some y := fun i hi => ⟨zs5[i]'(by rw [zl5]; exact hi), List.getElem?_eq_getElem _⟩
  have u5_0 : DataW.trod enc Try.prog W base spare held n5 22 (([c5, c6, c7, c8].drop 0).take (Try.prog.cellsOf 22)) = zs5[0]? := zg5 0 _ rfl
  obtain ⟨v5_0, f5_0⟩ := zx5 0 (by omega)
  rw [f5_0, show Try.prog.cellsOf 22 = 1 by kernel_rfl] at u5_0
  obtain ⟨r5_0, s5_0, _, x5_0⟩ := DataW.trod_int Try.underlying22 u5_0
  have u5_1 : DataW.trod enc Try.prog W base spare held n5 22 (([c5, c6, c7, c8].drop 1).take (Try.prog.cellsOf 22)) = zs5[1]? := zg5 1 _ rfl
  obtain ⟨v5_1, f5_1⟩ := zx5 1 (by omega)
  rw [f5_1, show Try.prog.cellsOf 22 = 1 by kernel_rfl] at u5_1
  obtain ⟨r5_1, s5_1, _, x5_1⟩ := DataW.trod_int Try.underlying22 u5_1
  have u5_2 : DataW.trod enc Try.prog W base spare held n5 22 (([c5, c6, c7, c8].drop 2).take (Try.prog.cellsOf 22)) = zs5[2]? := zg5 2 _ rfl
  obtain ⟨v5_2, f5_2⟩ := zx5 2 (by omega)
  rw [f5_2, show Try.prog.cellsOf 22 = 1 by kernel_rfl] at u5_2
  obtain ⟨r5_2, s5_2, _, x5_2⟩ := DataW.trod_int Try.underlying22 u5_2
  have u5_3 : DataW.trod enc Try.prog W base spare held n5 3 (([c5, c6, c7, c8].drop 3).take (Try.prog.cellsOf 3)) = zs5[3]? := zg5 3 _ rfl
  obtain ⟨v5_3, f5_3⟩ := zx5 3 (by omega)
  rw [f5_3, show Try.prog.cellsOf 3 = 1 by kernel_rfl] at u5_3
  obtain ⟨r5_3, s5_3, _, x5_3⟩ := DataW.trod_int Try.underlying3 u5_3
  have g6 : DataW.trod enc Try.prog W base spare held n 24 (([c0, c1, c2, c3, c4, c5, c6, c7, c8, c9, c10, c11, c12, c13, c14, c15, c16, c17, c18, c19, c20, c21, c22, c23, c24, c25, c26, c27, c28, c29, c30].drop 9).take (Try.prog.cellsOf 24)) = xs[6]? := hg 6 _ rfl
  obtain ⟨y6, e6⟩ := hx 6 (by omega)
  rw [e6, k2] at g6
  obtain ⟨zs6, n6, _, _, _, zl6, zg6⟩ := DataW.trod_struct Try.underlying24 g6
  have zx6 : ∀ i, i < 4 → ∃ y, zs6[i]? = some y := fun i hi => ⟨zs6[i]'(by rw [zl6]; exact hi), List.getElem?_eq_getElem _⟩
  have u6_0 : DataW.trod enc Try.prog W base spare held n6 3 (([c9, c10, c11, c12].drop 0).take (Try.prog.cellsOf 3)) = zs6[0]? := zg6 0 _ rfl
  obtain ⟨v6_0, f6_0⟩ := zx6 0 (by omega)
  rw [f6_0, show Try.prog.cellsOf 3 = 1 by kernel_rfl] at u6_0
  obtain ⟨r6_0, s6_0, _, x6_0⟩ := DataW.trod_int Try.underlying3 u6_0
  have u6_1 : DataW.trod enc Try.prog W base spare held n6 3 (([c9, c10, c11, c12].drop 1).take (Try.prog.cellsOf 3)) = zs6[1]? := zg6 1 _ rfl
  obtain ⟨v6_1, f6_1⟩ := zx6 1 (by omega)
  rw [f6_1, show Try.prog.cellsOf 3 = 1 by kernel_rfl] at u6_1
  obtain ⟨r6_1, s6_1, _, x6_1⟩ := DataW.trod_int Try.underlying3 u6_1
  have u6_2 : DataW.trod enc Try.prog W base spare held n6 3 (([c9, c10, c11, c12].drop 2).take (Try.prog.cellsOf 3)) = zs6[2]? := zg6 2 _ rfl
  obtain ⟨v6_2, f6_2⟩ := zx6 2 (by omega)
  rw [f6_2, show Try.prog.cellsOf 3 = 1 by kernel_rfl] at u6_2
  obtain ⟨r6_2, s6_2, _, x6_2⟩ := DataW.trod_int Try.underlying3 u6_2
  have u6_3 : DataW.trod enc Try.prog W base spare held n6 3 (([c9, c10, c11, c12].drop 3).take (Try.prog.cellsOf 3)) = zs6[3]? := zg6 3 _ rfl
  obtain ⟨v6_3, f6_3⟩ := zx6 3 (by omega)
  rw [f6_3, show Try.prog.cellsOf 3 = 1 by kernel_rfl] at u6_3
  obtain ⟨r6_3, s6_3, _, x6_3⟩ := DataW.trod_int Try.underlying3 u6_3
  have g7 : DataW.trod enc Try.prog W base spare held n 3 (([c0, c1, c2, c3, c4, c5, c6, c7, c8, c9, c10, c11, c12, c13, c14, c15, c16, c17, c18, c19, c20, c21, c22, c23, c24, c25, c26, c27, c28, c29, c30].drop 13).take (Try.prog.cellsOf 3)) = xs[7]? := hg 7 _ rfl
  obtain ⟨y7, e7⟩ := hx 7 (by omega)
  rw [e7, k1] at g7
  obtain ⟨a7, q7, _, w7⟩ := DataW.trod_int Try.underlying3 g7
  have g8 : DataW.trod enc Try.prog W base spare held n 3 (([c0, c1, c2, c3, c4, c5, c6, c7, c8, c9, c10, c11, c12, c13, c14, c15, c16, c17, c18, c19, c20, c21, c22, c23, c24, c25, c26, c27, c28, c29, c30].drop 14).take (Try.prog.cellsOf 3)) = xs[8]? := hg 8 _ rfl
  obtain ⟨y8, e8⟩ := hx 8 (by omega)
  rw [e8, k1] at g8
  obtain ⟨a8, q8, _, w8⟩ := DataW.trod_int Try.underlying3 g8
  have g9 : DataW.trod enc Try.prog W base spare held n 4 (([c0, c1, c2, c3, c4, c5, c6, c7, c8, c9, c10, c11, c12, c13, c14, c15, c16, c17, c18, c19, c20, c21, c22, c23, c24, c25, c26, c27, c28, c29, c30].drop 15).take (Try.prog.cellsOf 4)) = xs[9]? := hg 9 _ rfl
  obtain ⟨y9, e9⟩ := hx 9 (by omega)
  rw [e9, k0] at g9
  obtain ⟨a9, q9, _⟩ := DataW.trod_bool Try.underlying4 g9
  have g10 : DataW.trod enc Try.prog W base spare held n 4 (([c0, c1, c2, c3, c4, c5, c6, c7, c8, c9, c10, c11, c12, c13, c14, c15, c16, c17, c18, c19, c20, c21, c22, c23, c24, c25, c26, c27, c28, c29, c30].drop 16).take (Try.prog.cellsOf 4)) = xs[10]? := hg 10 _ rfl
  obtain ⟨y10, e10⟩ := hx 10 (by omega)
  rw [e10, k0] at g10
  obtain ⟨a10, q10, _⟩ := DataW.trod_bool Try.underlying4 g10
  have g11 : DataW.trod enc Try.prog W base spare held n 4 (([c0, c1, c2, c3, c4, c5, c6, c7, c8, c9, c10, c11, c12, c13, c14, c15, c16, c17, c18, c19, c20, c21, c22, c23, c24, c25, c26, c27, c28, c29, c30].drop 17).take (Try.prog.cellsOf 4)) = xs[11]? := hg 11 _ rfl
  obtain ⟨y11, e11⟩ := hx 11 (by omega)
  rw [e11, k0] at g11
  obtain ⟨a11, q11, _⟩ := DataW.trod_bool Try.underlying4 g11
  have g12 : DataW.trod enc Try.prog W base spare held n 4 (([c0, c1, c2, c3, c4, c5, c6, c7, c8, c9, c10, c11, c12, c13, c14, c15, c16, c17, c18, c19, c20, c21, c22, c23, c24, c25, c26, c27, c28, c29, c30].drop 18).take (Try.prog.cellsOf 4)) = xs[12]? := hg 12 _ rfl
  obtain ⟨y12, e12⟩ := hx 12 (by omega)
  rw [e12, k0] at g12
  obtain ⟨a12, q12, _⟩ := DataW.trod_bool Try.underlying4 g12
  have g13 : DataW.trod enc Try.prog W base spare held n 4 (([c0, c1, c2, c3, c4, c5, c6, c7, c8, c9, c10, c11, c12, c13, c14, c15, c16, c17, c18, c19, c20, c21, c22, c23, c24, c25, c26, c27, c28, c29, c30].drop 19).take (Try.prog.cellsOf 4)) = xs[13]? := hg 13 _ rfl
  obtain ⟨y13, e13⟩ := hx 13 (by omega)
  rw [e13, k0] at g13
  obtain ⟨a13, q13, _⟩ := DataW.trod_bool Try.underlying4 g13
  have g14 : DataW.trod enc Try.prog W base spare held n 4 (([c0, c1, c2, c3, c4, c5, c6, c7, c8, c9, c10, c11, c12, c13, c14, c15, c16, c17, c18, c19, c20, c21, c22, c23, c24, c25, c26, c27, c28, c29, c30].drop 20).take (Try.prog.cellsOf 4)) = xs[14]? := hg 14 _ rfl
  obtain ⟨y14, e14⟩ := hx 14 (by omega)
  rw [e14, k0] at g14
  obtain ⟨a14, q14, _⟩ := DataW.trod_bool Try.underlying4 g14
  have g15 : DataW.trod enc Try.prog W base spare held n 4 (([c0, c1, c2, c3, c4, c5, c6, c7, c8, c9, c10, c11, c12, c13, c14, c15, c16, c17, c18, c19, c20, c21, c22, c23, c24, c25, c26, c27, c28, c29, c30].drop 21).take (Try.prog.cellsOf 4)) = xs[15]? := hg 15 _ rfl
  obtain ⟨y15, e15⟩ := hx 15 (by omega)
  rw [e15, k0] at g15
  obtain ⟨a15, q15, _⟩ := DataW.trod_bool Try.underlying4 g15
  have g16 : DataW.trod enc Try.prog W base spare held n 4 (([c0, c1, c2, c3, c4, c5, c6, c7, c8, c9, c10, c11, c12, c13, c14, c15, c16, c17, c18, c19, c20, c21, c22, c23, c24, c25, c26, c27, c28, c29, c30].drop 22).take (Try.prog.cellsOf 4)) = xs[16]? := hg 16 _ rfl
  obtain ⟨y16, e16⟩ := hx 16 (by omega)
  rw [e16, k0] at g16
  obtain ⟨a16, q16, _⟩ := DataW.trod_bool Try.underlying4 g16
  have g17 : DataW.trod enc Try.prog W base spare held n 4 (([c0, c1, c2, c3, c4, c5, c6, c7, c8, c9, c10, c11, c12, c13, c14, c15, c16, c17, c18, c19, c20, c21, c22, c23, c24, c25, c26, c27, c28, c29, c30].drop 23).take (Try.prog.cellsOf 4)) = xs[17]? := hg 17 _ rfl
  obtain ⟨y17, e17⟩ := hx 17 (by omega)
  rw [e17, k0] at g17
  obtain ⟨a17, q17, _⟩ := DataW.trod_bool Try.underlying4 g17
  have g18 : DataW.trod enc Try.prog W base spare held n 3 (([c0, c1, c2, c3, c4, c5, c6, c7, c8, c9, c10, c11, c12, c13, c14, c15, c16, c17, c18, c19, c20, c21, c22, c23, c24, c25, c26, c27, c28, c29, c30].drop 24).take (Try.prog.cellsOf 3)) = xs[18]? := hg 18 _ rfl
  obtain ⟨y18, e18⟩ := hx 18 (by omega)
  rw [e18, k1] at g18
  obtain ⟨a18, q18, _, w18⟩ := DataW.trod_int Try.underlying3 g18
  have g19 : DataW.trod enc Try.prog W base spare held n 3 (([c0, c1, c2, c3, c4, c5, c6, c7, c8, c9, c10, c11, c12, c13, c14, c15, c16, c17, c18, c19, c20, c21, c22, c23, c24, c25, c26, c27, c28, c29, c30].drop 25).take (Try.prog.cellsOf 3)) = xs[19]? := hg 19 _ rfl
  obtain ⟨y19, e19⟩ := hx 19 (by omega)
  rw [e19, k1] at g19
  obtain ⟨a19, q19, _, w19⟩ := DataW.trod_int Try.underlying3 g19
  have g20 : DataW.trod enc Try.prog W base spare held n 3 (([c0, c1, c2, c3, c4, c5, c6, c7, c8, c9, c10, c11, c12, c13, c14, c15, c16, c17, c18, c19, c20, c21, c22, c23, c24, c25, c26, c27, c28, c29, c30].drop 26).take (Try.prog.cellsOf 3)) = xs[20]? := hg 20 _ rfl
  obtain ⟨y20, e20⟩ := hx 20 (by omega)
  rw [e20, k1] at g20
  obtain ⟨a20, q20, _, w20⟩ := DataW.trod_int Try.underlying3 g20
  have g21 : DataW.trod enc Try.prog W base spare held n 3 (([c0, c1, c2, c3, c4, c5, c6, c7, c8, c9, c10, c11, c12, c13, c14, c15, c16, c17, c18, c19, c20, c21, c22, c23, c24, c25, c26, c27, c28, c29, c30].drop 27).take (Try.prog.cellsOf 3)) = xs[21]? := hg 21 _ rfl
  obtain ⟨y21, e21⟩ := hx 21 (by omega)
  rw [e21, k1] at g21
  obtain ⟨a21, q21, _, w21⟩ := DataW.trod_int Try.underlying3 g21
  have g22 : DataW.trod enc Try.prog W base spare held n 3 (([c0, c1, c2, c3, c4, c5, c6, c7, c8, c9, c10, c11, c12, c13, c14, c15, c16, c17, c18, c19, c20, c21, c22, c23, c24, c25, c26, c27, c28, c29, c30].drop 28).take (Try.prog.cellsOf 3)) = xs[22]? := hg 22 _ rfl
  obtain ⟨y22, e22⟩ := hx 22 (by omega)
  rw [e22, k1] at g22
  obtain ⟨a22, q22, _, w22⟩ := DataW.trod_int Try.underlying3 g22
  have g23 : DataW.trod enc Try.prog W base spare held n 3 (([c0, c1, c2, c3, c4, c5, c6, c7, c8, c9, c10, c11, c12, c13, c14, c15, c16, c17, c18, c19, c20, c21, c22, c23, c24, c25, c26, c27, c28, c29, c30].drop 29).take (Try.prog.cellsOf 3)) = xs[23]? := hg 23 _ rfl
  obtain ⟨y23, e23⟩ := hx 23 (by omega)
  rw [e23, k1] at g23
  obtain ⟨a23, q23, _, w23⟩ := DataW.trod_int Try.underlying3 g23
  have g24 : DataW.trod enc Try.prog W base spare held n 3 (([c0, c1, c2, c3, c4, c5, c6, c7, c8, c9, c10, c11, c12, c13, c14, c15, c16, c17, c18, c19, c20, c21, c22, c23, c24, c25, c26, c27, c28, c29, c30].drop 30).take (Try.prog.cellsOf 3)) = xs[24]? := hg 24 _ rfl
  obtain ⟨y24, e24⟩ := hx 24 (by omega)
  rw [e24, k1] at g24
  obtain ⟨a24, q24, _, w24⟩ := DataW.trod_int Try.underlying3 g24
  simp at q0 q1 q2 q3 q4 s5_0 s5_1 s5_2 s5_3 s6_0 s6_1 s6_2 s6_3 q7 q8 q9 q10 q11 q12 q13 q14 q15 q16 q17 q18 q19 q20 q21 q22 q23 q24
  subst q0 q1 q2 q3 q4 s5_0 s5_1 s5_2 s5_3 s6_0 s6_1 s6_2 s6_3 q7 q8 q9 q10 q11 q12 q13 q14 q15 q16 q17 q18 q19 q20 q21 q22 q23 q24
  obtain ⟨m3, rfl, l3⟩ := nat_u64 w3
  obtain ⟨m5_0, rfl, l5_0⟩ := nat_u64 x5_0
  obtain ⟨m5_1, rfl, l5_1⟩ := nat_u64 x5_1
  obtain ⟨m5_2, rfl, l5_2⟩ := nat_u64 x5_2
  exact ⟨⟨a0, a1, a2, m3, a4, ⟨m5_0, m5_1, m5_2, r5_3⟩, ⟨r6_0, r6_1, r6_2, r6_3⟩, a7, a8, a9, a10, a11, a12, a13, a14, a15, a16, a17, a18, a19, a20, a21, a22, a23, a24⟩, rfl, l3, int_in w4, ⟨l5_0, l5_1, l5_2, int_in x5_3⟩, ⟨int_in x6_0, int_in x6_1, int_in x6_2, int_in x6_3⟩, int_in w7, int_in w8, int_in w18, int_in w19, int_in w20, int_in w21, int_in w22, int_in w23, int_in w24⟩

set_option maxRecDepth 40000 in
set_option maxHeartbeats 4000000 in
theorem open_td {H : Type} {enc : TypeId × Value → H} {W : World} {base b0 : Nat} {spare : Nat → Bool} {held : Bool} {r : Reach} {v : Value} {d : DataW H} {p : List MemPlace}
    (hv : Value.okWide Try.prog W r b0 31 v) (h : DataW.Trod enc Try.prog W base spare held 31 v d p) :
    ∃ x : Td, v = tdv x := by
  have hs := Try.underlying31
  have kT : Try.prog.cellsOf 31 = 262 := by kernel_rfl
  have k0 : Try.prog.cellsOf 3 = 1 := by kernel_rfl
  have k1 : Try.prog.cellsOf 24 = 4 := by kernel_rfl
  have k2 : Try.prog.cellsOf 26 = 4 := by kernel_rfl
  have k3 : Try.prog.cellsOf 22 = 1 := by kernel_rfl
  simp only [Value.okWide, hs] at hv
  obtain ⟨cs, rfl, h2, _⟩ := hv
  obtain ⟨l⟩ := cs
  obtain ⟨fuel, hf⟩ := h
  obtain ⟨xs, n, _, _, hcl, hlen, hg⟩ := DataW.trod_struct hs hf
  have hl : l.length = 262 := by rw [kT] at hcl; simpa [Value.cells] using hcl
  obtain ⟨c0, c1, c2, c3, c4, c5, c6, c7, c8, c9, c10, c11, c12, c13, m, rfl, hm⟩ := td_cells hl
  have hx : ∀ i, i < 6 → ∃ y, xs[i]? = some y := fun i hi => ⟨xs[i]'(by rw [hlen]; exact hi), List.getElem?_eq_getElem _⟩
  have g0 : DataW.trod enc Try.prog W base spare held n 22 (((c0 :: c1 :: c2 :: c3 :: c4 :: c5 :: c6 :: c7 :: c8 :: c9 :: c10 :: c11 :: c12 :: c13 :: m).drop 0).take (Try.prog.cellsOf 22)) = xs[0]? := hg 0 _ rfl
  obtain ⟨y0, e0⟩ := hx 0 (by omega)
  rw [e0, k3] at g0
  obtain ⟨a0, q0, _, w0⟩ := DataW.trod_int Try.underlying22 g0
  have g1 : DataW.trod enc Try.prog W base spare held n 24 (((c0 :: c1 :: c2 :: c3 :: c4 :: c5 :: c6 :: c7 :: c8 :: c9 :: c10 :: c11 :: c12 :: c13 :: m).drop 1).take (Try.prog.cellsOf 24)) = xs[1]? := hg 1 _ rfl
  obtain ⟨y1, e1⟩ := hx 1 (by omega)
  rw [e1, k1] at g1
  obtain ⟨zs1, n1, _, _, _, zl1, zg1⟩ := DataW.trod_struct Try.underlying24 g1
  have zx1 : ∀ i, i < 4 → ∃ y, zs1[i]? = some y := fun i hi => ⟨zs1[i]'(by rw [zl1]; exact hi), List.getElem?_eq_getElem _⟩
  have u1_0 : DataW.trod enc Try.prog W base spare held n1 3 (([c1, c2, c3, c4].drop 0).take (Try.prog.cellsOf 3)) = zs1[0]? := zg1 0 _ rfl
  obtain ⟨v1_0, f1_0⟩ := zx1 0 (by omega)
  rw [f1_0, show Try.prog.cellsOf 3 = 1 by kernel_rfl] at u1_0
  obtain ⟨r1_0, s1_0, _, x1_0⟩ := DataW.trod_int Try.underlying3 u1_0
  have u1_1 : DataW.trod enc Try.prog W base spare held n1 3 (([c1, c2, c3, c4].drop 1).take (Try.prog.cellsOf 3)) = zs1[1]? := zg1 1 _ rfl
  obtain ⟨v1_1, f1_1⟩ := zx1 1 (by omega)
  rw [f1_1, show Try.prog.cellsOf 3 = 1 by kernel_rfl] at u1_1
  obtain ⟨r1_1, s1_1, _, x1_1⟩ := DataW.trod_int Try.underlying3 u1_1
  have u1_2 : DataW.trod enc Try.prog W base spare held n1 3 (([c1, c2, c3, c4].drop 2).take (Try.prog.cellsOf 3)) = zs1[2]? := zg1 2 _ rfl
  obtain ⟨v1_2, f1_2⟩ := zx1 2 (by omega)
  rw [f1_2, show Try.prog.cellsOf 3 = 1 by kernel_rfl] at u1_2
  obtain ⟨r1_2, s1_2, _, x1_2⟩ := DataW.trod_int Try.underlying3 u1_2
  have u1_3 : DataW.trod enc Try.prog W base spare held n1 3 (([c1, c2, c3, c4].drop 3).take (Try.prog.cellsOf 3)) = zs1[3]? := zg1 3 _ rfl
  obtain ⟨v1_3, f1_3⟩ := zx1 3 (by omega)
  rw [f1_3, show Try.prog.cellsOf 3 = 1 by kernel_rfl] at u1_3
  obtain ⟨r1_3, s1_3, _, x1_3⟩ := DataW.trod_int Try.underlying3 u1_3
  have g2 : DataW.trod enc Try.prog W base spare held n 26 (((c0 :: c1 :: c2 :: c3 :: c4 :: c5 :: c6 :: c7 :: c8 :: c9 :: c10 :: c11 :: c12 :: c13 :: m).drop 5).take (Try.prog.cellsOf 26)) = xs[2]? := hg 2 _ rfl
  obtain ⟨y2, e2⟩ := hx 2 (by omega)
  rw [e2, k2] at g2
  obtain ⟨zs2, n2, _, _, _, zl2, zg2⟩ := DataW.trod_struct Try.underlying26 g2
  have zx2 : ∀ i, i < 4 → ∃ y, zs2[i]? = some y := fun i hi => ⟨zs2[i]'(by rw [zl2]; exact hi), List.getElem?_eq_getElem _⟩
  have u2_0 : DataW.trod enc Try.prog W base spare held n2 22 (([c5, c6, c7, c8].drop 0).take (Try.prog.cellsOf 22)) = zs2[0]? := zg2 0 _ rfl
  obtain ⟨v2_0, f2_0⟩ := zx2 0 (by omega)
  rw [f2_0, show Try.prog.cellsOf 22 = 1 by kernel_rfl] at u2_0
  obtain ⟨r2_0, s2_0, _, x2_0⟩ := DataW.trod_int Try.underlying22 u2_0
  have u2_1 : DataW.trod enc Try.prog W base spare held n2 22 (([c5, c6, c7, c8].drop 1).take (Try.prog.cellsOf 22)) = zs2[1]? := zg2 1 _ rfl
  obtain ⟨v2_1, f2_1⟩ := zx2 1 (by omega)
  rw [f2_1, show Try.prog.cellsOf 22 = 1 by kernel_rfl] at u2_1
  obtain ⟨r2_1, s2_1, _, x2_1⟩ := DataW.trod_int Try.underlying22 u2_1
  have u2_2 : DataW.trod enc Try.prog W base spare held n2 22 (([c5, c6, c7, c8].drop 2).take (Try.prog.cellsOf 22)) = zs2[2]? := zg2 2 _ rfl
  obtain ⟨v2_2, f2_2⟩ := zx2 2 (by omega)
  rw [f2_2, show Try.prog.cellsOf 22 = 1 by kernel_rfl] at u2_2
  obtain ⟨r2_2, s2_2, _, x2_2⟩ := DataW.trod_int Try.underlying22 u2_2
  have u2_3 : DataW.trod enc Try.prog W base spare held n2 3 (([c5, c6, c7, c8].drop 3).take (Try.prog.cellsOf 3)) = zs2[3]? := zg2 3 _ rfl
  obtain ⟨v2_3, f2_3⟩ := zx2 3 (by omega)
  rw [f2_3, show Try.prog.cellsOf 3 = 1 by kernel_rfl] at u2_3
  obtain ⟨r2_3, s2_3, _, x2_3⟩ := DataW.trod_int Try.underlying3 u2_3
  have g3 : DataW.trod enc Try.prog W base spare held n 24 (((c0 :: c1 :: c2 :: c3 :: c4 :: c5 :: c6 :: c7 :: c8 :: c9 :: c10 :: c11 :: c12 :: c13 :: m).drop 9).take (Try.prog.cellsOf 24)) = xs[3]? := hg 3 _ rfl
  obtain ⟨y3, e3⟩ := hx 3 (by omega)
  rw [e3, k1] at g3
  obtain ⟨zs3, n3, _, _, _, zl3, zg3⟩ := DataW.trod_struct Try.underlying24 g3
  have zx3 : ∀ i, i < 4 → ∃ y, zs3[i]? = some y := fun i hi => ⟨zs3[i]'(by rw [zl3]; exact hi), List.getElem?_eq_getElem _⟩
  have u3_0 : DataW.trod enc Try.prog W base spare held n3 3 (([c9, c10, c11, c12].drop 0).take (Try.prog.cellsOf 3)) = zs3[0]? := zg3 0 _ rfl
  obtain ⟨v3_0, f3_0⟩ := zx3 0 (by omega)
  rw [f3_0, show Try.prog.cellsOf 3 = 1 by kernel_rfl] at u3_0
  obtain ⟨r3_0, s3_0, _, x3_0⟩ := DataW.trod_int Try.underlying3 u3_0
  have u3_1 : DataW.trod enc Try.prog W base spare held n3 3 (([c9, c10, c11, c12].drop 1).take (Try.prog.cellsOf 3)) = zs3[1]? := zg3 1 _ rfl
  obtain ⟨v3_1, f3_1⟩ := zx3 1 (by omega)
  rw [f3_1, show Try.prog.cellsOf 3 = 1 by kernel_rfl] at u3_1
  obtain ⟨r3_1, s3_1, _, x3_1⟩ := DataW.trod_int Try.underlying3 u3_1
  have u3_2 : DataW.trod enc Try.prog W base spare held n3 3 (([c9, c10, c11, c12].drop 2).take (Try.prog.cellsOf 3)) = zs3[2]? := zg3 2 _ rfl
  obtain ⟨v3_2, f3_2⟩ := zx3 2 (by omega)
  rw [f3_2, show Try.prog.cellsOf 3 = 1 by kernel_rfl] at u3_2
  obtain ⟨r3_2, s3_2, _, x3_2⟩ := DataW.trod_int Try.underlying3 u3_2
  have u3_3 : DataW.trod enc Try.prog W base spare held n3 3 (([c9, c10, c11, c12].drop 3).take (Try.prog.cellsOf 3)) = zs3[3]? := zg3 3 _ rfl
  obtain ⟨v3_3, f3_3⟩ := zx3 3 (by omega)
  rw [f3_3, show Try.prog.cellsOf 3 = 1 by kernel_rfl] at u3_3
  obtain ⟨r3_3, s3_3, _, x3_3⟩ := DataW.trod_int Try.underlying3 u3_3
  have g4 : DataW.trod enc Try.prog W base spare held n 3 (((c0 :: c1 :: c2 :: c3 :: c4 :: c5 :: c6 :: c7 :: c8 :: c9 :: c10 :: c11 :: c12 :: c13 :: m).drop 13).take (Try.prog.cellsOf 3)) = xs[4]? := hg 4 _ rfl
  obtain ⟨y4, e4⟩ := hx 4 (by omega)
  rw [e4, k0] at g4
  obtain ⟨a4, q4, _, w4⟩ := DataW.trod_int Try.underlying3 g4
  have g5 : DataW.trod enc Try.prog W base spare held n 29 (((c0 :: c1 :: c2 :: c3 :: c4 :: c5 :: c6 :: c7 :: c8 :: c9 :: c10 :: c11 :: c12 :: c13 :: m).drop 14).take (Try.prog.cellsOf 29)) = xs[5]? := hg 5 _ rfl
  obtain ⟨y5, e5⟩ := hx 5 (by omega)
  rw [e5, show Try.prog.cellsOf 29 = 248 by kernel_rfl, show (c0 :: c1 :: c2 :: c3 :: c4 :: c5 :: c6 :: c7 :: c8 :: c9 :: c10 :: c11 :: c12 :: c13 :: m).drop 14 = m from rfl, List.take_of_length_le (by omega)] at g5
  obtain ⟨ys, m5, _, _, _, hyl, hy⟩ := DataW.trod_array cs_under g5
  have each : ∀ j, j < 8 → ∃ x : Cd, (m.drop (j * 31)).take 31 = cdl x := fun j hj => by
    have gj := hy j hj
    rw [show Try.prog.cellsOf 28 = 31 by kernel_rfl, List.getElem?_eq_getElem (by omega)] at gj
    obtain ⟨x, hx, _⟩ := cd_in (by rw [List.length_take, List.length_drop]; omega) gj
    exact ⟨x, hx⟩
  haveI : Inhabited Cd := ⟨Cd.zero⟩
  obtain ⟨z, hz⟩ := choose_lt each
  have hmz : m = flat z := by
    refine List.ext_getElem? fun q => ?_
    by_cases hq : q < 248
    · obtain ⟨i, j, hi, hj, rfl⟩ : ∃ i j, i < 8 ∧ j < 31 ∧ q = i * 31 + j := ⟨q / 31, q % 31, by omega, by omega, by omega⟩
      rw [flat_get z i j hi hj, ← hz i hi, List.getElem?_take_of_lt hj, List.getElem?_drop]
    · rw [List.getElem?_eq_none (by omega), List.getElem?_eq_none (by rw [flat_len]; omega)]
  simp at q0 s1_0 s1_1 s1_2 s1_3 s2_0 s2_1 s2_2 s2_3 s3_0 s3_1 s3_2 s3_3 q4
  subst q0 s1_0 s1_1 s1_2 s1_3 s2_0 s2_1 s2_2 s2_3 s3_0 s3_1 s3_2 s3_3 q4
  obtain ⟨m0, rfl, l0⟩ := nat_u64 w0
  obtain ⟨m2_0, rfl, l2_0⟩ := nat_u64 x2_0
  obtain ⟨m2_1, rfl, l2_1⟩ := nat_u64 x2_1
  obtain ⟨m2_2, rfl, l2_2⟩ := nat_u64 x2_2
  exact ⟨⟨m0, ⟨r1_0, r1_1, r1_2, r1_3⟩, ⟨m2_0, m2_1, m2_2, r2_3⟩, ⟨r3_0, r3_1, r3_2, r3_3⟩, a4, z⟩, by unfold tdv tdl; rw [hmz]⟩

end Tre
end Go.Proofs.Ytkjdnmlaehjmgaa
