/-
  An argument that is told by bridges (api.Bpdu): its sixteen cells.
-/
import Derived.Test.YtiokkahldhmhlaaBpW
import Derived.Test.YtiokkahldhmhlaaOpen
namespace Go.Proofs.Ytiokkahldhmhlaa
open Go.RowKit
namespace Bpd
open Oct Mac Eth Epl Go.ChangeShapes Go.WideShapes Go.ChangeAt Go.Deep

theorem wf_u64 {n : Int} (h : (Lit.int .u64 n).wf = true) : ∃ m : Nat, n = m ∧ m < 18446744073709551616 := by
  have h' : 0 ≤ n ∧ n ≤ 18446744073709551615 := by simpa [Lit.wf, IntKind.min, IntKind.max, IntKind.signed, IntKind.bits] using h
  exact ⟨n.toNat, by omega, by omega⟩

theorem sixteen {l : List Value} (h : l.length = 16) : ∃ c0 c1 c2 c3 c4 c5 c6 c7 c8 c9 c10 c11 c12 c13 c14 c15, l = [c0, c1, c2, c3, c4, c5, c6, c7, c8, c9, c10, c11, c12, c13, c14, c15] := by
  match l, h with
  | [c0, c1, c2, c3, c4, c5, c6, c7, c8, c9, c10, c11, c12, c13, c14, c15], _ => exact ⟨c0, c1, c2, c3, c4, c5, c6, c7, c8, c9, c10, c11, c12, c13, c14, c15, rfl⟩

theorem open_bpdu {H : Type} {enc : TypeId × Value → H} {W : World} {base b0 : Nat} {spare : Nat → Bool} {held : Bool} {r : Reach} {v : Value} {d : DataW H} {p : List MemPlace}
    (hv : Value.okWide Try.prog W r b0 26 v) (h : DataW.Trod enc Try.prog W base spare held 26 v d p) :
    ∃ b : Bp, v = bp b ∧ b.r < 18446744073709551616 ∧ b.c < 18446744073709551616 ∧ b.g < 18446744073709551616 := by
  have hs := Try.underlying26
  have k1 : Try.prog.cellsOf 3 = 1 := by kernel_rfl
  have k2 : Try.prog.cellsOf 4 = 1 := by kernel_rfl
  have k3 : Try.prog.cellsOf 24 = 4 := by kernel_rfl
  have k4 : Try.prog.cellsOf 22 = 1 := by kernel_rfl
  have k5 : Try.prog.cellsOf 26 = 16 := by kernel_rfl
  simp only [Value.okWide, hs] at hv
  obtain ⟨cs, rfl, h2, _⟩ := hv
  obtain ⟨l⟩ := cs
  obtain ⟨fuel, hf⟩ := h
  obtain ⟨xs, n, _, _, hcl, hlen, hg⟩ := DataW.trod_struct hs hf
  have hl : l.length = 16 := by rw [k5] at hcl; simpa [Value.cells] using hcl
  obtain ⟨c0, c1, c2, c3, c4, c5, c6, c7, c8, c9, c10, c11, c12, c13, c14, c15, rfl⟩ := sixteen hl
  have hx : ∀ i, i < 13 → ∃ y, xs[i]? = some y := fun i hi => ⟨xs[i]'(by rw [hlen]; exact hi), List.getElem?_eq_getElem _⟩
  have g0 : DataW.trod enc Try.prog W base spare held n 3 (([c0, c1, c2, c3, c4, c5, c6, c7, c8, c9, c10, c11, c12, c13, c14, c15].drop 0).take (Try.prog.cellsOf 3)) = xs[0]? := hg 0 _ rfl
  obtain ⟨y0, e0⟩ := hx 0 (by omega)
  rw [e0, k1] at g0
  have g1 : DataW.trod enc Try.prog W base spare held n 4 (([c0, c1, c2, c3, c4, c5, c6, c7, c8, c9, c10, c11, c12, c13, c14, c15].drop 1).take (Try.prog.cellsOf 4)) = xs[1]? := hg 1 _ rfl
  obtain ⟨y1, e1⟩ := hx 1 (by omega)
  rw [e1, k2] at g1
  have g2 : DataW.trod enc Try.prog W base spare held n 4 (([c0, c1, c2, c3, c4, c5, c6, c7, c8, c9, c10, c11, c12, c13, c14, c15].drop 2).take (Try.prog.cellsOf 4)) = xs[2]? := hg 2 _ rfl
  obtain ⟨y2, e2⟩ := hx 2 (by omega)
  rw [e2, k2] at g2
  have g3 : DataW.trod enc Try.prog W base spare held n 3 (([c0, c1, c2, c3, c4, c5, c6, c7, c8, c9, c10, c11, c12, c13, c14, c15].drop 3).take (Try.prog.cellsOf 3)) = xs[3]? := hg 3 _ rfl
  obtain ⟨y3, e3⟩ := hx 3 (by omega)
  rw [e3, k1] at g3
  have g4 : DataW.trod enc Try.prog W base spare held n 4 (([c0, c1, c2, c3, c4, c5, c6, c7, c8, c9, c10, c11, c12, c13, c14, c15].drop 4).take (Try.prog.cellsOf 4)) = xs[4]? := hg 4 _ rfl
  obtain ⟨y4, e4⟩ := hx 4 (by omega)
  rw [e4, k2] at g4
  have g5 : DataW.trod enc Try.prog W base spare held n 4 (([c0, c1, c2, c3, c4, c5, c6, c7, c8, c9, c10, c11, c12, c13, c14, c15].drop 5).take (Try.prog.cellsOf 4)) = xs[5]? := hg 5 _ rfl
  obtain ⟨y5, e5⟩ := hx 5 (by omega)
  rw [e5, k2] at g5
  have g6 : DataW.trod enc Try.prog W base spare held n 4 (([c0, c1, c2, c3, c4, c5, c6, c7, c8, c9, c10, c11, c12, c13, c14, c15].drop 6).take (Try.prog.cellsOf 4)) = xs[6]? := hg 6 _ rfl
  obtain ⟨y6, e6⟩ := hx 6 (by omega)
  rw [e6, k2] at g6
  have g7 : DataW.trod enc Try.prog W base spare held n 4 (([c0, c1, c2, c3, c4, c5, c6, c7, c8, c9, c10, c11, c12, c13, c14, c15].drop 7).take (Try.prog.cellsOf 4)) = xs[7]? := hg 7 _ rfl
  obtain ⟨y7, e7⟩ := hx 7 (by omega)
  rw [e7, k2] at g7
  have g8 : DataW.trod enc Try.prog W base spare held n 24 (([c0, c1, c2, c3, c4, c5, c6, c7, c8, c9, c10, c11, c12, c13, c14, c15].drop 8).take (Try.prog.cellsOf 24)) = xs[8]? := hg 8 _ rfl
  obtain ⟨y8, e8⟩ := hx 8 (by omega)
  rw [e8, k3] at g8
  have g9 : DataW.trod enc Try.prog W base spare held n 3 (([c0, c1, c2, c3, c4, c5, c6, c7, c8, c9, c10, c11, c12, c13, c14, c15].drop 12).take (Try.prog.cellsOf 3)) = xs[9]? := hg 9 _ rfl
  obtain ⟨y9, e9⟩ := hx 9 (by omega)
  rw [e9, k1] at g9
  have g10 : DataW.trod enc Try.prog W base spare held n 3 (([c0, c1, c2, c3, c4, c5, c6, c7, c8, c9, c10, c11, c12, c13, c14, c15].drop 13).take (Try.prog.cellsOf 3)) = xs[10]? := hg 10 _ rfl
  obtain ⟨y10, e10⟩ := hx 10 (by omega)
  rw [e10, k1] at g10
  have g11 : DataW.trod enc Try.prog W base spare held n 3 (([c0, c1, c2, c3, c4, c5, c6, c7, c8, c9, c10, c11, c12, c13, c14, c15].drop 14).take (Try.prog.cellsOf 3)) = xs[11]? := hg 11 _ rfl
  obtain ⟨y11, e11⟩ := hx 11 (by omega)
  rw [e11, k1] at g11
  have g12 : DataW.trod enc Try.prog W base spare held n 3 (([c0, c1, c2, c3, c4, c5, c6, c7, c8, c9, c10, c11, c12, c13, c14, c15].drop 15).take (Try.prog.cellsOf 3)) = xs[12]? := hg 12 _ rfl
  obtain ⟨y12, e12⟩ := hx 12 (by omega)
  rw [e12, k1] at g12
  obtain ⟨a0, q0, _, w0⟩ := DataW.trod_int Try.underlying3 g0
  obtain ⟨a1, q1, _⟩ := DataW.trod_bool Try.underlying4 g1
  obtain ⟨a2, q2, _⟩ := DataW.trod_bool Try.underlying4 g2
  obtain ⟨a3, q3, _, w3⟩ := DataW.trod_int Try.underlying3 g3
  obtain ⟨a4, q4, _⟩ := DataW.trod_bool Try.underlying4 g4
  obtain ⟨a5, q5, _⟩ := DataW.trod_bool Try.underlying4 g5
  obtain ⟨a6, q6, _⟩ := DataW.trod_bool Try.underlying4 g6
  obtain ⟨a7, q7, _⟩ := DataW.trod_bool Try.underlying4 g7
  obtain ⟨a9, q9, _, w9⟩ := DataW.trod_int Try.underlying3 g9
  obtain ⟨a10, q10, _, w10⟩ := DataW.trod_int Try.underlying3 g10
  obtain ⟨a11, q11, _, w11⟩ := DataW.trod_int Try.underlying3 g11
  obtain ⟨a12, q12, _, w12⟩ := DataW.trod_int Try.underlying3 g12
  obtain ⟨zs, m, _, _, _, zlen, zg⟩ := DataW.trod_struct Try.underlying24 g8
  have zx : ∀ i, i < 4 → ∃ y, zs[i]? = some y := fun i hi => ⟨zs[i]'(by rw [zlen]; exact hi), List.getElem?_eq_getElem _⟩
  have u0 : DataW.trod enc Try.prog W base spare held m 22 (([c8, c9, c10, c11].drop 0).take (Try.prog.cellsOf 22)) = zs[0]? := zg 0 _ rfl
  obtain ⟨v0, f0⟩ := zx 0 (by omega)
  rw [f0, k4] at u0
  obtain ⟨r0, s0, _, x0⟩ := DataW.trod_int Try.underlying22 u0
  have u1 : DataW.trod enc Try.prog W base spare held m 22 (([c8, c9, c10, c11].drop 1).take (Try.prog.cellsOf 22)) = zs[1]? := zg 1 _ rfl
  obtain ⟨v1, f1⟩ := zx 1 (by omega)
  rw [f1, k4] at u1
  obtain ⟨r1, s1, _, x1⟩ := DataW.trod_int Try.underlying22 u1
  have u2 : DataW.trod enc Try.prog W base spare held m 22 (([c8, c9, c10, c11].drop 2).take (Try.prog.cellsOf 22)) = zs[2]? := zg 2 _ rfl
  obtain ⟨v2, f2⟩ := zx 2 (by omega)
  rw [f2, k4] at u2
  obtain ⟨r2, s2, _, x2⟩ := DataW.trod_int Try.underlying22 u2
  have u3 : DataW.trod enc Try.prog W base spare held m 3 (([c8, c9, c10, c11].drop 3).take (Try.prog.cellsOf 3)) = zs[3]? := zg 3 _ rfl
  obtain ⟨v3, f3⟩ := zx 3 (by omega)
  rw [f3, k1] at u3
  obtain ⟨r3, s3, _, x3⟩ := DataW.trod_int Try.underlying3 u3
  simp at q0 q1 q2 q3 q4 q5 q6 q7 q9 q10 q11 q12 s0 s1 s2 s3
  subst q0 q1 q2 q3 q4 q5 q6 q7 q9 q10 q11 q12 s0 s1 s2 s3
  obtain ⟨m0, rfl, l0⟩ := wf_u64 x0
  obtain ⟨m1, rfl, l1⟩ := wf_u64 x1
  obtain ⟨m2, rfl, l2⟩ := wf_u64 x2
  exact ⟨⟨a0, a1, a2, a3, a4, a5, a6, a7, m0, m1, m2, r3, a9, a10, a11, a12⟩, rfl, l0, l1, l2⟩

end Bpd
end Go.Proofs.Ytiokkahldhmhlaa
