/-
  An argument that is a Case (a port, a set of ports, a BPDU), by value; its cells.
-/
import Derived.Test.YtkjdnmlaehjmgaaCrdOpen
namespace Go.Proofs.Ytkjdnmlaehjmgaa
open Go.RowKit
namespace Chg
open Pre Crd Go.ChangeShapes Go.WideShapes Go.ChangeAt Go.Deep

abbrev cal (p s : Int) (b : Bd) : List Value := [.int .i64 p, .int .i64 s, .int .i64 b.k, .bool b.ch, .bool b.pr, .int .i64 b.ro, .bool b.le, .bool b.fo, .bool b.ag, .bool b.ac, .int .u64 b.v.r, .int .u64 b.v.c, .int .u64 b.v.b, .int .i64 b.v.p, .int .i64 b.t.a, .int .i64 b.t.m, .int .i64 b.t.h, .int .i64 b.t.d]
abbrev cav (p s : Int) (b : Bd) : Value := .agg #[.int .i64 p, .int .i64 s, .int .i64 b.k, .bool b.ch, .bool b.pr, .int .i64 b.ro, .bool b.le, .bool b.fo, .bool b.ag, .bool b.ac, .int .u64 b.v.r, .int .u64 b.v.c, .int .u64 b.v.b, .int .i64 b.v.p, .int .i64 b.t.a, .int .i64 b.t.m, .int .i64 b.t.h, .int .i64 b.t.d]
abbrev cao (p s : Int) (b : Bd) : Obj := .cells #[.int .i64 p, .int .i64 s, .int .i64 b.k, .bool b.ch, .bool b.pr, .int .i64 b.ro, .bool b.le, .bool b.fo, .bool b.ag, .bool b.ac, .int .u64 b.v.r, .int .u64 b.v.c, .int .u64 b.v.b, .int .i64 b.v.p, .int .i64 b.t.a, .int .i64 b.t.m, .int .i64 b.t.h, .int .i64 b.t.d] 35

set_option maxRecDepth 40000 in
set_option maxHeartbeats 4000000 in
theorem bd_in {H : Type} {enc : TypeId × Value → H} {W : World} {base : Nat} {spare : Nat → Bool} {held : Bool} {fuel : Nat} {l : List Value} {y : DataW H × List MemPlace} (hl : l.length = 16) (hf : DataW.trod enc Try.prog W base spare held fuel 33 l = some y) : ∃ x : Bd, l = bdl x ∧ wfBd x := by
  have hs := Try.underlying33
  have k0 : Try.prog.cellsOf 4 = 1 := by kernel_rfl
  have k1 : Try.prog.cellsOf 3 = 1 := by kernel_rfl
  have k2 : Try.prog.cellsOf 26 = 4 := by kernel_rfl
  obtain ⟨xs, n, _, _, hcl, hlen, hg⟩ := DataW.trod_struct hs hf
  obtain ⟨c0, c1, c2, c3, c4, c5, c6, c7, c8, c9, c10, c11, c12, c13, c14, c15, rfl⟩ := bd_cells hl
  have hx : ∀ i, i < 13 → ∃ y, xs[i]? = some y := fun i hi => ⟨xs[i]'(by rw [hlen]; exact hi), List.getElem?_eq_getElem _⟩
  have g0 : DataW.trod enc Try.prog W base spare held n 3 (([c0, c1, c2, c3, c4, c5, c6, c7, c8, c9, c10, c11, c12, c13, c14, c15].drop 0).take (Try.prog.cellsOf 3)) = xs[0]? := hg 0 _ rfl
  obtain ⟨y0, e0⟩ := hx 0 (by omega)
  rw [e0, k1] at g0
  obtain ⟨a0, q0, _, w0⟩ := DataW.trod_int Try.underlying3 g0
  have g1 : DataW.trod enc Try.prog W base spare held n 4 (([c0, c1, c2, c3, c4, c5, c6, c7, c8, c9, c10, c11, c12, c13, c14, c15].drop 1).take (Try.prog.cellsOf 4)) = xs[1]? := hg 1 _ rfl
  obtain ⟨y1, e1⟩ := hx 1 (by omega)
  rw [e1, k0] at g1
  obtain ⟨a1, q1, _⟩ := DataW.trod_bool Try.underlying4 g1
  have g2 : DataW.trod enc Try.prog W base spare held n 4 (([c0, c1, c2, c3, c4, c5, c6, c7, c8, c9, c10, c11, c12, c13, c14, c15].drop 2).take (Try.prog.cellsOf 4)) = xs[2]? := hg 2 _ rfl
  obtain ⟨y2, e2⟩ := hx 2 (by omega)
  rw [e2, k0] at g2
  obtain ⟨a2, q2, _⟩ := DataW.trod_bool Try.underlying4 g2
  have g3 : DataW.trod enc Try.prog W base spare held n 3 (([c0, c1, c2, c3, c4, c5, c6, c7, c8, c9, c10, c11, c12, c13, c14, c15].drop 3).take (Try.prog.cellsOf 3)) = xs[3]? := hg 3 _ rfl
  obtain ⟨y3, e3⟩ := hx 3 (by omega)
  rw [e3, k1] at g3
  obtain ⟨a3, q3, _, w3⟩ := DataW.trod_int Try.underlying3 g3
  have g4 : DataW.trod enc Try.prog W base spare held n 4 (([c0, c1, c2, c3, c4, c5, c6, c7, c8, c9, c10, c11, c12, c13, c14, c15].drop 4).take (Try.prog.cellsOf 4)) = xs[4]? := hg 4 _ rfl
  obtain ⟨y4, e4⟩ := hx 4 (by omega)
  rw [e4, k0] at g4
  obtain ⟨a4, q4, _⟩ := DataW.trod_bool Try.underlying4 g4
  have g5 : DataW.trod enc Try.prog W base spare held n 4 (([c0, c1, c2, c3, c4, c5, c6, c7, c8, c9, c10, c11, c12, c13, c14, c15].drop 5).take (Try.prog.cellsOf 4)) = xs[5]? := hg 5 _ rfl
  obtain ⟨y5, e5⟩ := hx 5 (by omega)
  rw [e5, k0] at g5
  obtain ⟨a5, q5, _⟩ := DataW.trod_bool Try.underlying4 g5
  have g6 : DataW.trod enc Try.prog W base spare held n 4 (([c0, c1, c2, c3, c4, c5, c6, c7, c8, c9, c10, c11, c12, c13, c14, c15].drop 6).take (Try.prog.cellsOf 4)) = xs[6]? := hg 6 _ rfl
  obtain ⟨y6, e6⟩ := hx 6 (by omega)
  rw [e6, k0] at g6
  obtain ⟨a6, q6, _⟩ := DataW.trod_bool Try.underlying4 g6
  have g7 : DataW.trod enc Try.prog W base spare held n 4 (([c0, c1, c2, c3, c4, c5, c6, c7, c8, c9, c10, c11, c12, c13, c14, c15].drop 7).take (Try.prog.cellsOf 4)) = xs[7]? := hg 7 _ rfl
  obtain ⟨y7, e7⟩ := hx 7 (by omega)
  rw [e7, k0] at g7
  obtain ⟨a7, q7, _⟩ := DataW.trod_bool Try.underlying4 g7
  have g8 : DataW.trod enc Try.prog W base spare held n 26 (([c0, c1, c2, c3, c4, c5, c6, c7, c8, c9, c10, c11, c12, c13, c14, c15].drop 8).take (Try.prog.cellsOf 26)) = xs[8]? := hg 8 _ rfl
  obtain ⟨y8, e8⟩ := hx 8 (by omega)
  rw [e8, k2] at g8
  obtain ⟨zs8, n8, _, _, _, zl8, zg8⟩ := DataW.trod_struct Try.underlying26 g8
  have zx8 : ∀ i, i < 4 → ∃ y, zs8[i]? = some y := fun i hi => ⟨zs8[i]'(by rw [zl8]; exact hi), List.getElem?_eq_getElem _⟩
  have u8_0 : DataW.trod enc Try.prog W base spare held n8 22 (([c8, c9, c10, c11].drop 0).take (Try.prog.cellsOf 22)) = zs8[0]? := zg8 0 _ rfl
  obtain ⟨v8_0, f8_0⟩ := zx8 0 (by omega)
  rw [f8_0, show Try.prog.cellsOf 22 = 1 by kernel_rfl] at u8_0
  obtain ⟨r8_0, s8_0, _, x8_0⟩ := DataW.trod_int Try.underlying22 u8_0
  have u8_1 : DataW.trod enc Try.prog W base spare held n8 22 (([c8, c9, c10, c11].drop 1).take (Try.prog.cellsOf 22)) = zs8[1]? := zg8 1 _ rfl
  obtain ⟨v8_1, f8_1⟩ := zx8 1 (by omega)
  rw [f8_1, show Try.prog.cellsOf 22 = 1 by kernel_rfl] at u8_1
  obtain ⟨r8_1, s8_1, _, x8_1⟩ := DataW.trod_int Try.underlying22 u8_1
  have u8_2 : DataW.trod enc Try.prog W base spare held n8 22 (([c8, c9, c10, c11].drop 2).take (Try.prog.cellsOf 22)) = zs8[2]? := zg8 2 _ rfl
  obtain ⟨v8_2, f8_2⟩ := zx8 2 (by omega)
  rw [f8_2, show Try.prog.cellsOf 22 = 1 by kernel_rfl] at u8_2
  obtain ⟨r8_2, s8_2, _, x8_2⟩ := DataW.trod_int Try.underlying22 u8_2
  have u8_3 : DataW.trod enc Try.prog W base spare held n8 3 (([c8, c9, c10, c11].drop 3).take (Try.prog.cellsOf 3)) = zs8[3]? := zg8 3 _ rfl
  obtain ⟨v8_3, f8_3⟩ := zx8 3 (by omega)
  rw [f8_3, show Try.prog.cellsOf 3 = 1 by kernel_rfl] at u8_3
  obtain ⟨r8_3, s8_3, _, x8_3⟩ := DataW.trod_int Try.underlying3 u8_3
  have g9 : DataW.trod enc Try.prog W base spare held n 3 (([c0, c1, c2, c3, c4, c5, c6, c7, c8, c9, c10, c11, c12, c13, c14, c15].drop 12).take (Try.prog.cellsOf 3)) = xs[9]? := hg 9 _ rfl
  obtain ⟨y9, e9⟩ := hx 9 (by omega)
  rw [e9, k1] at g9
  obtain ⟨a9, q9, _, w9⟩ := DataW.trod_int Try.underlying3 g9
  have g10 : DataW.trod enc Try.prog W base spare held n 3 (([c0, c1, c2, c3, c4, c5, c6, c7, c8, c9, c10, c11, c12, c13, c14, c15].drop 13).take (Try.prog.cellsOf 3)) = xs[10]? := hg 10 _ rfl
  obtain ⟨y10, e10⟩ := hx 10 (by omega)
  rw [e10, k1] at g10
  obtain ⟨a10, q10, _, w10⟩ := DataW.trod_int Try.underlying3 g10
  have g11 : DataW.trod enc Try.prog W base spare held n 3 (([c0, c1, c2, c3, c4, c5, c6, c7, c8, c9, c10, c11, c12, c13, c14, c15].drop 14).take (Try.prog.cellsOf 3)) = xs[11]? := hg 11 _ rfl
  obtain ⟨y11, e11⟩ := hx 11 (by omega)
  rw [e11, k1] at g11
  obtain ⟨a11, q11, _, w11⟩ := DataW.trod_int Try.underlying3 g11
  have g12 : DataW.trod enc Try.prog W base spare held n 3 (([c0, c1, c2, c3, c4, c5, c6, c7, c8, c9, c10, c11, c12, c13, c14, c15].drop 15).take (Try.prog.cellsOf 3)) = xs[12]? := hg 12 _ rfl
  obtain ⟨y12, e12⟩ := hx 12 (by omega)
  rw [e12, k1] at g12
  obtain ⟨a12, q12, _, w12⟩ := DataW.trod_int Try.underlying3 g12
  simp at q0 q1 q2 q3 q4 q5 q6 q7 s8_0 s8_1 s8_2 s8_3 q9 q10 q11 q12
  subst q0 q1 q2 q3 q4 q5 q6 q7 s8_0 s8_1 s8_2 s8_3 q9 q10 q11 q12
  obtain ⟨m8_0, rfl, l8_0⟩ := nat_u64 x8_0
  obtain ⟨m8_1, rfl, l8_1⟩ := nat_u64 x8_1
  obtain ⟨m8_2, rfl, l8_2⟩ := nat_u64 x8_2
  exact ⟨⟨a0, a1, a2, a3, a4, a5, a6, a7, ⟨m8_0, m8_1, m8_2, r8_3⟩, ⟨a9, a10, a11, a12⟩⟩, rfl, int_in w0, int_in w3, ⟨l8_0, l8_1, l8_2, int_in x8_3⟩, ⟨int_in w9, int_in w10, int_in w11, int_in w12⟩⟩

theorem two_more {l : List Value} (h : l.length = 18) : ∃ c0 c1 m, l = c0 :: c1 :: m ∧ m.length = 16 := by
  match l, h with
  | c0 :: c1 :: m, h => exact ⟨c0, c1, m, rfl, by simpa using h⟩

set_option maxRecDepth 40000 in
theorem open_case {H : Type} {enc : TypeId × Value → H} {W : World} {base b0 : Nat} {spare : Nat → Bool} {held : Bool} {r : Reach} {v : Value} {d : DataW H} {p : List MemPlace}
    (hv : Value.okWide Try.prog W r b0 35 v) (h : DataW.Trod enc Try.prog W base spare held 35 v d p) :
    ∃ (q s : Int) (b : Bd), v = cav q s b := by
  have hs := Try.underlying35
  have kT : Try.prog.cellsOf 35 = 18 := by kernel_rfl
  have k1 : Try.prog.cellsOf 3 = 1 := by kernel_rfl
  have k2 : Try.prog.cellsOf 33 = 16 := by kernel_rfl
  simp only [Value.okWide, hs] at hv
  obtain ⟨cs, rfl, h2, _⟩ := hv
  obtain ⟨l⟩ := cs
  obtain ⟨fuel, hf⟩ := h
  obtain ⟨xs, n, _, _, hcl, hlen, hg⟩ := DataW.trod_struct hs hf
  have hl : l.length = 18 := by rw [kT] at hcl; simpa [Value.cells] using hcl
  obtain ⟨c0, c1, m, rfl, hm⟩ := two_more hl
  have hx : ∀ i, i < 3 → ∃ y, xs[i]? = some y := fun i hi => ⟨xs[i]'(by rw [hlen]; exact hi), List.getElem?_eq_getElem _⟩
  have g0 : DataW.trod enc Try.prog W base spare held n 3 (((c0 :: c1 :: m).drop 0).take (Try.prog.cellsOf 3)) = xs[0]? := hg 0 _ rfl
  obtain ⟨y0, e0⟩ := hx 0 (by omega)
  rw [e0, k1] at g0
  obtain ⟨a0, q0, _, _⟩ := DataW.trod_int Try.underlying3 g0
  have g1 : DataW.trod enc Try.prog W base spare held n 3 (((c0 :: c1 :: m).drop 1).take (Try.prog.cellsOf 3)) = xs[1]? := hg 1 _ rfl
  obtain ⟨y1, e1⟩ := hx 1 (by omega)
  rw [e1, k1] at g1
  obtain ⟨a1, q1, _, _⟩ := DataW.trod_int Try.underlying3 g1
  have g2 : DataW.trod enc Try.prog W base spare held n 33 (((c0 :: c1 :: m).drop 2).take (Try.prog.cellsOf 33)) = xs[2]? := hg 2 _ rfl
  obtain ⟨y2, e2⟩ := hx 2 (by omega)
  rw [e2, k2, show (c0 :: c1 :: m).drop 2 = m from rfl, List.take_of_length_le (by omega)] at g2
  obtain ⟨b, rfl, _⟩ := bd_in hm g2
  simp at q0 q1
  subst q0 q1
  exact ⟨a0, a1, b, rfl⟩

section
variable {ops : Array Oper} {rest : List Oper} {op : Oper} {a : Act} {W : World} {Q : Exit → Act → World → Prop}
theorem ca_range {W : World} {k : Nat} {p s : Int} {b : Bd} (h : Bx.Blk W k (cal p s b)) : W.rangeAt k 2 (bdl b) := fun j v hv => h (2 + j) v (by rw [Nat.add_comm]; exact hv)

/-- The step over a load of the BPDU in a Case. -/
theorem ca_load (ho : op.op = .load 33 (opA op.op)) (hgd : Region.wanted op (yielded ops a.tmps) = true) (k : Nat) (hx : a.eval (opA op.op) = .pointer (some ⟨k, 2, none⟩)) (p s : Int) (b : Bd) (hB : Bx.Blk W k (cal p s b))
    (h : wpList Try.prog ops Q rest (a.put op.dst (bdv b)) W) : wpList Try.prog ops Q (op :: rest) a W :=
  BigFrame.wpList_want hgd fun _ hK => wp_load_mid _ _ ho k 2 hx (bdl b) _ (ca_range hB) bd_under rfl bd_info (hK _ _ h)
end

end Chg
end Go.Proofs.Ytkjdnmlaehjmgaa
