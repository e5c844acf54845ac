/-
  A case and a way that came in by value; that the table of reserved addresses stands in memory as the program's text lays it.
-/
import Derived.Test.YtmojegnflcokjaaDoorPkMemI
import Derived.Test.YtmojegnflcokjaaDoorFwdA
import Derived.Test.YtmojegnflcokjaaDoorPkTabOpen
import Derived.Test.YtmojegnflcokjaaDoorRows
namespace Go.Proofs.YtmojegnflcokjaaDoor
open Go.ChangeShapes Go.WideShapes Go.ChangeAt Go.RowKit Go.Deep
namespace Fwd

set_option maxRecDepth 20000 in
theorem chunk_plan {H : Type} {enc : TypeId × Value → H} {W : World} {base : Nat} {spare : Nat → Bool} {held : Bool} {fuel : Nat} {l : List Value} {x : DataW H × List MemPlace} (hl : l.length = 17)
    (hf : DataW.trod enc Tryd.prog W base spare held fuel 28 l = some x) : ∃ (o k : Nat → Int) (A : Option Addr) (m : List Mem.Vl) (c : Nat), l = Mem.pc o k A m.length c ∧ m.length ≤ maxLen ∧ Mem.Vls W A m := by
  have c8 : Tryd.prog.cellsOf 25 = 8 := by kernel_rfl
  have c1 : Tryd.prog.cellsOf 26 = 1 := by kernel_rfl
  obtain ⟨xs, n, _, _, _, hlen, hg⟩ := DataW.trod_struct Tryd.underlying28 hf
  have hlen3 : xs.length = 3 := hlen
  match l, hl with
  | [a0, a1, a2, a3, a4, a5, a6, a7, a8, a9, a10, a11, a12, a13, a14, a15, a16], _ =>
    have g0 : DataW.trod enc Tryd.prog W base spare held n 25 [a0, a1, a2, a3, a4, a5, a6, a7] = xs[0]? := by have := hg 0 _ rfl; simpa [Value.cells, c8] using this
    have g1 : DataW.trod enc Tryd.prog W base spare held n 25 [a8, a9, a10, a11, a12, a13, a14, a15] = xs[1]? := by have := hg 1 _ rfl; simpa [Value.cells, c8] using this
    have g2 : DataW.trod enc Tryd.prog W base spare held n 26 [a16] = xs[2]? := by have := hg 2 _ rfl; simpa [Value.cells, c1] using this
    rw [List.getElem?_eq_getElem (by omega)] at g0 g1 g2
    obtain ⟨o, ho⟩ := Mem.chunk_ints Tryd.underlying25 Tryd.underlying3 (by kernel_rfl) g0
    obtain ⟨k, hk⟩ := Mem.chunk_ints Tryd.underlying25 Tryd.underlying3 (by kernel_rfl) g1
    obtain ⟨A, m, c, rfl, hm, hA⟩ := Mem.open_vls g2
    refine ⟨o, k, A, m, c, ?_, hm, hA⟩
    have o0 := ho 0 (by decide); have o1 := ho 1 (by decide); have o2 := ho 2 (by decide); have o3 := ho 3 (by decide)
    have o4 := ho 4 (by decide); have o5 := ho 5 (by decide); have o6 := ho 6 (by decide); have o7 := ho 7 (by decide)
    have k0 := hk 0 (by decide); have k1 := hk 1 (by decide); have k2 := hk 2 (by decide); have k3 := hk 3 (by decide)
    have k4 := hk 4 (by decide); have k5 := hk 5 (by decide); have k6 := hk 6 (by decide); have k7 := hk 7 (by decide)
    simp at o0 o1 o2 o3 o4 o5 o6 o7 k0 k1 k2 k3 k4 k5 k6 k7
    subst o0 o1 o2 o3 o4 o5 o6 o7 k0 k1 k2 k3 k4 k5 k6 k7
    rfl

set_option maxRecDepth 20000 in
theorem chunk_frame {H : Type} {enc : TypeId × Value → H} {W : World} {base : Nat} {spare : Nat → Bool} {held : Bool} {fuel : Nat} {l : List Value} {x : DataW H × List MemPlace} (hl : l.length = 7)
    (hf : DataW.trod enc Tryd.prog W base spare held fuel 32 l = some x) : ∃ (d s : Nat) (g : Bool) (p v t : Int) (X : ByteArray), l = Mem.fc d s g p v t X ∧ d < 18446744073709551616 ∧ s < 18446744073709551616 ∧ X.size ≤ maxLen := by
  have c1 : Tryd.prog.cellsOf 30 = 1 := by kernel_rfl
  have c2 : Tryd.prog.cellsOf 4 = 1 := by kernel_rfl
  have c3 : Tryd.prog.cellsOf 3 = 1 := by kernel_rfl
  have c4 : Tryd.prog.cellsOf 9 = 1 := by kernel_rfl
  obtain ⟨xs, n, _, _, _, hlen, hg⟩ := DataW.trod_struct Tryd.underlying32 hf
  have hlen7 : xs.length = 7 := hlen
  match l, hl with
  | [a0, a1, a2, a3, a4, a5, a6], _ =>
    have g0 : DataW.trod enc Tryd.prog W base spare held n 30 [a0] = xs[0]? := by have := hg 0 _ rfl; simpa [Value.cells, c1] using this
    have g1 : DataW.trod enc Tryd.prog W base spare held n 30 [a1] = xs[1]? := by have := hg 1 _ rfl; simpa [Value.cells, c1] using this
    have g2 : DataW.trod enc Tryd.prog W base spare held n 4 [a2] = xs[2]? := by have := hg 2 _ rfl; simpa [Value.cells, c2] using this
    have g3 : DataW.trod enc Tryd.prog W base spare held n 3 [a3] = xs[3]? := by have := hg 3 _ rfl; simpa [Value.cells, c3] using this
    have g4 : DataW.trod enc Tryd.prog W base spare held n 3 [a4] = xs[4]? := by have := hg 4 _ rfl; simpa [Value.cells, c3] using this
    have g5 : DataW.trod enc Tryd.prog W base spare held n 3 [a5] = xs[5]? := by have := hg 5 _ rfl; simpa [Value.cells, c3] using this
    have g6 : DataW.trod enc Tryd.prog W base spare held n 9 [a6] = xs[6]? := by have := hg 6 _ rfl; simpa [Value.cells, c4] using this
    rw [List.getElem?_eq_getElem (by omega)] at g0 g1 g2 g3 g4 g5 g6
    obtain ⟨z0, h0, _, w0⟩ := DataW.trod_int Tryd.underlying30 g0
    obtain ⟨z1, h1, _, w1⟩ := DataW.trod_int Tryd.underlying30 g1
    obtain ⟨z2, h2, _⟩ := DataW.trod_bool Tryd.underlying4 g2
    obtain ⟨z3, h3, _, _⟩ := DataW.trod_int Tryd.underlying3 g3
    obtain ⟨z4, h4, _, _⟩ := DataW.trod_int Tryd.underlying3 g4
    obtain ⟨z5, h5, _, _⟩ := DataW.trod_int Tryd.underlying3 g5
    obtain ⟨z6, h6, _, w6⟩ := DataW.trod_string Tryd.underlying9 g6
    simp at h0 h1 h2 h3 h4 h5 h6
    subst h0 h1 h2 h3 h4 h5 h6
    obtain ⟨m0, rfl, e0⟩ := Eth.wf_u64 w0
    obtain ⟨m1, rfl, e1⟩ := Eth.wf_u64 w1
    exact ⟨m0, m1, z2, z3, z4, z5, z6, rfl, e0, e1, w6⟩

set_option maxRecDepth 20000 in
theorem open_case {H : Type} {enc : TypeId × Value → H} {W : World} {base b0 : Nat} {spare : Nat → Bool} {held : Bool} {r : Reach} {v : Value} {d : DataW H} {p : List MemPlace}
    (hv : Value.okWide Tryd.prog W r b0 34 v) (h : DataW.Trod enc Tryd.prog W base spare held 34 v d p) :
    ∃ (o k : Nat → Int) (A : Option Addr) (m : List Mem.Vl) (c : Nat) (x y : Nat) (g : Bool) (q u t : Int) (X : ByteArray), v = xv o k A m.length c x y g q u t X ∧ m.length ≤ maxLen ∧ Mem.Vls W A m ∧ x < 18446744073709551616 ∧ y < 18446744073709551616 ∧ X.size ≤ maxLen := by
  have c24 : Tryd.prog.cellsOf 34 = 24 := by kernel_rfl
  have c17 : Tryd.prog.cellsOf 28 = 17 := by kernel_rfl
  have c7 : Tryd.prog.cellsOf 32 = 7 := by kernel_rfl
  have hS := Tryd.underlying34
  simp only [Value.okWide, hS] at hv
  obtain ⟨cs, rfl, h2, _⟩ := hv
  obtain ⟨l⟩ := cs
  obtain ⟨fuel, hf⟩ := h
  obtain ⟨xs, n, _, _, _, hlen, hg⟩ := DataW.trod_struct hS hf
  have hl : l.length = 24 := by have := h2.trans c24; simpa using this
  have hlen2 : xs.length = 2 := hlen
  have g0 : DataW.trod enc Tryd.prog W base spare held n 28 (l.take 17) = xs[0]? := by have := hg 0 _ rfl; simpa [Value.cells, c17] using this
  have g1 : DataW.trod enc Tryd.prog W base spare held n 32 ((l.drop 17).take 7) = xs[1]? := by have := hg 1 _ rfl; simpa [Value.cells, c7] using this
  rw [List.getElem?_eq_getElem (by omega)] at g0 g1
  obtain ⟨o, k, A, m, c, e1, h1, h3⟩ := chunk_plan (by rw [List.length_take]; omega) g0
  obtain ⟨x, y, g, q, u, t, X, e2, h4, h5, h6⟩ := chunk_frame (by rw [List.length_take, List.length_drop]; omega) g1
  refine ⟨o, k, A, m, c, x, y, g, q, u, t, X, ?_, h1, h3, h4, h5, h6⟩
  have e3 : l = Mem.pc o k A m.length c ++ Mem.fc x y g q u t X := by
    rw [← e1, ← e2, List.take_of_length_le (by rw [List.length_drop]; omega : (l.drop 17).length ≤ 7), List.take_append_drop]
  rw [e3]
  rfl

set_option maxRecDepth 40000 in
theorem open_way {H : Type} {enc : TypeId × Value → H} {W : World} {base b0 : Nat} {spare : Nat → Bool} {held : Bool} {r : Reach} {v : Value} {d : DataW H} {p : List MemPlace}
    (hv : Value.okWide Tryd.prog W r b0 36 v) (h : DataW.Trod enc Tryd.prog W base spare held 36 v d p) :
    ∃ (q ln op : Int), v = .agg #[.int .i64 q, .int .i64 ln, .int .i64 op] := by
  obtain ⟨l, n, rfl, hl, hg⟩ := Fr.open_fields Tryd.underlying36 (by kernel_rfl) (by kernel_rfl) hv h
  match l, hl with
  | [v0, v1, v2], _ =>
    obtain ⟨c0, y0, e0, t0⟩ := hg 0 _ rfl
    obtain ⟨c1, y1, e1, t1⟩ := hg 1 _ rfl
    obtain ⟨c2, y2, e2, t2⟩ := hg 2 _ rfl
    cases e0
    cases e1
    cases e2
    obtain ⟨x0, f0, _, _⟩ := DataW.trod_int Tryd.underlying3 t0
    obtain ⟨x1, f1, _, _⟩ := DataW.trod_int Tryd.underlying3 t1
    obtain ⟨x2, f2, _, _⟩ := DataW.trod_int Tryd.underlying3 t2
    simp at f0 f1 f2
    subst f0 f1 f2
    exact ⟨x0, x1, x2, rfl⟩

set_option maxRecDepth 100000 in
theorem home_of {W : World} {laid : List (String × DataW Unit)} (_hs : W.ShapedOpen Tryd.prog) (hL : laidMetH Tryd.prog laid W) (hpl : (laid.all fun x => x.2.handleName?.isNone) = true)
    (hm : ("tipstaff/mac.reserved", Rows.laid_tipstaff_mac_reserved) ∈ laid) : Home W := by
  obtain ⟨h1, h2⟩ := Fr.laid_ints (P := Tryd.prog) (g := 0) (t := 102) (e := 30) (k := .u64) (m := 16) ((List.range 16).map fun j => ((1652522221568 + j : Nat) : Int)) hL hpl hm
    (by kernel_rfl) (by kernel_rfl) Tryd.underlying102 Tryd.underlying30 (by kernel_rfl) (by rfl)
  refine ⟨fun j hj => h2 j _ ?_, h1⟩
  simp [hj]

end Fwd
end Go.Proofs.YtmojegnflcokjaaDoor
