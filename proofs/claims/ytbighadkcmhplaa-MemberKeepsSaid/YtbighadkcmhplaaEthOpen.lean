/-
  A frame that came in by value: its fields.
-/
import Derived.Test.YtbighadkcmhplaaOpen
import Derived.Test.YtbighadkcmhplaaEthA
namespace Go.Proofs.Ytbighadkcmhplaa
open Go.ChangeShapes Go.WideShapes Go.ChangeAt Go.RowKit Go.Deep
namespace Eth

theorem wf_u64 {n : Int} (h : (Lit.int .u64 n).wf = true) : ∃ m : Nat, n = m ∧ m < 18446744073709551616 := by
  have h' : 0 ≤ n ∧ n ≤ 18446744073709551615 := by simpa [Lit.wf, IntKind.min, IntKind.max, IntKind.signed, IntKind.bits] using h
  exact ⟨n.toNat, by omega, by omega⟩

theorem open_frame {H : Type} {enc : TypeId × Value → H} {W : World} {base b0 : Nat} {spare : Nat → Bool} {held : Bool} {r : Reach} {v : Value} {d : DataW H} {p : List MemPlace}
    (hv : Value.okWide Try.prog W r b0 29 v) (h : DataW.Trod enc Try.prog W base spare held 29 v d p) :
    ∃ (x y : Nat) (g : Bool) (q u k : Int) (b : ByteArray), v = fr x y g q u k b ∧ x < 18446744073709551616 ∧ y < 18446744073709551616 ∧ b.size ≤ maxLen := by
  obtain ⟨l, n, rfl, hl, hf⟩ := Fr.open_fields Try.underlying29 (by kernel_rfl) (by kernel_rfl) hv h
  obtain ⟨c0, c1, c2, c3, c4, c5, c6, rfl⟩ := Fr.seven hl
  obtain ⟨_, y0, e0, t0⟩ := hf 0 _ rfl
  obtain ⟨_, y1, e1, t1⟩ := hf 1 _ rfl
  obtain ⟨_, y2, e2, t2⟩ := hf 2 _ rfl
  obtain ⟨_, y3, e3, t3⟩ := hf 3 _ rfl
  obtain ⟨_, y4, e4, t4⟩ := hf 4 _ rfl
  obtain ⟨_, y5, e5, t5⟩ := hf 5 _ rfl
  obtain ⟨_, y6, e6, t6⟩ := hf 6 _ rfl
  simp at e0 e1 e2 e3 e4 e5 e6
  subst e0 e1 e2 e3 e4 e5 e6
  obtain ⟨a0, h0, _, w0⟩ := DataW.trod_int Try.underlying27 t0
  obtain ⟨a1, h1, _, w1⟩ := DataW.trod_int Try.underlying27 t1
  obtain ⟨a2, h2, _⟩ := DataW.trod_bool Try.underlying4 t2
  obtain ⟨a3, h3, _, w3⟩ := DataW.trod_int Try.underlying3 t3
  obtain ⟨a4, h4, _, w4⟩ := DataW.trod_int Try.underlying3 t4
  obtain ⟨a5, h5, _, w5⟩ := DataW.trod_int Try.underlying3 t5
  obtain ⟨a6, h6, _, w6⟩ := DataW.trod_string Try.underlying9 t6
  simp at h0 h1 h2 h3 h4 h5 h6
  subst h0 h1 h2 h3 h4 h5 h6
  obtain ⟨m0, rfl, g0⟩ := wf_u64 w0
  obtain ⟨m1, rfl, g1⟩ := wf_u64 w1
  exact ⟨m0, m1, a2, a3, a4, a5, a6, rfl, g0, g1, w6⟩

end Eth
end Go.Proofs.Ytbighadkcmhplaa
