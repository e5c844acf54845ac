/-
  A packet of EAP, come in by value: its fields.
-/
import Derived.Test.YtmgjjcadeikdgaaOpen
import Derived.Test.YtmgjjcadeikdgaaEapA
namespace Go.Proofs.Ytmgjjcadeikdgaa
open Go.ChangeShapes Go.WideShapes Go.ChangeAt Go.RowKit Go.Deep
namespace Eap

theorem four {l : List Value} (h : l.length = 4) : ∃ a b c d, l = [a, b, c, d] := by
  match l, h with
  | [a, b, c, d], _ => exact ⟨a, b, c, d, rfl⟩

theorem open_eap {H : Type} {enc : TypeId × Value → H} {W : World} {base b0 : Nat} {spare : Nat → Bool} {held : Bool} {r : Reach} {v : Value} {d : DataW H} {p : List MemPlace}
    (hv : Value.okWide Try.prog W r b0 23 v) (h : DataW.Trod enc Try.prog W base spare held 23 v d p) :
    ∃ (x y z : Int) (b : ByteArray), v = pk x y z b ∧ b.size ≤ maxLen ∧ (Lit.int .i64 y).wf = true := by
  obtain ⟨l, n, rfl, hl, hf⟩ := Fr.open_fields Try.underlying23 (by kernel_rfl) (by kernel_rfl) hv h
  obtain ⟨c0, c1, c2, c3, rfl⟩ := four hl
  obtain ⟨_, y0, e0, t0⟩ := hf 0 _ rfl
  obtain ⟨_, y1, e1, t1⟩ := hf 1 _ rfl
  obtain ⟨_, y2, e2, t2⟩ := hf 2 _ rfl
  obtain ⟨_, y3, e3, t3⟩ := hf 3 _ rfl
  simp at e0 e1 e2 e3
  subst e0 e1 e2 e3
  obtain ⟨a0, h0, _, w0⟩ := DataW.trod_int Try.underlying3 t0
  obtain ⟨a1, h1, _, w1⟩ := DataW.trod_int Try.underlying3 t1
  obtain ⟨a2, h2, _, w2⟩ := DataW.trod_int Try.underlying3 t2
  obtain ⟨a3, h3, _, w3⟩ := DataW.trod_string Try.underlying9 t3
  simp at h0 h1 h2 h3
  subst h0 h1 h2 h3
  exact ⟨a0, a1, a2, a3, rfl, w3, w1⟩

end Eap
end Go.Proofs.Ytmgjjcadeikdgaa
