/-
  What is said in a frame of 802.1X, come in by value: its fields.
-/
import Derived.Test.YtdnpmajehnddkaaOpen
import Derived.Test.YtdnpmajehnddkaaEplA
namespace Go.Proofs.Ytdnpmajehnddkaa
open Go.ChangeShapes Go.WideShapes Go.ChangeAt Go.RowKit Go.Deep
namespace Epl

theorem three {l : List Value} (h : l.length = 3) : ∃ a b c, l = [a, b, c] := by
  match l, h with
  | [a, b, c], _ => exact ⟨a, b, c, rfl⟩

theorem open_eapol {H : Type} {enc : TypeId × Value → H} {W : World} {base b0 : Nat} {spare : Nat → Bool} {held : Bool} {r : Reach} {v : Value} {d : DataW H} {p : List MemPlace}
    (hv : Value.okWide Try.prog W r b0 23 v) (h : DataW.Trod enc Try.prog W base spare held 23 v d p) :
    ∃ (x y : Int) (b : ByteArray), v = ep x y b ∧ b.size ≤ maxLen := by
  obtain ⟨l, n, rfl, hl, hf⟩ := Fr.open_fields Try.underlying23 (by kernel_rfl) (by kernel_rfl) hv h
  obtain ⟨c0, c1, c2, rfl⟩ := three hl
  obtain ⟨_, y0, e0, t0⟩ := hf 0 _ rfl
  obtain ⟨_, y1, e1, t1⟩ := hf 1 _ rfl
  obtain ⟨_, y2, e2, t2⟩ := hf 2 _ rfl
  simp at e0 e1 e2
  subst e0 e1 e2
  obtain ⟨a0, h0, _, w0⟩ := DataW.trod_int Try.underlying3 t0
  obtain ⟨a1, h1, _, w1⟩ := DataW.trod_int Try.underlying3 t1
  obtain ⟨a2, h2, _, w2⟩ := DataW.trod_string Try.underlying9 t2
  simp at h0 h1 h2
  subst h0 h1 h2
  exact ⟨a0, a1, a2, rfl, w2⟩

theorem wf_u64 {n : Int} (h : (Lit.int .u64 n).wf = true) : ∃ m : Nat, n = m ∧ m < 18446744073709551616 := by
  have h' : 0 ≤ n ∧ n ≤ 18446744073709551615 := by simpa [Lit.wf, IntKind.min, IntKind.max, IntKind.signed, IntKind.bits] using h
  exact ⟨n.toNat, by omega, by omega⟩

end Epl
end Go.Proofs.Ytdnpmajehnddkaa
