/-
  An array of integers that came in by value (over any program): its cells.
-/
import Derived.Test.YtbighadkcmhplaaOpen
namespace Go.Proofs.Ytbighadkcmhplaa
open Go.ChangeShapes Go.WideShapes Go.ChangeAt Go.RowKit Go.Deep
namespace Fr

theorem open_arr {H : Type} {enc : TypeId × Value → H} {P : Program} {W : World} {base b0 : Nat} {spare : Nat → Bool} {held : Bool} {r : Reach} {t e : TypeId} {k : IntKind} {n : Nat} {v : Value} {d : DataW H} {p : List MemPlace}
    (ht : P.underlying t = some (.array n e)) (he : P.underlying e = some (.int k)) (hc : P.cellsOf t = n) (hce : P.cellsOf e = 1) (hv : Value.okWide P W r b0 t v) (h : DataW.Trod enc P W base spare held t v d p) :
    ∃ zs : List Int, v = .agg (zs.map (Value.int k)).toArray ∧ zs.length = n ∧ ∀ z ∈ zs, (Lit.int k z).wf = true := by
  simp only [Value.okWide, ht] at hv
  obtain ⟨cs, rfl, h2, _⟩ := hv
  obtain ⟨l⟩ := cs
  obtain ⟨fuel, hf⟩ := h
  obtain ⟨xs, m, _, _, _, hxl, hx⟩ := DataW.trod_array ht hf
  have hl : l.length = n := by have := h2.trans hc; simpa using this
  have hall : ∀ (j : Nat) (hj : j < l.length), ∃ z, l[j] = .int k z ∧ (Lit.int k z).wf = true := by
    intro j hj
    have g := hx j (by omega)
    have e1 : (l.drop j).take 1 = [l[j]] := by rw [List.drop_eq_getElem_cons hj]; rfl
    rw [hce, List.getElem?_eq_getElem (by omega)] at g
    have g' : DataW.trod enc P W base spare held m e ((l.drop j).take 1) = some (xs[j]'(by omega)) := by simpa [Value.cells] using g
    rw [e1] at g'
    obtain ⟨a, ha, _, wa⟩ := DataW.trod_int he g'
    exact ⟨a, by simpa using ha, wa⟩
  refine ⟨l.map intOf, ?_, by simpa using hl, ?_⟩
  · congr 2
    apply List.ext_getElem
    · simp
    · intro j h1 h3
      obtain ⟨z, hz, _⟩ := hall j h1
      simp [hz, intOf]
  · intro z hz
    obtain ⟨j, hj, rfl⟩ := List.getElem_of_mem hz
    obtain ⟨y, hy, wy⟩ := hall j (by simpa using hj)
    simpa [hy, intOf] using wy

theorem three {α : Type} {l : List α} (h : l.length = 3) : ∃ a b c, l = [a, b, c] := by
  match l, h with
  | [a, b, c], _ => exact ⟨a, b, c, rfl⟩

theorem four {α : Type} {l : List α} (h : l.length = 4) : ∃ a b c d, l = [a, b, c, d] := by
  match l, h with
  | [a, b, c, d], _ => exact ⟨a, b, c, d, rfl⟩

theorem nat_u32 {z : Int} (h : (Lit.int .u32 z).wf = true) : ∃ n : Nat, z = n ∧ n < 4294967296 := by
  have h' : 0 ≤ z ∧ z ≤ 4294967295 := by simpa [Lit.wf, IntKind.min, IntKind.max, IntKind.signed, IntKind.bits] using h
  exact ⟨z.toNat, by omega, by omega⟩

end Fr
end Go.Proofs.Ytbighadkcmhplaa
