/-
  A slice of structs of one-cell fields that came in (over any program): each element's cells, and what each reads as.
-/
import Derived.Test.YtkjdnmlaehjmgaaFrame
import Derived.Test.YtkjdnmlaehjmgaaOpen
import Derived.Deep.Slices
import Derived.Deep.Fields
namespace Go.Proofs.Ytkjdnmlaehjmgaa
open Go.ChangeShapes Go.WideShapes Go.ChangeAt Go.RowKit Go.Deep
namespace Fr

set_option maxRecDepth 40000 in
/-- Each element of a slice of structs: its cells, field by field. -/
theorem open_rows {H : Type} {enc : TypeId × Value → H} {P : Program} {W : World} {base : Nat} {spare : Nat → Bool} {held : Bool} {t e : TypeId} {fs : Array Field} {fuel : Nat} {cs : List Value} {x : DataW H × List MemPlace}
    (ht : P.underlying t = some (.slice e)) (he : P.underlying e = some (.struct fs)) (hone : oneCellFields P fs = true) (hC : P.cellsOf e = fs.size) (h : DataW.trod enc P W base spare held fuel t cs = some x) :
    cs = [.slice none 0 0] ∨ ∃ (a : Addr) (len cap n : Nat), cs = [.slice (some a) len cap] ∧ len ≤ cap ∧ cap ≤ maxLen ∧
      ∀ i, i < len → ∀ (j : Nat) (f : Field), fs[j]? = some f → ∃ c y, W.cell? (a.add (i * fs.size + j)) = some c ∧ DataW.trod enc P W base spare held n f.type [c] = some y := by
  rcases open_slice ht h with ⟨h0, _⟩ | ⟨a, len, cap, m, n, D, Pl, rfl, hb, hl, hm, hmm, _, hx⟩
  · exact .inl h0
  right
  have hlm : len ≤ m := by rw [hmm]; split <;> omega
  refine ⟨a, len, cap, n - 1, rfl, hl, hm, fun i hi j f hj => ?_⟩
  obtain ⟨cs', h1, h2⟩ := hx i (by omega)
  rw [hC] at h1
  obtain ⟨_, hlen, hcell⟩ := World.cells?_some h1
  obtain ⟨xs, k, hk, _, _, hxl, hg⟩ := DataW.trod_struct he h2
  have hjl : j < fs.size := (Array.getElem?_eq_some_iff.1 hj).1
  obtain ⟨ho, hk1⟩ := hone_of hone j f hj
  have g := hg j f hj
  rw [ho, hk1] at g
  have e1 : (cs'.drop j).take 1 = [cs'[j]'(by omega)] := by
    rw [List.drop_eq_getElem_cons (by omega)]
    rfl
  rw [e1] at g
  have e2 := hcell j hjl
  rw [add_add] at e2
  refine ⟨cs'[j]'(by omega), xs[j]'(by omega), by rw [e2]; exact List.getElem?_eq_getElem (by omega), ?_⟩
  have : k = n - 1 := by omega
  rw [← this, g]
  exact List.getElem?_eq_getElem (by omega)

/-- No cell lies behind an address of another spot. -/
theorem no_spot {W : World} {b o : Nat} {s : Nat} : W.cell? ⟨b, o, some s⟩ = none := by
  unfold World.cell?
  split <;> rfl

end Fr
end Go.Proofs.Ytkjdnmlaehjmgaa
