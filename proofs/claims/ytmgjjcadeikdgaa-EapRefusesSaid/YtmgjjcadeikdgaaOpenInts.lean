/-
  A slice of integers that came in (over any program): it is nil, or reads as a list.
-/
import Derived.Test.YtmgjjcadeikdgaaFrame
import Derived.Test.YtmgjjcadeikdgaaInts
import Derived.ChangeSlices
import Derived.WideShapes
namespace Go.Proofs.Ytmgjjcadeikdgaa
open Go.ChangeShapes Go.WideShapes Go.ChangeAt Go.RowKit
namespace Bx

theorem open_slice {H : Type} {enc : TypeId × Value → H} {P : Program} {W : World} {base b0 : Nat} {spare : Nat → Bool} {held : Bool} {r : Reach} {t e : TypeId} {v : Value} {d : DataW H} {p : List MemPlace}
    (ht : P.underlying t = some (.slice e)) (he : P.underlying e = some (.int .i64)) (hc : P.cellsOf e = 1) (hv : Value.okWide P W r b0 t v) (h : DataW.Trod enc P W base spare held t v d p) :
    ∃ (A : Option Addr) (l : List Int) (cap : Nat), v = .slice A l.length cap ∧ l.length ≤ maxLen ∧ Ints W A l ∧ ∀ x ∈ l, (Lit.int .i64 x).wf = true := by
  obtain ⟨a0, len, cap, rfl⟩ := okWide_slice ht hv
  obtain ⟨fuel, hf⟩ := h
  rcases open_ints ht he hc hf with ⟨hcs, _⟩ | ⟨a, len', cap', zs, hcs, _, hl, hm, hz, _, hcell, hwz⟩
  · simp [Value.cells] at hcs
    obtain ⟨rfl, rfl, rfl⟩ := hcs
    exact ⟨none, [], 0, rfl, Nat.zero_le _, Ints.nil _ _, fun x hx => by simp at hx⟩
  · simp [Value.cells] at hcs
    obtain ⟨rfl, rfl, rfl⟩ := hcs
    have hle : len ≤ zs.length := by rw [hz]; split <;> omega
    have e1 : (zs.take len).length = len := by simp; omega
    refine ⟨some a, zs.take len, cap, by rw [e1], by rw [e1]; omega, fun j x hj => ?_, fun x hx => hwz x (List.mem_of_mem_take hx)⟩
    have hj' := (List.getElem?_eq_some_iff.1 hj).1
    rw [e1] at hj'
    have h1 := hcell j (by omega)
    have h2 : zs.getD j 0 = x := by
      rw [List.getElem?_take, if_pos hj'] at hj
      rw [List.getD_eq_getElem?_getD, hj]
      rfl
    rw [h2] at h1
    exact ⟨a, rfl, by have := World.block_lt_of_cell? _ _ h1; rwa [add_block] at this, h1⟩

end Bx
end Go.Proofs.Ytmgjjcadeikdgaa
