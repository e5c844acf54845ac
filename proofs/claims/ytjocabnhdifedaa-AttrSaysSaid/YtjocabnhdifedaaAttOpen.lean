/-
  A slice of attributes, or an attribute by value, that came in: its fields.
-/
import Derived.Test.YtjocabnhdifedaaAttA
import Derived.Test.YtjocabnhdifedaaFrame
import Derived.Test.YtjocabnhdifedaaOpen
import Derived.Deep.SlicePairs
import Derived.WideShapes
namespace Go.Proofs.Ytjocabnhdifedaa
open Go.ChangeShapes Go.WideShapes Go.ChangeAt Go.RowKit Go.Deep
namespace Att

theorem open_ats {H : Type} {enc : TypeId × Value → H} {W : World} {base b0 : Nat} {spare : Nat → Bool} {held : Bool} {r : Reach} {v : Value} {d : DataW H} {p : List MemPlace}
    (hv : Value.okWide Try.prog W r b0 22 v) (h : DataW.Trod enc Try.prog W base spare held 22 v d p) :
    ∃ (A : Option Addr) (l : List At) (cap : Nat), v = .slice A l.length cap ∧ l.length ≤ maxLen ∧ Ats W A l ∧ ∀ x ∈ l, x.2.size ≤ maxLen := by
  obtain ⟨a0, len, cap, rfl⟩ := okWide_slice Try.underlying22 hv
  obtain ⟨fuel, hf⟩ := h
  rcases open_slice_pairs Try.underlying22 Try.underlying37 (by kernel_rfl) rfl rfl (by kernel_rfl) (by kernel_rfl) hf with ⟨hcs, _⟩ | ⟨a, len', cap', m, n, V0, V1, D0, D1, P0, P1, hcs, _, hl, hm, hmm, _, hcell⟩
  · simp [Value.cells] at hcs
    obtain ⟨rfl, rfl, rfl⟩ := hcs
    exact ⟨none, [], 0, rfl, Nat.zero_le _, Ats.nil _ _, fun x hx => by simp at hx⟩
  · simp [Value.cells] at hcs
    obtain ⟨rfl, rfl, rfl⟩ := hcs
    have hlm : len ≤ m := by rw [hmm]; split <;> omega
    have each : ∀ i, i < len → ∃ x : At, V0 i = .int .i64 x.1 ∧ V1 i = .string x.2 ∧ x.2.size ≤ maxLen := by
      intro i hi
      obtain ⟨_, _, t0, t1⟩ := hcell i (by omega)
      obtain ⟨x0, e0, _, _⟩ := DataW.trod_int Try.underlying3 t0
      obtain ⟨x1, e1, _, w1⟩ := DataW.trod_string Try.underlying9 t1
      simp at e0 e1
      exact ⟨(x0, x1), e0, e1, w1⟩
    obtain ⟨q, hq⟩ := choose_lt each
    have hget : ∀ j x, ((List.range len).map q)[j]? = some x → j < len ∧ x = q j := by
      intro j x hj
      rw [List.getElem?_map] at hj
      cases hr : (List.range len)[j]? with
      | none => rw [hr] at hj; cases hj
      | some k =>
        rw [hr] at hj
        obtain ⟨h1, h2⟩ := List.getElem?_eq_some_iff.1 hr
        rw [List.getElem_range] at h2
        rw [List.length_range] at h1
        subst h2
        exact ⟨h1, (Option.some.inj hj).symm⟩
    refine ⟨some a, (List.range len).map q, cap, by simp, by simp; omega, fun j x hj => ?_, fun x hx => ?_⟩
    · obtain ⟨hj1, rfl⟩ := hget j x hj
      obtain ⟨c0, c1, _, _⟩ := hcell j (by omega)
      obtain ⟨e0, e1, _⟩ := hq j hj1
      rw [e0] at c0
      rw [e1] at c1
      obtain ⟨b, o, sp⟩ := a
      cases sp with
      | none =>
        rw [Addr.add_lit] at c0 c1
        exact ⟨b, o, rfl, World.block_lt_of_cell? _ _ c0, c0, c1⟩
      | some s =>
        exfalso
        obtain ⟨c00, _⟩ := hcell 0 (by omega)
        have e : W.cell? (Addr.add ⟨b, o, some s⟩ (0 * 2)) = none := by
          show W.cell? ⟨b, o, some s⟩ = none
          unfold World.cell?
          split <;> rfl
        rw [e] at c00
        cases c00
    · obtain ⟨i, hi, rfl⟩ := List.mem_map.1 hx
      exact (hq i (List.mem_range.1 hi)).2.2

end Att
end Go.Proofs.Ytjocabnhdifedaa
