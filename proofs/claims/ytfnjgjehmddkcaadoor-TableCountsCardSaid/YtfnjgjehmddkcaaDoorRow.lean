/-
  Rows of cells that a call made (over any program): what lies in them, behind a call that changes nothing below, and behind a store.
-/
import Derived.WalkKit
import Derived.Below
import Derived.Laws.World
namespace Go.Proofs.YtfnjgjehmddkcaaDoor
open Go.RowKit
namespace Fr

/-- The cells vs lie in block g from its head on, and may be written. -/
def Row (w : World) (g : Nat) (vs : List Value) : Prop := g < w.heap.size ∧ ∀ j v, vs[j]? = some v → w.cell? ⟨g, j, none⟩ = some v ∧ w.frozen? ⟨g, j, none⟩ = false

theorem Row.cell {w : World} {g : Nat} {vs : List Value} (h : Row w g vs) {j : Nat} {v : Value} (hj : vs[j]? = some v) : w.cell? ⟨g, j, none⟩ = some v := (h.2 j v hj).1
theorem Row.frozen {w : World} {g : Nat} {vs : List Value} (h : Row w g vs) {j : Nat} {v : Value} (hj : vs[j]? = some v) : w.frozen? ⟨g, j, none⟩ = false := (h.2 j v hj).2

theorem Row.below {w w' : World} {g : Nat} {vs : List Value} (h : Row w g vs) (hb : Below w.heap.size w w') : Row w' g vs :=
  ⟨Nat.lt_of_lt_of_le h.1 hb.size, fun j v hj => ⟨by rw [hb.cell (p := ⟨g, j, none⟩) h.1]; exact h.cell hj, by rw [hb.frozen (p := ⟨g, j, none⟩) h.1]; exact h.frozen hj⟩⟩

theorem Row.setCell {w : World} {g : Nat} {vs : List Value} (h : Row w g vs) (k : Nat) (y : Value) : Row (w.setCell ⟨g, k, none⟩ y) g (vs.set k y) := by
  refine ⟨by simpa using h.1, fun j v hj => ⟨?_, ?_⟩⟩
  · by_cases hk : k = j
    · subst hk
      rw [List.getElem?_set_self'] at hj
      cases hv : vs[k]? with
      | none => simp [hv] at hj
      | some u =>
        simp [hv] at hj
        subst hj
        exact World.cell?_setCell_same _ _ _ (h.cell hv)
    · rw [List.getElem?_set_ne hk] at hj
      rw [World.cell?_setCell_other _ _ _ _ (by intro e; cases e; exact hk rfl)]
      exact h.cell hj
  · rw [World.frozen?_setCell]
    by_cases hk : k = j
    · subst hk
      rw [List.getElem?_set_self'] at hj
      cases hv : vs[k]? with
      | none => simp [hv] at hj
      | some u => exact h.frozen hv
    · rw [List.getElem?_set_ne hk] at hj
      exact h.frozen hj

theorem Row.of_owns {w : World} {base g n cap : Nat} {e : TypeId} {vs : List Value} (h : w.ownsRow base e 1 (.slice (some ⟨g, 0, none⟩) n cap) n vs) : Row w g vs := by
  refine ⟨?_, fun j v hj => ⟨?_, h.frozenAt j⟩⟩
  · rcases h.2 with ⟨h', _⟩ | ⟨g', cap', cur, h', _, hg, _⟩
    · simp at h'
    · simp only [Value.slice.injEq, Option.some.injEq, Addr.mk.injEq, and_true, true_and] at h'
      obtain ⟨rfl, rfl⟩ := h'
      exact (Array.getElem?_eq_some_iff.1 hg).1
  · have hl : vs.length = n * 1 := h.1
    have := (List.getElem?_eq_some_iff.1 hj).1
    rw [h.cellAt j (by omega)]
    exact hj

end Fr
end Go.Proofs.YtfnjgjehmddkcaaDoor
