/-
  Slices of integers (over any program): a slice, nil or not, that reads as a list; what a call that makes memory leaves of it; a slice that a call made.
-/
import Derived.WalkKit
import Derived.Below
import Derived.Laws.World
import Derived.Lib.Hide
import Derived.Maps.AppendAt
namespace Go.Proofs.Ytkjdnmlaehjmgaa
open Go.RowKit
namespace Bx

/-- The slice that begins at A reads as l. -/
def Ints (w : World) (A : Option Addr) (l : List Int) : Prop := ∀ j x, l[j]? = some x → ∃ ad, A = some ad ∧ ad.block < w.heap.size ∧ w.cell? (ad.add j) = some (.int .i64 x)

theorem add_block (a : Addr) (i : Nat) : (a.add i).block = a.block := by unfold Addr.add; split <;> rfl

theorem Ints.below {w w' : World} {A : Option Addr} {l : List Int} (h : Ints w A l) (hb : Below w.heap.size w w') : Ints w' A l := fun j x hj => by
  obtain ⟨ad, e, h1, h2⟩ := h j x hj
  exact ⟨ad, e, Nat.lt_of_lt_of_le h1 hb.size, by rw [hb.cell (p := ad.add j) (by rw [add_block]; exact h1)]; exact h2⟩

theorem Ints.more {w : World} {A : Option Addr} {l : List Int} (h : Ints w A l) (o : Obj) : Ints (w.alloc o) A l := h.below ((Below.refl _ _).alloc (Nat.le_refl _) _)

theorem Ints.drew {w : World} {A : Option Addr} {l : List Int} (h : Ints w A l) : Ints w.drew A l := h

theorem Ints.nil (w : World) (A : Option Addr) : Ints w A [] := fun j x h => by simp at h

theorem Ints.at {w : World} {A : Option Addr} {l : List Int} (h : Ints w A l) {k : Nat} (hk : k < l.length) : ∃ ad, A = some ad ∧ ad.block < w.heap.size ∧ w.cell? (ad.add k) = some (.int .i64 l[k]) := h k l[k] (List.getElem?_eq_getElem hk)

/-- A row of the call's own, as a slice. -/
theorem Ints.of_own {w : World} {base : Nat} {e : TypeId} {v : Value} {l : List Int} (h : w.ownsRow base e 1 v l.length (l.map (Value.int .i64))) :
    ∃ A cap, v = .slice A l.length cap ∧ Ints w A l := by
  rcases h.2 with ⟨rfl, h0⟩ | ⟨g, cap, cur, rfl, hb, hg, _⟩
  · have : l = [] := List.eq_nil_of_length_eq_zero h0
    subst this
    exact ⟨none, 0, rfl, Ints.nil _ _⟩
  · refine ⟨_, _, rfl, fun j x hj => ⟨⟨g, 0, none⟩, rfl, (Array.getElem?_eq_some_iff.1 hg).1, ?_⟩⟩
    exact h.cells (g := g) rfl j _ (by rw [List.getElem?_map, hj]; rfl)

/-- What hands back a new slice that reads as l. -/
def Gives (l : List Int) (w : World) (e : Ending) (w' : World) : Prop := ∃ A cap, e = .returned (.slice A l.length cap) ∧ Ints w' A l ∧ Below w.heap.size w w'

end Bx
end Go.Proofs.Ytkjdnmlaehjmgaa
