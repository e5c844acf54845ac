/-
  A strings.Builder in a block of the call's own: what WriteString appends, what String answers, and what stays of all other blocks.
-/
import Derived.Test.YtfnjgjehmddkcaaDoorAttShelf
import Derived.Test.YtfnjgjehmddkcaaDoorBox
namespace Go.Proofs.YtfnjgjehmddkcaaDoor
open Go.RowKit
namespace Bld

/-- The builder in block B holds these bytes. -/
def IsB (B : Nat) (l : List UInt8) (w : World) : Prop := Lib.IsBuilderF 52 5 B B (Lib.byteCells l) w

theorem IsB.new (w : World) : IsB w.heap.size [] (w.alloc (Obj.cells #[.pointer none, .slice none 0 0] 52)) := Lib.IsBuilderF.of (Lib.fresh_isBuilder 52 5 w)

theorem IsB.keep {B : Nat} {l : List UInt8} {w w' : World} (h : IsB B l w) (hb : Below w.heap.size w w') : IsB B l w' := by
  have k : ∀ p, Lib.BuilderAtF 52 5 B B p (Lib.byteCells l) w → Lib.BuilderAtF 52 5 B B p (Lib.byteCells l) w' := fun p h => by
    have hlt := h.lt
    obtain ⟨hB, v, h1, h2, h3⟩ := h
    exact ⟨hB, v, (hb.block B hlt).trans h1, h2.kept (row := none) ⟨hb.os, hb.tape, hb.output, hb.size, fun k hk _ => hb.block k hk⟩ (by cases v.ownBlock <;> simp), h3⟩
  exact Or.elim h (fun h => .inl (k _ h)) (fun h => .inr (k _ h))

theorem IsB.drew {B : Nat} {l : List UInt8} {w : World} (h : IsB B l w) : IsB B l w.drew := h.keep ((Below.refl _ _).drew)

theorem IsB.lt {B : Nat} {l : List UInt8} {w : World} (h : IsB B l w) : B < w.heap.size := Or.elim h (fun h => h.lt) (fun h => h.lt)

theorem ws_any (B : Nat) (l : List UInt8) (s : ByteArray) (w : World) (h : IsB B l w) (hlen : l.length + s.size ≤ 140737488355328) (hBw : B ≤ w.heap.size) :
    Calls Tryd.prog 24 #[.pointer (some ⟨B, 0, none⟩), .string s] w fun e w' => e = .returned (.tuple #[.int .i64 s.size, .nilIface]) ∧ IsB B (l ++ s.data.toList) w' ∧ Below B w w' ∧
      ∀ k cs t fr, k ≠ B → t ≠ 5 → w.heap[k]? = some (.cells cs t fr) → w'.heap[k]? = some (.cells cs t fr) := by
  refine (Tryd.WriteString_any B B (Lib.byteCells l) s w h (by rw [Lib.byteCells_length]; exact hlen) hBw).mono ?_
  rintro e w' ⟨h1, h2, h3, h4⟩
  refine ⟨h1, .inr ?_, h3, fun k cs t fr hk ht hx => h4 k _ hx (fun e => hk (Option.some.inj e)) (fun c fz e => by injection e with _ e2 _; exact ht e2)⟩
  rw [Lib.strCells_eq] at h2
  have e : Lib.byteCells (l ++ s.data.toList) = Lib.byteCells l ++ Lib.byteCells s.data.toList := by simp [Lib.byteCells]
  rw [e]
  exact h2

theorem string_any (B : Nat) (l : List UInt8) (w : World) (h : IsB B l w) (hBw : B ≤ w.heap.size) :
    Calls Tryd.prog 27 #[.pointer (some ⟨B, 0, none⟩)] w fun e w' => e = .returned (.string ⟨l.toArray⟩) ∧ Below B w w' := Tryd.String_any B B l w h hBw

end Bld
end Go.Proofs.YtfnjgjehmddkcaaDoor
