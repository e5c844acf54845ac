/-
  What packet.Read reads of any text.
-/
import Derived.Test.YtaeeonohakkgbaaDoorPacA
import Derived.Test.YtaeeonohakkgbaaDoorAttK
namespace Go.Proofs.YtaeeonohakkgbaaDoor
open Go.RowKit
namespace Pac
open Oct Att Bx

/-- A block whose first cells are l, and may be written. -/
def Fre (W : World) (k : Nat) (l : List Value) : Prop := Blk W k l ∧ k < W.heap.size ∧ ∀ j, W.frozen? ⟨k, j, none⟩ = false

theorem Fre.new (W : World) (l : List Value) (t : TypeId) : Fre (W.alloc (.cells l.toArray t)) W.heap.size l := ⟨Blk.new W l t, by simp, fun j => World.frozen?_alloc_new W l.toArray t j⟩

theorem Fre.keep {W w1 : World} {k : Nat} {l : List Value} (h : Fre W k l) (hb : Below W.heap.size W w1) : Fre w1 k l :=
  ⟨h.1.keep hb, Nat.lt_of_lt_of_le h.2.1 hb.size, fun j => (hb.frozen (p := ⟨k, j, none⟩) h.2.1).trans (h.2.2 j)⟩

theorem Fre.drew {W : World} {k : Nat} {l : List Value} (h : Fre W k l) : Fre W.drew k l := h

theorem Fre.all4 {W : World} {k : Nat} {x0 x1 x2 x3 : Value} (h : Fre W k [x0, x1, x2, x3]) : (W.cell? ⟨k, 0, none⟩ = some x0 ∧ W.cell? ⟨k, 1, none⟩ = some x1 ∧ W.cell? ⟨k, 2, none⟩ = some x2 ∧ W.cell? ⟨k, 3, none⟩ = some x3) ∧
    W.frozen? ⟨k, 0, none⟩ = false ∧ W.frozen? ⟨k, 1, none⟩ = false ∧ W.frozen? ⟨k, 2, none⟩ = false ∧ W.frozen? ⟨k, 3, none⟩ = false := ⟨h.1.all4, h.2.2 0, h.2.2 1, h.2.2 2, h.2.2 3⟩

theorem ats_set {W : World} {B : Option Addr} {l : List At} {g o : Nat} {v : Value} (h : Ats W B l) (hB : ∀ b o', B = some ⟨b, o', none⟩ → b ≠ g) : Ats (W.setCell ⟨g, o, none⟩ v) B l := fun j x hj => by
  obtain ⟨b, q, e, h1, h2, h3⟩ := h j x hj
  have hne := hB b q e
  exact ⟨b, q, e, by simpa using h1, by rw [cell_set, if_neg (by omega)]; exact h2, by rw [cell_set, if_neg (by omega)]; exact h3⟩

/-- What Read hands back: a packet, its attributes in memory, and an error. -/
def GivesP (r : Rd) (w : World) (e : Ending) (w' : World) : Prop := ∃ A k, e = .returned (.tuple #[pv r.c r.i r.a A r.l.length k, .int .i64 r.e]) ∧ Ats w' A r.l ∧ Below w.heap.size w w'

theorem gives_none (w w' : World) (E : Int) (hb : Below w.heap.size w w') : GivesP (noR E) w (.returned (.tuple #[pv 0 0 ⟨#[]⟩ none 0 0, .int .i64 E])) w' := ⟨none, 0, rfl, Ats.nil _ _, hb⟩

theorem or_byte (m b : Nat) (hm : m < 256) (hb : b < 256) : bits .or .i64 ((m : Int) * 256) (b : Int) = ((m * 256 + b : Nat) : Int) := by
  rw [show ((m : Int) * 256) = ((m * 256 : Nat) : Int) by omega]
  have e : m * 256 ||| b = m * 256 + b := by
    rw [show m * 256 = 2 ^ 8 * m by omega, Nat.two_pow_add_eq_or_of_lt (by omega)]
  show IntKind.i64.wrap ((BitVec.ofInt 64 ((m * 256 : Nat) : Int) ||| BitVec.ofInt 64 (b : Int)).toNat : Int) = _
  rw [BitVec.toNat_or, ofInt_u64 _ (by omega), ofInt_u64 _ (by omega), e, IntKind.wrap_i64]
  omega

end Pac
end Go.Proofs.YtaeeonohakkgbaaDoor
