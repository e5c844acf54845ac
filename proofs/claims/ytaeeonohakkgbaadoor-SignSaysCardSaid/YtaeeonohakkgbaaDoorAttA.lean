/-
  Slices of attributes and of texts in memory; what attr.Right, and the document's answer beside it, say of any attribute.
-/
import Derived.Test.YtaeeonohakkgbaaDoorOctRef
import Derived.Test.YtaeeonohakkgbaaDoorWhole
import Derived.Test.YtaeeonohakkgbaaDoorAttNum
import Derived.Deep.RegionHeld3
import Derived.Maps.AppendAt
namespace Go.Proofs.YtaeeonohakkgbaaDoor
open Go.RowKit
namespace Att
open Oct

/-- An attribute as a value, and its two cells. -/
abbrev av (a : At) : Value := .agg #[.int .i64 a.1, .string a.2]
def enc (a : At) : List Value := [.int .i64 a.1, .string a.2]

theorem ret_bool {a b : Bool} (h : a = b) : Ending.returned (.bool a) = .returned (.bool b) := by rw [h]

/-- The slice that begins at A reads as the attributes l. -/
def Ats (w : World) (A : Option Addr) (l : List At) : Prop := ∀ j x, l[j]? = some x → ∃ b o, A = some ⟨b, o, none⟩ ∧ b < w.heap.size ∧ w.cell? ⟨b, o + j * 2, none⟩ = some (.int .i64 x.1) ∧ w.cell? ⟨b, o + j * 2 + 1, none⟩ = some (.string x.2)

/-- The slice that begins at A reads as the texts l. -/
def Txs (w : World) (A : Option Addr) (l : List ByteArray) : Prop := ∀ j x, l[j]? = some x → ∃ b o, A = some ⟨b, o, none⟩ ∧ b < w.heap.size ∧ w.cell? ⟨b, o + j, none⟩ = some (.string x)

theorem Ats.below {w w' : World} {A : Option Addr} {l : List At} (h : Ats w A l) (hb : Below w.heap.size w w') : Ats w' A l := fun j x hj => by
  obtain ⟨b, o, e, h1, h2, h3⟩ := h j x hj
  exact ⟨b, o, e, Nat.lt_of_lt_of_le h1 hb.size, Bx.keep_cell hb h2, Bx.keep_cell hb h3⟩

theorem Txs.below {w w' : World} {A : Option Addr} {l : List ByteArray} (h : Txs w A l) (hb : Below w.heap.size w w') : Txs w' A l := fun j x hj => by
  obtain ⟨b, o, e, h1, h2⟩ := h j x hj
  exact ⟨b, o, e, Nat.lt_of_lt_of_le h1 hb.size, Bx.keep_cell hb h2⟩

theorem Ats.nil (w : World) (A : Option Addr) : Ats w A [] := fun j x h => by simp at h
theorem Txs.nil (w : World) (A : Option Addr) : Txs w A [] := fun j x h => by simp at h

theorem Ats.at {w : World} {A : Option Addr} {l : List At} (h : Ats w A l) {k : Nat} (hk : k < l.length) : ∃ b o, A = some ⟨b, o, none⟩ ∧ b < w.heap.size ∧ w.cell? ⟨b, o + k * 2, none⟩ = some (.int .i64 l[k].1) ∧ w.cell? ⟨b, o + k * 2 + 1, none⟩ = some (.string l[k].2) := h k l[k] (List.getElem?_eq_getElem hk)

theorem Txs.at {w : World} {A : Option Addr} {l : List ByteArray} (h : Txs w A l) {k : Nat} (hk : k < l.length) : ∃ b o, A = some ⟨b, o, none⟩ ∧ b < w.heap.size ∧ w.cell? ⟨b, o + k, none⟩ = some (.string l[k]) := h k l[k] (List.getElem?_eq_getElem hk)

theorem enc_flat : ∀ (l : List At) (j : Nat) (x : At), l[j]? = some x → (l.flatMap enc)[j * 2]? = some (.int .i64 x.1) ∧ (l.flatMap enc)[j * 2 + 1]? = some (.string x.2)
  | [], j, x, h => by simp at h
  | a :: l, 0, x, h => by
    simp at h
    subst h
    exact ⟨rfl, rfl⟩
  | a :: l, j + 1, x, h => by
    have := enc_flat l j x (by simpa using h)
    rw [List.flatMap_cons, show (j + 1) * 2 = j * 2 + 2 by omega]
    exact this

theorem enc_length (l : List At) : (l.flatMap enc).length = l.length * 2 := by
  induction l with
  | nil => rfl
  | cons a l ih => rw [List.flatMap_cons, List.length_append, ih, List.length_cons]; show 2 + _ = _; omega

theorem enc_one (l : List At) : ∀ u ∈ l.flatMap enc, u.oneCell' = true := by
  intro u hu
  obtain ⟨a, _, ha⟩ := List.mem_flatMap.1 hu
  simp [enc] at ha
  rcases ha with rfl | rfl <;> rfl

/-- A row of the call's own, as a slice of attributes. -/
theorem Ats.of_own {w : World} {base : Nat} {e : TypeId} {v : Value} {l : List At} (h : w.ownsRow base e 2 v l.length (l.flatMap enc)) :
    ∃ A cap, v = .slice A l.length cap ∧ Ats w A l := by
  rcases h.2 with ⟨rfl, h0⟩ | ⟨g, cap, cur, rfl, hb, hg, _⟩
  · have : l = [] := List.eq_nil_of_length_eq_zero h0
    subst this
    exact ⟨none, 0, rfl, Ats.nil _ _⟩
  · refine ⟨_, _, rfl, fun j x hj => ⟨g, 0, rfl, (Array.getElem?_eq_some_iff.1 hg).1, ?_, ?_⟩⟩
    · have := h.cells (g := g) rfl _ _ (enc_flat l j x hj).1
      rwa [Addr.add_lit] at this
    · have := h.cells (g := g) rfl _ _ (enc_flat l j x hj).2
      rwa [Addr.add_lit] at this

theorem Txs.of_own {w : World} {base : Nat} {e : TypeId} {v : Value} {l : List ByteArray} (h : w.ownsRow base e 1 v l.length (l.map Value.string)) :
    ∃ A cap, v = .slice A l.length cap ∧ l.length ≤ cap ∧ Txs w A l := by
  rcases h.2 with ⟨rfl, h0⟩ | ⟨g, cap, cur, rfl, hb, hg, h5, _⟩
  · have : l = [] := List.eq_nil_of_length_eq_zero h0
    subst this
    exact ⟨none, 0, rfl, Nat.le_refl _, Txs.nil _ _⟩
  · refine ⟨_, _, rfl, ?_, fun j x hj => ⟨g, 0, rfl, (Array.getElem?_eq_some_iff.1 hg).1, ?_⟩⟩
    · exact h5
    · have := h.cells (g := g) rfl j (.string x) (by rw [List.getElem?_map, hj]; rfl)
      rwa [Addr.add_lit] at this

/-- What hands back a new slice that reads as l. -/
def Gives (l : List At) (w : World) (e : Ending) (w' : World) : Prop := ∃ A cap, e = .returned (.slice A l.length cap) ∧ Ats w' A l ∧ Below w.heap.size w w'
def GivesE (l : List At) (c : Int) (w : World) (e : Ending) (w' : World) : Prop := ∃ A cap, e = .returned (.tuple #[.slice A l.length cap, .int .i64 c]) ∧ Ats w' A l ∧ Below w.heap.size w w'
def GivesT (l : List ByteArray) (w : World) (e : Ending) (w' : World) : Prop := ∃ A cap, e = .returned (.slice A l.length cap) ∧ l.length ≤ cap ∧ Txs w' A l ∧ Below w.heap.size w w'

theorem right_any (a : At) (w : World) :
    Calls Tryd.prog 91 #[av a] w fun e w' => e = .returned (.bool (rightA a)) ∧ Below w.heap.size w w' := by
  obtain ⟨x, y⟩ := a
  unfold rightA
  rcases (show x < 1 ∨ 255 < x ∨ (1 ≤ x ∧ x ≤ 255) by omega) with h1 | h1 | h1 <;>
  · go_enter Tryd.func91, Tryd.ntmps91
    go_wp2
    go_ret
    exact ⟨ret_bool (by rw [Bool.eq_iff_iff]; simp <;> omega), Bx.box_below _ _⟩

theorem rright_any (a : At) (w : World) :
    Calls Tryd.prog 70 #[av a] w fun e w' => e = .returned (.bool (rightA a)) ∧ Below w.heap.size w w' := by
  obtain ⟨x, y⟩ := a
  unfold rightA
  rcases (show x < 1 ∨ 255 < x ∨ (1 ≤ x ∧ x ≤ 255) by omega) with h1 | h1 | h1 <;>
  · go_enter Tryd.func70, Tryd.ntmps70
    go_wp2
    go_ret
    exact ⟨ret_bool (by rw [Bool.eq_iff_iff]; simp <;> omega), Bx.box_below _ _⟩

end Att
end Go.Proofs.YtaeeonohakkgbaaDoor
