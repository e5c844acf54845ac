/-
  What attr.Swap, and the document's answer beside it, make of any attributes.
-/
import Derived.Test.YtaeeonohakkgbaaDoorAttE
import Derived.Test.YtaeeonohakkgbaaDoorAttB
import Derived.StillTailTactics
namespace Go.Proofs.YtaeeonohakkgbaaDoor
open Go.RowKit
namespace Att
open Oct

theorem enc_cells {w : World} {a : Addr} {l : List At} (h : Ats w (some a) l) : ∀ j u, (l.flatMap enc)[j]? = some u → w.cell? (a.add j) = some u := by
  intro j u hj
  have hlt : j < l.length * 2 := by
    have := (List.getElem?_eq_some_iff.1 hj).1
    rwa [enc_length] at this
  obtain ⟨m, hm⟩ : ∃ m, m = j / 2 := ⟨_, rfl⟩
  have hk : m < l.length := by omega
  have hh : j = m * 2 ∨ j = m * 2 + 1 := by omega
  obtain ⟨b, o, e, _, c0, c1⟩ := h.at hk
  cases e
  obtain ⟨e0, e1⟩ := enc_flat l m l[m] (List.getElem?_eq_getElem hk)
  rw [Addr.add_lit]
  clear hm
  rcases hh with rfl | rfl
  · rw [e0] at hj
    cases hj
    exact c0
  · rw [e1] at hj
    cases hj
    exact c1

/-- What a call hands back that makes a row of its own of l. -/
def Owns (l : List At) (w : World) (e : Ending) (w' : World) : Prop := ∃ A cap, e = .returned (.slice A l.length cap) ∧ w'.ownsRow w.heap.size 39 2 (.slice A l.length cap) l.length (l.flatMap enc) ∧ Below w.heap.size w w'

theorem at_form {w : World} {base n : Nat} {e : TypeId} {v : Value} {xs : List Value} (h : w.ownsRow base e 2 v n xs) : ∃ B c, v = .slice B n c := by
  rcases h.2 with ⟨rfl, rfl⟩ | ⟨g, cap, cur, rfl, _⟩
  · exact ⟨_, _, rfl⟩
  · exact ⟨_, _, rfl⟩

theorem own_at {w : World} {base n c : Nat} {e : TypeId} {B : Option Addr} {xs : List Value} (h : w.ownsRow base e 2 (.slice B n c) n xs) (h0 : n ≠ 0) : ∃ g, B = some ⟨g, 0, none⟩ := by
  rcases h.2 with ⟨_, h1⟩ | ⟨g, cap, cur, h1, _⟩
  · exact absurd h1 h0
  · injection h1 with h1 _ _
    exact ⟨g, h1⟩

theorem own_cells {w : World} {base g c : Nat} {e : TypeId} {l : List At} (h : w.ownsRow base e 2 (.slice (some ⟨g, 0, none⟩) l.length c) l.length (l.flatMap enc)) {k : Nat} (hk : k < l.length) :
    w.cell? ⟨g, k * 2, none⟩ = some (.int .i64 l[k].1) ∧ w.cell? ⟨g, k * 2 + 1, none⟩ = some (.string l[k].2) ∧ w.frozen? ⟨g, k * 2, none⟩ = false ∧ w.frozen? ⟨g, k * 2 + 1, none⟩ = false := by
  obtain ⟨e0, e1⟩ := enc_flat l k l[k] (List.getElem?_eq_getElem hk)
  have h0 := h.cells (g := g) rfl _ _ e0
  have h1 := h.cells (g := g) rfl _ _ e1
  rw [Addr.add_lit, Nat.zero_add] at h0 h1
  exact ⟨h0, h1, h.frozenAt _, h.frozenAt _⟩

theorem set_ats {w : World} {g : Nat} {l : List At} (i : Nat) (y : At) (h : Ats w (some ⟨g, 0, none⟩) l) : Ats ((w.setCell ⟨g, i * 2, none⟩ (.int .i64 y.1)).setCell ⟨g, i * 2 + 1, none⟩ (.string y.2)) (some ⟨g, 0, none⟩) (l.set i y) := by
  intro j z hj
  have hjl : j < l.length := by
    have := (List.getElem?_eq_some_iff.1 hj).1
    rwa [List.length_set] at this
  obtain ⟨b, o, e, hb, c0, c1⟩ := h.at hjl
  cases e
  refine ⟨g, 0, rfl, by simpa using hb, ?_, ?_⟩
  · rw [Nat.zero_add] at c0 ⊢
    by_cases hij : i = j
    · subst hij
      have e2 : (l.set i y)[i]? = some y := by rw [List.getElem?_set_self hjl]
      rw [e2] at hj
      cases hj
      rw [Bx.cell_set, if_neg (by omega), Bx.cell_set, if_pos ⟨rfl, rfl⟩, c0]; rfl
    · rw [List.getElem?_set_ne hij, List.getElem?_eq_getElem hjl] at hj
      cases hj
      rw [Bx.cell_set, if_neg (by omega), Bx.cell_set, if_neg (by omega), c0]
  · rw [Nat.zero_add] at c1 ⊢
    by_cases hij : i = j
    · subst hij
      have e2 : (l.set i y)[i]? = some y := by rw [List.getElem?_set_self hjl]
      rw [e2] at hj
      cases hj
      rw [Bx.cell_set, if_pos ⟨rfl, rfl⟩, Bx.cell_set, if_neg (by omega), c1]; rfl
    · rw [List.getElem?_set_ne hij, List.getElem?_eq_getElem hjl] at hj
      cases hj
      rw [Bx.cell_set, if_neg (by omega), Bx.cell_set, if_neg (by omega), c1]

theorem Ats.drew {w : World} {A : Option Addr} {l : List At} (h : Ats w A l) : Ats w.drew A l := fun j x hj => h j x hj

theorem swapA_length (l : List At) (i k : Int) : (swapA l i k).length = l.length := by
  unfold swapA
  split <;> simp

theorem swapA_is (l : List At) (i k : Nat) (hi : i < l.length) (hk : k < l.length) (x y : At) (hx : l[i]? = some x) (hy : l[k]? = some y) : swapA l i k = (l.set i y).set k x := by
  unfold swapA
  rw [if_pos (by omega), Int.toNat_natCast, Int.toNat_natCast, List.getD_eq_getElem?_getD, List.getD_eq_getElem?_getD, hx, hy]
  rfl

theorem swap_ats {w : World} {base g c : Nat} {e : TypeId} (l : List At) (i k : Nat) (hi : i < l.length) (hk : k < l.length) (x y : At) (hx : l[i]? = some x) (hy : l[k]? = some y) (h : w.ownsRow base e 2 (.slice (some ⟨g, 0, none⟩) l.length c) l.length (l.flatMap enc)) :
    Ats ((((w.setCell ⟨g, i * 2, none⟩ (.int .i64 y.1)).setCell ⟨g, i * 2 + 1, none⟩ (.string y.2)).setCell ⟨g, k * 2, none⟩ (.int .i64 x.1)).setCell ⟨g, k * 2 + 1, none⟩ (.string x.2)).drew (some ⟨g, 0, none⟩) (swapA l i k) := by
  obtain ⟨_, _, e1, h3⟩ := Ats.of_own h
  injection e1 with e1 _ e4
  subst e1
  rw [swapA_is l i k hi hk x y hx hy]
  exact (set_ats k x (set_ats i y h3)).drew

theorem swap_below {a w : World} {n g c : Nat} {e : TypeId} {xs : List Value} (h : w.ownsRow a.heap.size e 2 (.slice (some ⟨g, 0, none⟩) n c) n xs) (hb : Below a.heap.size a w) (i k : Nat) (v0 v1 v2 v3 : Value) :
    Below a.heap.size a ((((w.setCell ⟨g, i * 2, none⟩ v0).setCell ⟨g, i * 2 + 1, none⟩ v1).setCell ⟨g, k * 2, none⟩ v2).setCell ⟨g, k * 2 + 1, none⟩ v3).drew :=
  have hg : a.heap.size ≤ g := (h.lt g rfl).1
  ((((hb.setCell (p := ⟨g, i * 2, none⟩) hg v0).setCell (p := ⟨g, i * 2 + 1, none⟩) hg v1).setCell (p := ⟨g, k * 2, none⟩) hg v2).setCell (p := ⟨g, k * 2 + 1, none⟩) hg v3).drew

end Att
end Go.Proofs.YtaeeonohakkgbaaDoor
