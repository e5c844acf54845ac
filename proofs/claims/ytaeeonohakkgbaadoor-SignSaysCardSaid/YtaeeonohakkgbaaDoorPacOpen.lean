/-
  A packet that came in by value: its fields, and its attributes in memory.
-/
import Derived.Test.YtaeeonohakkgbaaDoorPacA
import Derived.Test.YtaeeonohakkgbaaDoorFrame
import Derived.Test.YtaeeonohakkgbaaDoorOpen
import Derived.Deep.SlicePairs
import Derived.WideShapes
namespace Go.Proofs.YtaeeonohakkgbaaDoor
open Go.ChangeShapes Go.WideShapes Go.ChangeAt Go.RowKit Go.Deep
namespace Pac
open Att

theorem open_in {H : Type} {enc : TypeId × Value → H} {W : World} {base : Nat} {spare : Nat → Bool} {held : Bool} {fuel : Nat} {v : Value} {x : DataW H × List MemPlace}
    (hf : DataW.trod enc Tryd.prog W base spare held fuel 22 [v] = some x) :
    ∃ (A : Option Addr) (l : List At) (cap : Nat), v = .slice A l.length cap ∧ l.length ≤ maxLen ∧ l.length ≤ cap ∧ (A = none → cap = 0) ∧ Ats W A l := by
  rcases open_slice_pairs Tryd.underlying22 Tryd.underlying39 (by kernel_rfl) rfl rfl (by kernel_rfl) (by kernel_rfl) hf with ⟨hcs, _⟩ | ⟨a, len', cap', m, n, V0, V1, D0, D1, P0, P1, hcs, _, hl, hm, hmm, _, hcell⟩
  · injection hcs with hcs _
    exact ⟨none, [], 0, hcs, Nat.zero_le _, Nat.le_refl _, fun _ => rfl, Ats.nil _ _⟩
  · injection hcs with hcs _
    have hlm : len' ≤ m := by rw [hmm]; split <;> omega
    have each : ∀ i, i < len' → ∃ x : At, V0 i = .int .i64 x.1 ∧ V1 i = .string x.2 := by
      intro i hi
      obtain ⟨_, _, t0, t1⟩ := hcell i (by omega)
      obtain ⟨x0, e0, _, _⟩ := DataW.trod_int Tryd.underlying3 t0
      obtain ⟨x1, e1, _, w1⟩ := DataW.trod_string Tryd.underlying9 t1
      simp at e0 e1
      exact ⟨(x0, x1), e0, e1⟩
    obtain ⟨q, hq⟩ := choose_lt each
    have hget : ∀ j x, ((List.range len').map q)[j]? = some x → j < len' ∧ x = q j := by
      intro j x hj
      rw [List.getElem?_map] at hj
      cases hr : (List.range len')[j]? with
      | none => rw [hr] at hj; cases hj
      | some k =>
        rw [hr] at hj
        obtain ⟨h1, h2⟩ := List.getElem?_eq_some_iff.1 hr
        rw [List.getElem_range] at h2
        rw [List.length_range] at h1
        subst h2
        exact ⟨h1, (Option.some.inj hj).symm⟩
    refine ⟨some a, (List.range len').map q, cap', by simpa using hcs, by simp; omega, by simpa using hl, (fun h => by cases h), fun j x hj => ?_⟩
    obtain ⟨hj1, rfl⟩ := hget j x hj
    obtain ⟨c0, c1, _, _⟩ := hcell j (by omega)
    obtain ⟨e0, e1⟩ := hq j hj1
    rw [e0] at c0
    rw [e1] at c1
    obtain ⟨b, o, sp⟩ := a
    cases sp with
    | none =>
      rw [Addr.add_lit] at c0 c1
      exact ⟨b, o, rfl, World.block_lt_of_cell? _ _ c0, c0, c1⟩
    | some s =>
      exfalso
      obtain ⟨c00, _⟩ := hcell 0 (by omega)
      have e : W.cell? (Addr.add ⟨b, o, some s⟩ (0 * 2)) = none := by
        show W.cell? ⟨b, o, some s⟩ = none
        unfold World.cell?
        split <;> rfl
      rw [e] at c00
      cases c00

theorem open_packet {H : Type} {enc : TypeId × Value → H} {W : World} {base b0 : Nat} {spare : Nat → Bool} {held : Bool} {r : Reach} {v : Value} {d : DataW H} {p : List MemPlace}
    (hv : Value.okWide Tryd.prog W r b0 24 v) (h : DataW.Trod enc Tryd.prog W base spare held 24 v d p) :
    ∃ (c i : Int) (a : ByteArray) (A : Option Addr) (l : List At) (k : Nat), v = pv c i a A l.length k ∧ a.size ≤ maxLen ∧ l.length ≤ maxLen ∧ l.length ≤ k ∧ (A = none → k = 0) ∧ Ats W A l := by
  obtain ⟨l, n, rfl, hl, hg⟩ := Fr.open_fields Tryd.underlying24 (by kernel_rfl) (by kernel_rfl) hv h
  match l, hl with
  | [v0, v1, v2, v3], _ =>
    obtain ⟨c0, y0, e0, t0⟩ := hg 0 _ rfl
    obtain ⟨c1, y1, e1, t1⟩ := hg 1 _ rfl
    obtain ⟨c2, y2, e2, t2⟩ := hg 2 _ rfl
    obtain ⟨c3, y3, e3, t3⟩ := hg 3 _ rfl
    cases e0
    cases e1
    cases e2
    cases e3
    obtain ⟨x0, f0, _, _⟩ := DataW.trod_int Tryd.underlying3 t0
    obtain ⟨x1, f1, _, _⟩ := DataW.trod_int Tryd.underlying3 t1
    obtain ⟨x2, f2, _, w2⟩ := DataW.trod_string Tryd.underlying9 t2
    simp at f0 f1 f2
    subst f0 f1 f2
    obtain ⟨A, l, k, rfl, h1, h2, h3, h4⟩ := open_in t3
    exact ⟨x0, x1, x2, A, l, k, rfl, w2, h1, h2, h3, h4⟩

end Pac
end Go.Proofs.YtaeeonohakkgbaaDoor
