/-
  Whether two packets are the same: packet.Same, and the document's answer beside it.
-/
import Derived.Test.YtaeeonohakkgbaaDoorPacA
import Derived.Test.YtaeeonohakkgbaaDoorAttE
namespace Go.Proofs.YtaeeonohakkgbaaDoor
open Go.RowKit
namespace Pac
open Oct Att Bx

theorem box_two (w : World) (o o' : Obj) : Below w.heap.size w ((w.alloc o).alloc o') := bel_box (box_below w o) o'

theorem text_ne {a b : ByteArray} (h : a ≠ b) : (a.toList == b.toList) = false := by
  rw [beq_eq_false_iff_ne]
  intro e
  apply h
  rw [ByteArray.toList_eq, ByteArray.toList_eq] at e
  exact ByteArray.ext (Array.toList_inj.1 e)

def sameP (c i : Int) (a : ByteArray) (l : List At) (c' i' : Int) (a' : ByteArray) (l' : List At) : Bool := decide (c = c' ∧ i = i' ∧ a = a' ∧ l = l')

set_option maxHeartbeats 2000000 in
theorem rsame_any (c i : Int) (a : ByteArray) (l : List At) (c' i' : Int) (a' : ByteArray) (l' : List At) (hl : l.length ≤ maxLen) (hl' : l'.length ≤ maxLen) (A A' : Option Addr) (k k' : Nat) (w : World) (hA : Ats w A l) (hA' : Ats w A' l') :
    Calls Tryd.prog 15 #[pv c i a A l.length k, pv c' i' a' A' l'.length k'] w fun e w' => e = .returned (.bool (sameP c i a l c' i' a' l')) ∧ Below w.heap.size w w' := by
  have bel := Lib.hid (box_two w (po c i a A l.length k) (po c' i' a' A' l'.length k'))
  have HS := Lib.hid (fun (w : World) hA hA' => Att.rsame_any l l' hl hl' A A' k k' w hA hA')
  have H1 := Lib.hid (hA.below bel.out)
  have H2 := Lib.hid (hA'.below bel.out)
  clear hA hA'
  by_cases h1 : c = c'
  · subst h1
    by_cases h2 : i = i'
    · subst h2
      by_cases h3 : a = a'
      · subst h3
        have e : sameP c i a l c i a l' = decide (l = l') := by unfold sameP; simp
        rw [e]
        generalize decide (l = l') = r at *
        generalize l.length = n at *
        generalize l'.length = n' at *
        go_enter Tryd.func15, Tryd.ntmps15
        go_wp2_with fail
        refine (HS.out _ H1.out H2.out).mono ?_; rintro e w1 ⟨rfl, q, rfl⟩
        have bel2 := Lib.hid (then_below bel.out (drew_below _ q))
        go_wp2_with fail
        go_ret
        exact ⟨rfl, bel2.out⟩
      · have h4 := text_ne h3
        have e : sameP c i a l c i a' l' = false := decide_eq_false (fun h => h3 h.2.2.1)
        rw [e]
        generalize l.length = n at *
        generalize l'.length = n' at *
        go_enter Tryd.func15, Tryd.ntmps15
        go_wp2_with fail
        go_ret
        exact ⟨rfl, bel.out⟩
    · have e : sameP c i a l c i' a' l' = false := decide_eq_false (fun h => h2 h.2.1)
      rw [e]
      generalize l.length = n at *
      generalize l'.length = n' at *
      go_enter Tryd.func15, Tryd.ntmps15
      go_wp2_with fail
      go_ret
      exact ⟨rfl, bel.out⟩
  · have e : sameP c i a l c' i' a' l' = false := decide_eq_false (fun h => h1 h.1)
    rw [e]
    generalize l.length = n at *
    generalize l'.length = n' at *
    go_enter Tryd.func15, Tryd.ntmps15
    go_wp2_with fail
    go_ret
    exact ⟨rfl, bel.out⟩

end Pac
end Go.Proofs.YtaeeonohakkgbaaDoor
