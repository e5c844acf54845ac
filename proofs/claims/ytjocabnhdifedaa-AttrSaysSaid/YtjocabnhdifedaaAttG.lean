/-
  What the document's Swap makes of any attributes.
-/
import Derived.Test.YtjocabnhdifedaaAttF
namespace Go.Proofs.Ytjocabnhdifedaa
open Go.RowKit
namespace Att
open Oct

set_option maxHeartbeats 2000000 in
theorem rswap_any (l : List At) (hl : l.length ≤ 1000) (i k : Int) (A : Option Addr) (c : Nat) (w : World) (hA : Ats w A l) :
    Calls Try.prog 27 #[.slice A l.length c, .int .i64 i, .int .i64 k] w (Gives (swapA l i k) w) := by
  obtain ⟨i0, hi, hz0, hz1, hz2⟩ := info_parts info_at
  have HO := Lib.hid (World.ownsRow_made (e := 37) (size := 2) w #[] 0 (Nat.le_refl _) (Nat.zero_le _) (by simp))
  cases A with
  | none =>
    have hl0 : l = [] := by
      cases l with
      | nil => rfl
      | cons x l => obtain ⟨b, o, e, _⟩ := hA 0 x rfl; cases e
    subst hl0
    have HG := Lib.hid (show Gives (swapA [] i k) w (.returned (.slice (some ⟨w.heap.size, 0, none⟩) 0 0)) (w.alloc (Obj.cells #[] 37)) from by
      rw [show swapA [] i k = [] from if_neg (by simp <;> omega)]
      exact ⟨_, _, rfl, Ats.nil _ _, Bx.box_below _ _⟩)
    generalize Gives (swapA [] i k) w = R at *
    have hap := run_append_owned_none (P := Try.prog) (w := w.alloc (Obj.cells #[] 37)) w.heap.size 22 22 37 i0 2 Try.underlying22 hi _ _ _ HO.out
    rcases (show i < 0 ∨ (0 ≤ i ∧ k < 0) ∨ (0 ≤ i ∧ 0 ≤ k) by omega) with h | ⟨h, h'⟩ | ⟨h, h'⟩ <;>
    · go_enter Try.func27, Try.ntmps27
      go_wp2
      exact HG.out
  | some a =>
    have HA := Lib.hid (enc_cells (hA.below (Bx.box_below w (Obj.cells #[] 37))))
    have h1 := enc_one l
    have hL := enc_length l
    have HF := Lib.hid (fun (v : Value) (w' : World) (h : w'.ownsRow w.heap.size 37 2 v l.length (l.flatMap enc)) (h2 : Below w.heap.size w w') => show ∃ B c', v = .slice B l.length c' ∧ w'.ownsRow w.heap.size 37 2 (.slice B l.length c') l.length (l.flatMap enc) ∧ Below w.heap.size w w' by
      obtain ⟨B, c', rfl⟩ := at_form h
      exact ⟨B, c', rfl, h, h2⟩)
    by_cases hok : 0 ≤ i ∧ i < l.length ∧ 0 ≤ k ∧ k < l.length
    · obtain ⟨i', rfl⟩ := Int.eq_ofNat_of_zero_le hok.1
      obtain ⟨k', rfl⟩ := Int.eq_ofNat_of_zero_le hok.2.2.1
      go_enter Try.func27, Try.ntmps27
      go_wp2_with (at_builtin; refine wpList_append_own _ rfl _ _ 22 rfl w.heap.size 37 i0 (.agg #[.int .i64 0, .string ⟨#[]⟩]) 2 24 Try.underlying22 hi hz0 hz1 hz2 rfl (by decide) _ _ _ rfl HO.out a l.length c (l.flatMap enc) rfl ?c1 ?c2 ?c3 ?c4 ?c5 ?c6 ?_)
      case c1 => exact hL
      case c2 => exact HA.out
      case c3 => exact h1
      case c4 => unfold maxLen; omega
      case c5 => omega
      case c6 => simp
      intro v' w1 hown hgrow _
      obtain ⟨B, c', rfl, h2, h3⟩ := HF.out v' w1 (by simpa using hown) (((Bx.box_below w (Obj.cells #[] 37))).grown hgrow (by simp) (by intro k hk; simp [Value.ownBlock] at hk; omega))
      have H1 := Lib.hid h2
      have H2 := Lib.hid h3
      clear h2 h3 hown hgrow
      obtain ⟨g, rfl⟩ := own_at H1.out (by omega)
      have CI := own_cells H1.out (k := i') (by omega)
      have CK := own_cells H1.out (k := k') (by omega)
      have hli : l[i']? = some l[i'] := List.getElem?_eq_getElem (by omega)
      have hlk : l[k']? = some l[k'] := List.getElem?_eq_getElem (by omega)
      generalize l[i'] = x at *
      generalize l[k'] = y at *
      obtain ⟨x1, x2⟩ := x
      obtain ⟨y1, y2⟩ := y
      obtain ⟨a0, a1, a2, a3⟩ := CI
      obtain ⟨c0, c1, c2, c3⟩ := CK
      simp only at a0 a1 c0 c1
      have hi' : i' < l.length := by omega
      have hk' : k' < l.length := by omega
      have HG := Lib.hid (show Gives (swapA l i' k') w (.returned (.slice (some ⟨g, 0, none⟩) l.length c')) _ from ⟨_, c', by rw [swapA_length], swap_ats l i' k' hi' hk' (x1, x2) (y1, y2) hli hlk H1.out, swap_below H1.out H2.out i' k' _ _ _ _⟩)
      clear H1 H2
      by_cases hik : i' = k'
      · subst hik
        rw [hlk] at hli
        cases hli
        go_wp2
        go_region
        go_wp2
        go_ret
        exact HG.out
      · go_wp2
        go_region
        go_wp2
        go_ret
        exact HG.out
    · rw [show swapA l i k = l from if_neg hok]
      rcases (show i < 0 ∨ (0 ≤ i ∧ k < 0) ∨ (0 ≤ i ∧ 0 ≤ k ∧ (l.length : Int) ≤ i) ∨ (0 ≤ i ∧ 0 ≤ k ∧ i < l.length ∧ (l.length : Int) ≤ k) by omega) with h | ⟨h, h'⟩ | ⟨h, h', h''⟩ | ⟨h, h', h'', h'''⟩
      · go_enter Try.func27, Try.ntmps27
        go_wp2_with (at_builtin; refine wpList_append_own _ rfl _ _ 22 rfl w.heap.size 37 i0 (.agg #[.int .i64 0, .string ⟨#[]⟩]) 2 24 Try.underlying22 hi hz0 hz1 hz2 rfl (by decide) _ _ _ rfl HO.out a l.length c (l.flatMap enc) rfl ?c1 ?c2 ?c3 ?c4 ?c5 ?c6 ?_)
        case c1 => exact hL
        case c2 => exact HA.out
        case c3 => exact h1
        case c4 => unfold maxLen; omega
        case c5 => omega
        case c6 => simp
        intro v' w1 hown hgrow _
        obtain ⟨B, c', rfl, h2, h3⟩ := HF.out v' w1 (by simpa using hown) (((Bx.box_below w (Obj.cells #[] 37))).grown hgrow (by simp) (by intro k hk; simp [Value.ownBlock] at hk; omega))
        obtain ⟨_, _, e1, h4⟩ := Ats.of_own h2
        injection e1 with e1 _ e4
        subst e1 e4
        have HG := Lib.hid (show Gives l w (.returned (.slice B l.length c')) w1 from ⟨_, _, rfl, h4, h3⟩)
        clear h2 h3 h4 hown hgrow
        go_wp2
        go_ret
        exact HG.out
      · go_enter Try.func27, Try.ntmps27
        go_wp2_with (at_builtin; refine wpList_append_own _ rfl _ _ 22 rfl w.heap.size 37 i0 (.agg #[.int .i64 0, .string ⟨#[]⟩]) 2 24 Try.underlying22 hi hz0 hz1 hz2 rfl (by decide) _ _ _ rfl HO.out a l.length c (l.flatMap enc) rfl ?c1 ?c2 ?c3 ?c4 ?c5 ?c6 ?_)
        case c1 => exact hL
        case c2 => exact HA.out
        case c3 => exact h1
        case c4 => unfold maxLen; omega
        case c5 => omega
        case c6 => simp
        intro v' w1 hown hgrow _
        obtain ⟨B, c', rfl, h2, h3⟩ := HF.out v' w1 (by simpa using hown) (((Bx.box_below w (Obj.cells #[] 37))).grown hgrow (by simp) (by intro k hk; simp [Value.ownBlock] at hk; omega))
        obtain ⟨_, _, e1, h4⟩ := Ats.of_own h2
        injection e1 with e1 _ e4
        subst e1 e4
        have HG := Lib.hid (show Gives l w (.returned (.slice B l.length c')) w1 from ⟨_, _, rfl, h4, h3⟩)
        clear h2 h3 h4 hown hgrow
        go_wp2
        go_ret
        exact HG.out
      · go_enter Try.func27, Try.ntmps27
        go_wp2_with (at_builtin; refine wpList_append_own _ rfl _ _ 22 rfl w.heap.size 37 i0 (.agg #[.int .i64 0, .string ⟨#[]⟩]) 2 24 Try.underlying22 hi hz0 hz1 hz2 rfl (by decide) _ _ _ rfl HO.out a l.length c (l.flatMap enc) rfl ?c1 ?c2 ?c3 ?c4 ?c5 ?c6 ?_)
        case c1 => exact hL
        case c2 => exact HA.out
        case c3 => exact h1
        case c4 => unfold maxLen; omega
        case c5 => omega
        case c6 => simp
        intro v' w1 hown hgrow _
        obtain ⟨B, c', rfl, h2, h3⟩ := HF.out v' w1 (by simpa using hown) (((Bx.box_below w (Obj.cells #[] 37))).grown hgrow (by simp) (by intro k hk; simp [Value.ownBlock] at hk; omega))
        obtain ⟨_, _, e1, h4⟩ := Ats.of_own h2
        injection e1 with e1 _ e4
        subst e1 e4
        have HG := Lib.hid (show Gives l w (.returned (.slice B l.length c')) w1 from ⟨_, _, rfl, h4, h3⟩)
        clear h2 h3 h4 hown hgrow
        go_wp2
        go_ret
        exact HG.out
      · go_enter Try.func27, Try.ntmps27
        go_wp2_with (at_builtin; refine wpList_append_own _ rfl _ _ 22 rfl w.heap.size 37 i0 (.agg #[.int .i64 0, .string ⟨#[]⟩]) 2 24 Try.underlying22 hi hz0 hz1 hz2 rfl (by decide) _ _ _ rfl HO.out a l.length c (l.flatMap enc) rfl ?c1 ?c2 ?c3 ?c4 ?c5 ?c6 ?_)
        case c1 => exact hL
        case c2 => exact HA.out
        case c3 => exact h1
        case c4 => unfold maxLen; omega
        case c5 => omega
        case c6 => simp
        intro v' w1 hown hgrow _
        obtain ⟨B, c', rfl, h2, h3⟩ := HF.out v' w1 (by simpa using hown) (((Bx.box_below w (Obj.cells #[] 37))).grown hgrow (by simp) (by intro k hk; simp [Value.ownBlock] at hk; omega))
        obtain ⟨_, _, e1, h4⟩ := Ats.of_own h2
        injection e1 with e1 _ e4
        subst e1 e4
        have HG := Lib.hid (show Gives l w (.returned (.slice B l.length c')) w1 from ⟨_, _, rfl, h4, h3⟩)
        clear h2 h3 h4 hown hgrow
        go_wp2
        go_ret
        exact HG.out

end Att
end Go.Proofs.Ytjocabnhdifedaa
