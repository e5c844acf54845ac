/-
  What attr.Swap, and the document's answer beside it, make of any attributes.
-/
import Derived.Test.YtjocabnhdifedaaAttE
import Derived.Test.YtjocabnhdifedaaAttB
import Derived.StillTailTactics
namespace Go.Proofs.Ytjocabnhdifedaa
open Go.RowKit
namespace Att
open Oct

theorem place_any (n : Nat) (i : Int) (A : Option Addr) (c : Nat) (w : World) :
    Calls Try.prog 41 #[.slice A n c, .int .i64 i] w fun e w' => e = .returned (.bool (decide (0 ≤ i ∧ i < n))) ∧ w = w' := by
  rcases (show i < 0 ∨ (0 ≤ i ∧ i < n) ∨ (0 ≤ i ∧ (n : Int) ≤ i) by omega) with h | h | h <;>
  · go_enter Try.func41, Try.ntmps41
    go_wp2
    go_ret
    exact ⟨ret_bool (by rw [Bool.eq_iff_iff]; simp <;> omega), rfl⟩

theorem enc_cells {w : World} {a : Addr} {l : List At} (h : Ats w (some a) l) : ∀ j u, (l.flatMap enc)[j]? = some u → w.cell? (a.add j) = some u := by
  intro j u hj
  have hlt : j < l.length * 2 := by
    have := (List.getElem?_eq_some_iff.1 hj).1
    rwa [enc_length] at this
  obtain ⟨m, hm⟩ : ∃ m, m = j / 2 := ⟨_, rfl⟩
  have hk : m < l.length := by omega
  have hh : j = m * 2 ∨ j = m * 2 + 1 := by omega
  obtain ⟨b, o, e, _, c0, c1⟩ := h.at hk
  cases e
  obtain ⟨e0, e1⟩ := enc_flat l m l[m] (List.getElem?_eq_getElem hk)
  rw [Addr.add_lit]
  clear hm
  rcases hh with rfl | rfl
  · rw [e0] at hj
    cases hj
    exact c0
  · rw [e1] at hj
    cases hj
    exact c1

/-- What a call hands back that makes a row of its own of l. -/
def Owns (l : List At) (w : World) (e : Ending) (w' : World) : Prop := ∃ A cap, e = .returned (.slice A l.length cap) ∧ w'.ownsRow w.heap.size 37 2 (.slice A l.length cap) l.length (l.flatMap enc) ∧ Below w.heap.size w w'

theorem at_form {w : World} {base n : Nat} {e : TypeId} {v : Value} {xs : List Value} (h : w.ownsRow base e 2 v n xs) : ∃ B c, v = .slice B n c := by
  rcases h.2 with ⟨rfl, rfl⟩ | ⟨g, cap, cur, rfl, _⟩
  · exact ⟨_, _, rfl⟩
  · exact ⟨_, _, rfl⟩

set_option maxHeartbeats 1000000 in
theorem clone_any (l : List At) (hl : l.length ≤ 1000) (A : Option Addr) (c : Nat) (w : World) (hA : Ats w A l) :
    Calls Try.prog 40 #[.slice A l.length c] w (Owns l w) := by
  obtain ⟨i0, hi, hz0, hz1, hz2⟩ := info_parts info_at
  have q22 : ∀ (w : World) (a : Option Addr) (n c n' c' : Nat), (binOp .eql 22 (.slice a n c) (.slice none n' c')).run Try.prog w = .ok (.bool a.isNone) w := fun w a n c n' c' => Lib.run_eql_slice_nil w _ _ a n c n' c' Try.underlying22
  cases A with
  | none =>
    have hl0 : l = [] := by
      cases l with
      | nil => rfl
      | cons x l => obtain ⟨b, o, e, _⟩ := hA 0 x rfl; cases e
    subst hl0
    go_enter Try.func40, Try.ntmps40
    go_wp2
    go_ret
    exact ⟨none, 0, rfl, World.ownsRow_nil _ _ _ _, Below.refl _ _⟩
  | some a =>
    have HA := Lib.hid (enc_cells (hA.below (Bx.box_below w (Obj.cells #[] 37))))
    have HO := Lib.hid (World.ownsRow_made (e := 37) (size := 2) w #[] 0 (Nat.le_refl _) (Nat.zero_le _) (by simp))
    have h1 := enc_one l
    have hL := enc_length l
    have HF := Lib.hid (fun (v : Value) (w' : World) (h : w'.ownsRow w.heap.size 37 2 v l.length (l.flatMap enc)) (h2 : Below w.heap.size w w') => show Owns l w (.returned v) w' by
      obtain ⟨B, c', rfl⟩ := at_form h
      exact ⟨B, c', rfl, h, h2⟩)
    generalize Owns l w = R at *
    generalize l.flatMap enc = news at *
    generalize l.length = n at *
    clear hA
    go_enter Try.func40, Try.ntmps40
    go_wp2_with (at_builtin; refine wpList_append_own _ rfl _ _ 22 rfl w.heap.size 37 i0 (.agg #[.int .i64 0, .string ⟨#[]⟩]) 2 24 Try.underlying22 hi hz0 hz1 hz2 rfl (by decide) _ _ _ rfl HO.out a n c news rfl ?c1 ?c2 ?c3 ?c4 ?c5 ?c6 ?_)
    case c1 => exact hL
    case c2 => exact HA.out
    case c3 => exact h1
    case c4 => unfold maxLen; omega
    case c5 => omega
    case c6 => simp
    intro v' w1 hown hgrow _
    have hb := ((Bx.box_below w (Obj.cells #[] 37))).grown hgrow (by simp) (by intro k hk; simp [Value.ownBlock] at hk; omega)
    have HG := Lib.hid (HF.out v' w1 (by simpa using hown) hb)
    clear hown hgrow hb
    go_wp2
    change R (.returned v') w1
    exact HG.out

theorem own_at {w : World} {base n c : Nat} {e : TypeId} {B : Option Addr} {xs : List Value} (h : w.ownsRow base e 2 (.slice B n c) n xs) (h0 : n ≠ 0) : ∃ g, B = some ⟨g, 0, none⟩ := by
  rcases h.2 with ⟨_, h1⟩ | ⟨g, cap, cur, h1, _⟩
  · exact absurd h1 h0
  · injection h1 with h1 _ _
    exact ⟨g, h1⟩

theorem own_cells {w : World} {base g c : Nat} {e : TypeId} {l : List At} (h : w.ownsRow base e 2 (.slice (some ⟨g, 0, none⟩) l.length c) l.length (l.flatMap enc)) {k : Nat} (hk : k < l.length) :
    w.cell? ⟨g, k * 2, none⟩ = some (.int .i64 l[k].1) ∧ w.cell? ⟨g, k * 2 + 1, none⟩ = some (.string l[k].2) ∧ w.frozen? ⟨g, k * 2, none⟩ = false ∧ w.frozen? ⟨g, k * 2 + 1, none⟩ = false := by
  obtain ⟨e0, e1⟩ := enc_flat l k l[k] (List.getElem?_eq_getElem hk)
  have h0 := h.cells (g := g) rfl _ _ e0
  have h1 := h.cells (g := g) rfl _ _ e1
  rw [Addr.add_lit, Nat.zero_add] at h0 h1
  exact ⟨h0, h1, h.frozenAt _, h.frozenAt _⟩

theorem set_ats {w : World} {g : Nat} {l : List At} (i : Nat) (y : At) (h : Ats w (some ⟨g, 0, none⟩) l) : Ats ((w.setCell ⟨g, i * 2, none⟩ (.int .i64 y.1)).setCell ⟨g, i * 2 + 1, none⟩ (.string y.2)) (some ⟨g, 0, none⟩) (l.set i y) := by
  intro j z hj
  have hjl : j < l.length := by
    have := (List.getElem?_eq_some_iff.1 hj).1
    rwa [List.length_set] at this
  obtain ⟨b, o, e, hb, c0, c1⟩ := h.at hjl
  cases e
  refine ⟨g, 0, rfl, by simpa using hb, ?_, ?_⟩
  · rw [Nat.zero_add] at c0 ⊢
    by_cases hij : i = j
    · subst hij
      have e2 : (l.set i y)[i]? = some y := by rw [List.getElem?_set_self hjl]
      rw [e2] at hj
      cases hj
      rw [Bx.cell_set, if_neg (by omega), Bx.cell_set, if_pos ⟨rfl, rfl⟩, c0]; rfl
    · rw [List.getElem?_set_ne hij, List.getElem?_eq_getElem hjl] at hj
      cases hj
      rw [Bx.cell_set, if_neg (by omega), Bx.cell_set, if_neg (by omega), c0]
  · rw [Nat.zero_add] at c1 ⊢
    by_cases hij : i = j
    · subst hij
      have e2 : (l.set i y)[i]? = some y := by rw [List.getElem?_set_self hjl]
      rw [e2] at hj
      cases hj
      rw [Bx.cell_set, if_pos ⟨rfl, rfl⟩, Bx.cell_set, if_neg (by omega), c1]; rfl
    · rw [List.getElem?_set_ne hij, List.getElem?_eq_getElem hjl] at hj
      cases hj
      rw [Bx.cell_set, if_neg (by omega), Bx.cell_set, if_neg (by omega), c1]

theorem Ats.drew {w : World} {A : Option Addr} {l : List At} (h : Ats w A l) : Ats w.drew A l := fun j x hj => h j x hj

theorem swapA_length (l : List At) (i k : Int) : (swapA l i k).length = l.length := by
  unfold swapA
  split <;> simp

theorem swapA_is (l : List At) (i k : Nat) (hi : i < l.length) (hk : k < l.length) (x y : At) (hx : l[i]? = some x) (hy : l[k]? = some y) : swapA l i k = (l.set i y).set k x := by
  unfold swapA
  rw [if_pos (by omega), Int.toNat_natCast, Int.toNat_natCast, List.getD_eq_getElem?_getD, List.getD_eq_getElem?_getD, hx, hy]
  rfl

theorem swap_ats {w : World} {base g c : Nat} {e : TypeId} (l : List At) (i k : Nat) (hi : i < l.length) (hk : k < l.length) (x y : At) (hx : l[i]? = some x) (hy : l[k]? = some y) (h : w.ownsRow base e 2 (.slice (some ⟨g, 0, none⟩) l.length c) l.length (l.flatMap enc)) :
    Ats ((((w.setCell ⟨g, i * 2, none⟩ (.int .i64 y.1)).setCell ⟨g, i * 2 + 1, none⟩ (.string y.2)).setCell ⟨g, k * 2, none⟩ (.int .i64 x.1)).setCell ⟨g, k * 2 + 1, none⟩ (.string x.2)).drew (some ⟨g, 0, none⟩) (swapA l i k) := by
  obtain ⟨_, _, e1, h3⟩ := Ats.of_own h
  injection e1 with e1 _ e4
  subst e1
  rw [swapA_is l i k hi hk x y hx hy]
  exact (set_ats k x (set_ats i y h3)).drew

theorem swap_below {a w : World} {n g c : Nat} {e : TypeId} {xs : List Value} (h : w.ownsRow a.heap.size e 2 (.slice (some ⟨g, 0, none⟩) n c) n xs) (hb : Below a.heap.size a w) (i k : Nat) (v0 v1 v2 v3 : Value) :
    Below a.heap.size a ((((w.setCell ⟨g, i * 2, none⟩ v0).setCell ⟨g, i * 2 + 1, none⟩ v1).setCell ⟨g, k * 2, none⟩ v2).setCell ⟨g, k * 2 + 1, none⟩ v3).drew :=
  have hg : a.heap.size ≤ g := (h.lt g rfl).1
  ((((hb.setCell (p := ⟨g, i * 2, none⟩) hg v0).setCell (p := ⟨g, i * 2 + 1, none⟩) hg v1).setCell (p := ⟨g, k * 2, none⟩) hg v2).setCell (p := ⟨g, k * 2 + 1, none⟩) hg v3).drew

set_option maxHeartbeats 1000000 in
theorem swap_any (l : List At) (hl : l.length ≤ 1000) (i k : Int) (A : Option Addr) (c : Nat) (w : World) (hA : Ats w A l) :
    Calls Try.prog 26 #[.slice A l.length c, .int .i64 i, .int .i64 k] w (Gives (swapA l i k) w) := by
  have HC := Lib.hid (clone_any l hl A c w hA)
  by_cases hi : 0 ≤ i ∧ i < l.length
  · have HP1 := Lib.hid (fun A c w => place_any l.length i A c w)
    rw [decide_eq_true hi] at HP1
    by_cases hk : 0 ≤ k ∧ k < l.length
    · have HP2 := Lib.hid (fun A c w => place_any l.length k A c w)
      rw [decide_eq_true hk] at HP2
      obtain ⟨i', rfl⟩ := Int.eq_ofNat_of_zero_le hi.1
      obtain ⟨k', rfl⟩ := Int.eq_ofNat_of_zero_le hk.1
      go_enter Try.func26, Try.ntmps26
      go_wp2_with fail
      refine HC.out.mono ?_; rintro e w1 ⟨B, c', rfl, h1, h2⟩
      have H1 := Lib.hid h1
      have H2 := Lib.hid h2
      clear h1 h2
      go_wp2_with fail
      refine (HP1.out _ _ _).mono ?_; rintro e w2 ⟨rfl, rfl⟩
      go_wp2_with fail
      refine (HP2.out _ _ _).mono ?_; rintro e w2 ⟨rfl, rfl⟩
      obtain ⟨g, rfl⟩ := own_at H1.out (by omega)
      have CI := own_cells H1.out (k := i') (by omega)
      have CK := own_cells H1.out (k := k') (by omega)
      have hli : l[i']? = some l[i'] := List.getElem?_eq_getElem (by omega)
      have hlk : l[k']? = some l[k'] := List.getElem?_eq_getElem (by omega)
      generalize l[i'] = x at *
      generalize l[k'] = y at *
      obtain ⟨x1, x2⟩ := x
      obtain ⟨y1, y2⟩ := y
      obtain ⟨a0, a1, a2, a3⟩ := CI
      obtain ⟨c0, c1, c2, c3⟩ := CK
      simp only at a0 a1 c0 c1
      have hi' : i' < l.length := by omega
      have hk' : k' < l.length := by omega
      have HG := Lib.hid (show Gives (swapA l i' k') w (.returned (.slice (some ⟨g, 0, none⟩) l.length c')) _ from ⟨_, c', by rw [swapA_length], swap_ats l i' k' hi' hk' (x1, x2) (y1, y2) hli hlk H1.out, swap_below H1.out H2.out i' k' _ _ _ _⟩)
      clear H1 H2
      by_cases hik : i' = k'
      · subst hik
        rw [hlk] at hli
        cases hli
        go_wp2
        go_region
        go_wp2
        go_ret
        exact HG.out
      · go_wp2
        go_region
        go_wp2
        go_ret
        exact HG.out
    · have HP2 := Lib.hid (fun A c w => place_any l.length k A c w)
      rw [decide_eq_false hk] at HP2
      rw [show swapA l i k = l from if_neg (by omega)]
      go_enter Try.func26, Try.ntmps26
      go_wp2_with fail
      refine HC.out.mono ?_; rintro e w1 ⟨B, c', rfl, h1, h2⟩
      obtain ⟨_, _, e1, h3⟩ := Ats.of_own h1
      injection e1 with e1 _ e4
      subst e1 e4
      have HG := Lib.hid (show Gives l w (.returned (.slice B l.length c')) w1 from ⟨_, _, rfl, h3, h2⟩)
      clear h1 h2 h3
      go_wp2_with fail
      refine (HP1.out _ _ _).mono ?_; rintro e w2 ⟨rfl, rfl⟩
      go_wp2_with fail
      refine (HP2.out _ _ _).mono ?_; rintro e w2 ⟨rfl, rfl⟩
      go_wp2_with fail
      go_ret
      exact HG.out
  · have HP1 := Lib.hid (fun A c w => place_any l.length i A c w)
    rw [decide_eq_false hi] at HP1
    rw [show swapA l i k = l from if_neg (by omega)]
    go_enter Try.func26, Try.ntmps26
    go_wp2_with fail
    refine HC.out.mono ?_; rintro e w1 ⟨B, c', rfl, h1, h2⟩
    obtain ⟨_, _, e1, h3⟩ := Ats.of_own h1
    injection e1 with e1 _ e4
    subst e1 e4
    have HG := Lib.hid (show Gives l w (.returned (.slice B l.length c')) w1 from ⟨_, _, rfl, h3, h2⟩)
    clear h1 h2 h3
    go_wp2_with fail
    refine (HP1.out _ _ _).mono ?_; rintro e w2 ⟨rfl, rfl⟩
    go_wp2_with fail
    go_ret
    exact HG.out

end Att
end Go.Proofs.Ytjocabnhdifedaa
