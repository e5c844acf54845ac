/-
  What attr.All, Find and Count, and the document's answers beside them, answer of any attributes.
-/
import Derived.Test.YtaeeonohakkgbaaDoorAttB
namespace Go.Proofs.YtaeeonohakkgbaaDoor
open Go.RowKit
namespace Att
open Oct

theorem tx_form {w : World} {base n : Nat} {e : TypeId} {v : Value} {xs : List Value} (h : w.ownsRow base e 1 v n xs) : ∃ B c, v = .slice B n c := by
  rcases h.2 with ⟨rfl, rfl⟩ | ⟨g, cap, cur, rfl, _⟩
  · exact ⟨_, _, rfl⟩
  · exact ⟨_, _, rfl⟩

theorem tx_next {w : World} {base : Nat} {v : Value} {o : List ByteArray} {x : ByteArray} {e : TypeId} (h : w.ownsRow base e 1 v (o.length + 1) (o.map Value.string ++ [.string x])) : ∃ B c, v = .slice B (o ++ [x]).length c ∧ w.ownsRow base e 1 (.slice B (o ++ [x]).length c) (o ++ [x]).length ((o ++ [x]).map Value.string) := by
  obtain ⟨B, c, rfl⟩ := tx_form h
  refine ⟨B, c, by simp, ?_⟩
  simpa using h

theorem one_behind (w : World) (o : Obj) (v : Value) (t : TypeId) (n : Nat) (h : n = w.heap.size + 1 := by rfl) : ∀ j u, [v][j]? = some u → ((w.alloc o).alloc (Obj.cells #[v] t)).cell? (Addr.add ⟨n, 0, none⟩ j) = some u := by
  subst h
  have e := cell_one_new (w.alloc o) v t
  rwa [World.size_alloc] at e

set_option maxRecDepth 20000 in
set_option maxHeartbeats 2000000 in
theorem values_any (l : List At) (hl : l.length ≤ 1000) (kind : Int) (A : Option Addr) (c : Nat) (w : World) (hA : Ats w A l) :
    Calls Tryd.prog 55 #[.int .i64 kind, .slice A l.length c] w (GivesT (allV l kind) w) := by
  obtain ⟨i0, hi, hz0, hz1, hz2⟩ := info_parts info_tx
  have HA := Lib.hid hA
  clear hA
  go_enter Tryd.func55, Tryd.ntmps55
  go_wp2
  have BX := Lib.hid (Bx.box_below w (Obj.cells #[] 9))
  have HO := Lib.hid (World.ownsRow_made (e := 9) (size := 1) w #[] 0 (Nat.le_refl _) (Nat.zero_le _) (by simp))
  go_loopw [5, 7, 11] (fun v _ ix wr => ∃ (k : Nat) (B : Option Addr) (c : Nat) (o : List ByteArray), k ≤ l.length ∧ ix = .int .i64 k ∧ v = .slice B o.length c ∧ o.length ≤ k ∧ Aside (allV (l.take k) kind = o) ∧
    Aside (wr.ownsRow w.heap.size 9 1 (.slice B o.length c) o.length (o.map Value.string)) ∧ Aside (Below w.heap.size w wr)) (fun _ _ ix _ => l.length - (intOf ix).toNat)
  case atStart => exact ⟨0, some ⟨w.heap.size, 0, none⟩, 0, [], Nat.zero_le _, rfl, rfl, Nat.le_refl _, rfl, HO.out, BX.out⟩
  case round =>
    obtain ⟨k, B, c, o, hk, rfl, rfl, ho, HO, HW, HB⟩ := hrel
    by_cases hlt : k < l.length
    · obtain ⟨b, q, rfl, _, c0, c1⟩ := (HA.out.below HB.out).at hlt
      have HN := Lib.hid (allV_take l k hlt kind)
      rw [HO.out] at HN
      generalize l[k] = x at *
      obtain ⟨x1, x2⟩ := x
      simp only at c0 c1 HN
      have BX := Lib.hid (Bx.bel_box HB.out (Obj.cells #[.int .i64 x1, .string x2] 39))
      have HW1 := Lib.hid (HW.out.alloc (Obj.cells #[.int .i64 x1, .string x2] 39))
      by_cases h1 : x1 = kind
      · have HN2 := Lib.hid (HN.out.trans (if_pos h1))
        clear HN
        replace h1 := h1.symm
        subst h1
        go_wp2_with (at_builtin; refine wpList_append_own _ rfl _ _ 47 rfl w.heap.size 9 i0 (.string ⟨#[]⟩) 1 16 Tryd.underlying47 hi hz0 hz1 hz2 rfl (by decide) _ _ _ rfl (HW1.out.alloc _) ⟨_, 0, none⟩ 1 1 [.string x2] rfl rfl ?c1 ?c2 ?c3 ?c4 ?c5 ?_)
        case c1 => exact one_behind _ _ _ _ _
        case c2 => intro u hu; simp at hu; subst hu; rfl
        case c3 => unfold maxLen; omega
        case c4 => omega
        case c5 => have := HB.out.size; simp; omega
        intro v' w5 hown' hgrow _
        have hrow := (HW.out).lt
        have bel := (Bx.bel_box BX.out (Obj.cells #[.string x2] 9)).grown hgrow (by have := HB.out.size; simp; omega) (fun q hq => (hrow q hq).1)
        obtain ⟨B', c', rfl, hW'⟩ := tx_next hown'
        have HW2 := Lib.hid hW'
        have HBL := Lib.hid bel
        clear hown' hgrow hrow hW' bel
        go_wp2
        go_roundw
        case rel => exact ⟨k + 1, B', c', o ++ [x2], by omega, by go_num, rfl, by simp; omega, HN2.out, HW2.out, HBL.out⟩
        case measure => simp [intOf]; omega
      · have HN2 := Lib.hid (HN.out.trans (if_neg h1))
        clear HN
        go_wp2
        go_roundw
        case rel => exact ⟨k + 1, B, c, o, by omega, by go_num, rfl, by omega, HN2.out, HW1.out, BX.out⟩
        case measure => simp [intOf]; omega
    · obtain rfl : allV l kind = o := by have h8 := HO.out; rw [List.take_of_length_le (by omega)] at h8; exact h8
      obtain ⟨A', c', e1, e2, e3⟩ := Txs.of_own HW.out
      injection e1 with e1 _ e4
      subst e1 e4
      have HG := Lib.hid (show GivesT (allV l kind) w (.returned (.slice B (allV l kind).length c)) wr from ⟨_, _, rfl, e2, e3, HB.out⟩)
      clear e2 e3
      go_wp2
      go_ret
      exact HG.out

set_option maxRecDepth 20000 in
theorem all_any (l : List At) (hl : l.length ≤ 1000) (kind : Int) (A : Option Addr) (c : Nat) (w : World) (hA : Ats w A l) :
    Calls Tryd.prog 36 #[.slice A l.length c, .int .i64 kind] w (GivesT (allV l kind) w) := by
  have HL := Lib.hid (fun w hA => values_any l hl kind A c w hA)
  generalize allV l kind = r at *
  go_enter Tryd.func36, Tryd.ntmps36
  go_wp2_with fail
  refine (HL.out _ hA).mono ?_; rintro e w1 ⟨B, c', rfl, h1, h2, h3⟩
  go_wp2_with fail
  go_ret
  exact ⟨B, c', rfl, h1, h2, h3⟩

set_option maxRecDepth 20000 in
theorem count_any (l : List At) (hl : l.length ≤ 1000) (kind : Int) (A : Option Addr) (c : Nat) (w : World) (hA : Ats w A l) :
    Calls Tryd.prog 41 #[.slice A l.length c, .int .i64 kind] w fun e w' => e = .returned (.int .i64 ((allV l kind).length : Nat)) ∧ Below w.heap.size w w' := by
  have HL := Lib.hid (fun w hA => all_any l hl kind A c w hA)
  have hr := allV_length l kind
  generalize allV l kind = r at *
  go_enter Tryd.func41, Tryd.ntmps41
  go_wp2_with fail
  refine (HL.out _ hA).mono ?_; rintro e w1 ⟨B, c', rfl, h1, h2, h3⟩
  go_wp2_with fail
  go_ret
  exact ⟨rfl, h3⟩

set_option maxRecDepth 20000 in
set_option maxHeartbeats 2000000 in
theorem rall_any (l : List At) (hl : l.length ≤ 1000) (kind : Int) (A : Option Addr) (c : Nat) (w : World) (hA : Ats w A l) :
    Calls Tryd.prog 39 #[.slice A l.length c, .int .i64 kind] w (GivesT (allV l kind) w) := by
  obtain ⟨i0, hi, hz0, hz1, hz2⟩ := info_parts info_tx
  have HA := Lib.hid hA
  clear hA
  go_enter Tryd.func39, Tryd.ntmps39
  go_wp2
  go_loopw [5, 7, 10] (fun v _ ix wr => ∃ (k : Nat) (B : Option Addr) (c : Nat) (o : List ByteArray), k ≤ l.length ∧ ix = .int .i64 k ∧ v = .slice B o.length c ∧ o.length ≤ k ∧ Aside (allV (l.take k) kind = o) ∧
    Aside (wr.ownsRow w.heap.size 9 1 (.slice B o.length c) o.length (o.map Value.string)) ∧ Aside (Below w.heap.size w wr)) (fun _ _ ix _ => l.length - (intOf ix).toNat)
  case atStart => exact ⟨0, none, 0, [], Nat.zero_le _, rfl, rfl, Nat.le_refl _, rfl, World.ownsRow_nil _ _ _ _, Below.refl _ _⟩
  case round =>
    obtain ⟨k, B, c, o, hk, rfl, rfl, ho, HO, HW, HB⟩ := hrel
    by_cases hlt : k < l.length
    · obtain ⟨b, q, rfl, _, c0, c1⟩ := (HA.out.below HB.out).at hlt
      have HN := Lib.hid (allV_take l k hlt kind)
      rw [HO.out] at HN
      generalize l[k] = x at *
      obtain ⟨x1, x2⟩ := x
      simp only at c0 c1 HN
      have BX := Lib.hid (Bx.bel_box HB.out (Obj.cells #[.int .i64 x1, .string x2] 39))
      have HW1 := Lib.hid (HW.out.alloc (Obj.cells #[.int .i64 x1, .string x2] 39))
      by_cases h1 : x1 = kind
      · have HN2 := Lib.hid (HN.out.trans (if_pos h1))
        clear HN
        replace h1 := h1.symm
        subst h1
        go_wp2_with (at_builtin; refine wpList_append_own _ rfl _ _ 47 rfl w.heap.size 9 i0 (.string ⟨#[]⟩) 1 16 Tryd.underlying47 hi hz0 hz1 hz2 rfl (by decide) _ _ _ rfl (HW1.out.alloc _) ⟨_, 0, none⟩ 1 1 [.string x2] rfl rfl ?c1 ?c2 ?c3 ?c4 ?c5 ?_)
        case c1 => exact one_behind _ _ _ _ _
        case c2 => intro u hu; simp at hu; subst hu; rfl
        case c3 => unfold maxLen; omega
        case c4 => omega
        case c5 => have := HB.out.size; simp; omega
        intro v' w5 hown' hgrow _
        have hrow := (HW.out).lt
        have bel := (Bx.bel_box BX.out (Obj.cells #[.string x2] 9)).grown hgrow (by have := HB.out.size; simp; omega) (fun q hq => (hrow q hq).1)
        obtain ⟨B', c', rfl, hW'⟩ := tx_next hown'
        have HW2 := Lib.hid hW'
        have HBL := Lib.hid bel
        clear hown' hgrow hrow hW' bel
        go_wp2
        go_roundw
        case rel => exact ⟨k + 1, B', c', o ++ [x2], by omega, by go_num, rfl, by simp; omega, HN2.out, HW2.out, HBL.out⟩
        case measure => simp [intOf]; omega
      · have HN2 := Lib.hid (HN.out.trans (if_neg h1))
        clear HN
        go_wp2
        go_roundw
        case rel => exact ⟨k + 1, B, c, o, by omega, by go_num, rfl, by omega, HN2.out, HW1.out, BX.out⟩
        case measure => simp [intOf]; omega
    · obtain rfl : allV l kind = o := by have h8 := HO.out; rw [List.take_of_length_le (by omega)] at h8; exact h8
      obtain ⟨A', c', e1, e2, e3⟩ := Txs.of_own HW.out
      injection e1 with e1 _ e4
      subst e1 e4
      have HG := Lib.hid (show GivesT (allV l kind) w (.returned (.slice B (allV l kind).length c)) wr from ⟨_, _, rfl, e2, e3, HB.out⟩)
      clear e2 e3
      go_wp2
      go_ret
      exact HG.out

theorem findV_next (l : List At) (k : Nat) (h : k < l.length) (kind : Int) : findV (l.drop k) kind = if l[k].1 = kind then (l[k].2, true) else findV (l.drop (k + 1)) kind := by
  rw [List.drop_eq_getElem_cons h]
  unfold findV allV
  by_cases h1 : l[k].1 = kind
  · rw [if_pos h1, List.filter_cons_of_pos (by simp [h1])]; rfl
  · rw [if_neg h1, List.filter_cons_of_neg (by simp [h1])]

end Att
end Go.Proofs.YtaeeonohakkgbaaDoor
