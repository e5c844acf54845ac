/-
  What eap.wish, and the loop of the document's Refuse beside it, make of kinds.
-/
import Derived.Test.YtmgjjcadeikdgaaEapF
namespace Go.Proofs.Ytmgjjcadeikdgaa
open Go.RowKit
namespace Eap
open Oct Mac Eth Epl

theorem own_form {w : World} {base n : Nat} {e : TypeId} {v : Value} {xs : List Value} (h : w.ownsRow base e 1 v n xs) : ∃ B c, v = .slice B n c := by
  rcases h.2 with ⟨rfl, rfl⟩ | ⟨g, cap, cur, rfl, _⟩
  · exact ⟨none, 0, rfl⟩
  · exact ⟨_, _, rfl⟩

theorem own_some {w : World} {base n c : Nat} {e : TypeId} {B : Option Addr} {xs : List Value} (h : w.ownsRow base e 1 (.slice B n c) n xs) (h0 : n ≠ 0) : ∃ g, B = some ⟨g, 0, none⟩ := by
  rcases h.2 with ⟨_, h1⟩ | ⟨g, cap, cur, h1, _⟩
  · exact absurd h1 h0
  · injection h1 with h1 _ _
    exact ⟨g, h1⟩

theorem take_next (l : List Int) (k : Nat) (h : k < l.length) : l.take (k + 1) = l.take k ++ [l[k]] := List.take_succ_eq_append_getElem h

theorem wish_hit (l : List Int) (k : Nat) (h : k < l.length) (o : List UInt8) (ho : wishL (l.take k) [] = o) (h1 : 4 ≤ l[k] ∧ l[k] ≤ 255) (h2 : o.length < 250) : wishL (l.take (k + 1)) [] = o ++ [byteOf l[k]] := by
  rw [take_next l k h, wishL_snoc, ho, if_pos ⟨by unfold tells; exact decide_eq_true h1, h2⟩]

theorem wish_miss (l : List Int) (k : Nat) (h : k < l.length) (o : List UInt8) (ho : wishL (l.take k) [] = o) (h1 : ¬ ((4 ≤ l[k] ∧ l[k] ≤ 255) ∧ o.length < 250)) : wishL (l.take (k + 1)) [] = o := by
  rw [take_next l k h, wishL_snoc, ho, if_neg]
  rintro ⟨h3, h4⟩
  unfold tells at h3
  exact h1 ⟨of_decide_eq_true h3, h4⟩

theorem byte_val (x : Int) (h1 : 4 ≤ x) (h2 : x ≤ 255) : Value.int .u8 ((byteOf x).toNat : Int) = .int .u8 x := by
  congr 1
  unfold byteOf
  simp
  omega

set_option maxRecDepth 100000 in
set_option maxHeartbeats 1000000 in
theorem wish_any (A : Option Addr) (l : List Int) (cap : Nat) (w : World) (hl : l.length ≤ 9223372036854775807) (h : Hid (Bx.Ints w A l)) :
    Calls Try.prog 37 #[.slice A l.length cap] w fun e w' => e = .returned (.string (wishD l)) ∧ Below w.heap.size w w' := by
  obtain ⟨i0, hi, hz0, hz1, hz2⟩ := info_parts info5
  obtain ⟨r, hr⟩ : ∃ r, wishD l = r := ⟨_, rfl⟩
  rw [hr]
  have HR := Lib.hid hr
  clear hr
  go_enter Try.func37, Try.ntmps37
  go_wp2
  go_loopw [3, 5, 8] (fun v _ i wr => ∃ (k : Nat) (B : Option Addr) (c : Nat) (o : List UInt8), k ≤ l.length ∧ i = .int .i64 k ∧ v = .slice B o.length c ∧ o.length ≤ 250 ∧ Aside (wishL (l.take k) [] = o) ∧
    Aside (wr.ownsRow w.heap.size 5 1 (.slice B o.length c) o.length (bv o)) ∧ Below w.heap.size w wr) (fun _ _ i _ => l.length - (intOf i).toNat)
  case atStart => exact ⟨0, none, 0, [], Nat.zero_le _, rfl, rfl, Nat.zero_le _, rfl, World.ownsRow_nil _ _ _ _, Below.refl _ _⟩
  case round =>
    obtain ⟨k, B, c, o, hk, rfl, rfl, ho, HO, HW, hb⟩ := hrel
    by_cases hlt : k < l.length
    · obtain ⟨ad, rfl, hab, hc⟩ := (h.out.below hb).at hlt
      by_cases h1 : 4 ≤ l[k] ∧ l[k] ≤ 255
      · have w1 := Lib.hid (show decide (4 ≤ l[k] ∧ l[k] ≤ 255) = true from decide_eq_true h1)
        by_cases h2 : o.length < 250
        · have HN := Lib.hid (wish_hit l k hlt o HO.out h1 h2)
          have HV := Lib.hid (byte_val l[k] h1.1 h1.2)
          generalize l[k] = x at *
          obtain ⟨h1a, h1b⟩ := h1
          have hx0 : IntKind.u8.wrap x = x := IntWalk.u8_in _ (by omega)
          go_wp2_with fail
          refine (within_is _ _ _ true w1.out _).mono ?_; rintro e w' ⟨rfl, rfl⟩
          go_wp2_with (at_builtin; refine wpList_append_own _ rfl _ _ 47 rfl w.heap.size 5 i0 (.int .u8 0) 1 1 Try.underlying47 hi hz0 hz1 hz2 rfl (by decide) _ _ _ rfl (HW.out.alloc _) ⟨wr.heap.size, 0, none⟩ 1 1 [.int .u8 x] rfl rfl ?c1 ?c2 ?c3 ?c4 ?c5 ?_)
          case c1 => exact cell_one_new _ _ _
          case c2 => intro u hu; simp at hu; subst hu; rfl
          case c3 => unfold maxLen; omega
          case c4 => omega
          case c5 => have := hb.size; simp; omega
          intro v' w2 hown' hgrow _
          have hrow := (HW.out).lt
          have bel := (Bx.bel_box hb (Obj.cells #[.int .u8 x] 5)).grown hgrow (by have := hb.size; simp; omega) (fun q hq => (hrow q hq).1)
          obtain ⟨B', c', rfl⟩ := own_form hown'
          have HW2 := Lib.hid hown'
          clear hown' hgrow hrow
          go_wp2
          go_roundw
          case rel =>
            refine ⟨k + 1, B', c', o ++ [byteOf x], by omega, by go_num, by simp, by simp; omega, HN.out, ?_, bel⟩
            have := HW2.out
            rw [← HV.out] at this
            simpa [bv, Aside] using this
          case measure => simp [intOf]; omega
        · have HN := Lib.hid (wish_miss l k hlt o HO.out (fun h => h2 h.2))
          generalize l[k] = x at *
          go_wp2_with fail
          refine (within_is _ _ _ true w1.out _).mono ?_; rintro e w' ⟨rfl, rfl⟩
          go_wp2
          go_roundw
          case rel => exact ⟨k + 1, B, c, o, by omega, by go_num, rfl, ho, HN.out, HW.out, hb⟩
          case measure => simp [intOf]; omega
      · have w1 := Lib.hid (show decide (4 ≤ l[k] ∧ l[k] ≤ 255) = false from decide_eq_false h1)
        have HN := Lib.hid (wish_miss l k hlt o HO.out (fun h => h1 h.1))
        generalize l[k] = x at *
        go_wp2_with fail
        refine (within_is _ _ _ false w1.out _).mono ?_; rintro e w' ⟨rfl, rfl⟩
        go_wp2
        go_roundw
        case rel => exact ⟨k + 1, B, c, o, by omega, by go_num, rfl, ho, HN.out, HW.out, hb⟩
        case measure => simp [intOf]; omega
    · have hO := HO.out
      rw [List.take_of_length_le (by omega)] at hO
      have hR := HR.out
      unfold wishD at hR
      rw [hO] at hR
      by_cases h0 : o = []
      · subst h0
        rw [if_pos rfl] at hR
        have HR2 := Lib.hid hR
        clear hR hO HR HO
        go_wp2
        go_ret
        exact ⟨by rw [← HR2.out]; rfl, hb⟩
      · rw [if_neg h0] at hR
        have h1 : o.length ≠ 0 := fun h => h0 (List.eq_nil_of_length_eq_zero h)
        obtain ⟨g, rfl⟩ := own_some HW.out h1
        have hcv := conv_back HW.out
        have e1 : ((o.length : Int) == 0) = false := by simpa using h0
        have HR2 := Lib.hid hR
        clear hR hO HR HO h0
        go_wp2
        go_ret
        exact ⟨by rw [← HR2.out]; rfl, hb⟩

end Eap
end Go.Proofs.Ytmgjjcadeikdgaa
