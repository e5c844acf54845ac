/-
  The statement AttrSwaps: for every slice of attributes and every three numbers the law AttrSwaps returns true, and its arguments read afterwards as they read before.
-/
import Derived.Test.YtjocabnhdifedaaAttN
import Derived.Test.YtjocabnhdifedaaAttSwapsA
import Derived.Test.YtjocabnhdifedaaAttOpen
import Derived.Test.YtjocabnhdifedaaOpenArr
import Derived.Test.YtjocabnhdifedaaRows
namespace Go.Proofs.Ytjocabnhdifedaa
open Go.RowKit
namespace Att
open Oct

/-- What stays of two slices while calls make memory. -/
def Two (w0 : World) (A B : Option Addr) (l s : List At) (w : World) : Prop := Ats w A l ∧ Ats w B s ∧ Below w0.heap.size w0 w

theorem Two.below {w0 w w' : World} {A B : Option Addr} {l s : List At} (h : Two w0 A B l s w) (hb : Below w.heap.size w w') : Two w0 A B l s w' := ⟨h.1.below hb, h.2.1.below hb, Bx.then_below h.2.2 hb⟩

theorem open_three {H : Type} {enc : TypeId × Value → H} {W : World} {base b0 : Nat} {spare : Nat → Bool} {held : Bool} {r : Reach} {v : Value} {d : DataW H} {p : List MemPlace}
    (hv : Value.okWide Try.prog W r b0 43 v) (h : DataW.Trod enc Try.prog W base spare held 43 v d p) : ∃ i k n : Int, v = .agg #[.int .i64 i, .int .i64 k, .int .i64 n] := by
  obtain ⟨zs, rfl, hz, _⟩ := Fr.open_arr Try.underlying43 Try.underlying3 (by kernel_rfl) (by kernel_rfl) hv h
  obtain ⟨a, b, c, rfl⟩ := Fr.three hz
  exact ⟨a, b, c, rfl⟩

set_option maxHeartbeats 1000000 in
theorem swaps_long (l : List At) (hl : l.length ≤ maxLen) (A : Option Addr) (c : Nat) (i k n : Int) (w : World) (hA : Ats w A l) (hb : longB 0 0 l = true) :
    Calls Try.prog 6 #[.slice A l.length c, .agg #[.int .i64 i, .int .i64 k, .int .i64 n]] w fun e w' => e = .returned (.bool true) ∧ Below w.heap.size w w' := by
  have B0 := Lib.hid (Bx.box_below w (Obj.cells #[.int .i64 i, .int .i64 k, .int .i64 n] 43))
  have HG := Lib.hid (guard_any l hl A c _ (hA.below B0.out))
  rw [hb] at HG
  go_enter Try.func6, Try.ntmps6
  go_wp2_with fail
  refine HG.out.mono ?_; rintro e w1 ⟨rfl, hb1⟩
  have B1 := Lib.hid (Bx.then_below B0.out hb1)
  go_wp2_with fail
  refine (awake_any _).mono ?_; rintro e w2 ⟨rfl, hb2⟩
  have B2 := Lib.hid (Bx.then_below B1.out hb2)
  go_wp2_with fail
  go_ret
  exact ⟨rfl, B2.out⟩

set_option maxHeartbeats 4000000 in
theorem swaps_main (l s : List At) (N : Nat) (G E : Int) (T : ByteArray) (A : Option Addr) (c : Nat) (i k n : Int) (w : World) (hA : Ats w A l) (hT : (E = 0 ∧ (T.size : Int) = G) ∨ (E ≠ 0))
    (HG : Hid (∀ w, Ats w A l → Calls Try.prog 8 #[.slice A l.length c] w fun e w' => e = .returned (.bool false) ∧ Below w.heap.size w w'))
    (HSW : Hid (∀ w, Ats w A l → Calls Try.prog 26 #[.slice A l.length c, .int .i64 i, .int .i64 k] w (Gives s w)))
    (HRS : Hid (∀ w0 B w, Two w0 A B l s w → Calls Try.prog 27 #[.slice A l.length c, .int .i64 i, .int .i64 k] w (Gives s w)))
    (HRE : Hid (∀ w0 B d C f w, Two w0 A B l s w → Ats w C s → Calls Try.prog 18 #[.slice B s.length d, .slice C s.length f] w fun e w' => e = .returned (.bool true) ∧ Below w.heap.size w w'))
    (HC1 : Hid (∀ w0 B w, Two w0 A B l s w → Calls Try.prog 28 #[.slice A l.length c, .int .i64 n] w fun e w' => e = .returned (.int .i64 N) ∧ Below w.heap.size w w'))
    (HC2 : Hid (∀ w0 B w, Two w0 A B l s w → Calls Try.prog 29 #[.slice A l.length c, .int .i64 n] w fun e w' => e = .returned (.int .i64 N) ∧ Below w.heap.size w w'))
    (HC3 : Hid (∀ w0 B d w, Two w0 A B l s w → Calls Try.prog 28 #[.slice B s.length d, .int .i64 n] w fun e w' => e = .returned (.int .i64 N) ∧ Below w.heap.size w w'))
    (HL1 : Hid (∀ w, Ats w A l → Calls Try.prog 30 #[.slice A l.length c] w fun e w' => e = .returned (.int .i64 G) ∧ Below w.heap.size w w'))
    (HL3 : Hid (∀ w0 B w, Two w0 A B l s w → Calls Try.prog 30 #[.slice A l.length c] w fun e w' => e = .returned (.int .i64 G) ∧ Below w.heap.size w w'))
    (HL2 : Hid (∀ w0 B d w, Two w0 A B l s w → Calls Try.prog 30 #[.slice B s.length d] w fun e w' => e = .returned (.int .i64 G) ∧ Below w.heap.size w w'))
    (HL4 : Hid (∀ w, Ats w A l → Calls Try.prog 31 #[.slice A l.length c] w fun e w' => e = .returned (.int .i64 G) ∧ Below w.heap.size w w'))
    (HS2 : Hid (∀ w0 B d w, Two w0 A B l s w → Calls Try.prog 26 #[.slice B s.length d, .int .i64 i, .int .i64 k] w (Gives l w)))
    (HSA : Hid (∀ w0 B C f w, Two w0 A B l s w → Ats w C l → Calls Try.prog 23 #[.slice C l.length f, .slice A l.length c] w fun e w' => e = .returned (.bool true) ∧ Below w.heap.size w w'))
    (HBY : Hid (∀ w, Ats w A l → Calls Try.prog 10 #[.slice A l.length c] w fun e w' => e = .returned (.tuple #[.string T, .int .i64 E]) ∧ Below w.heap.size w w')) :
    Calls Try.prog 6 #[.slice A l.length c, .agg #[.int .i64 i, .int .i64 k, .int .i64 n]] w fun e w' => e = .returned (.bool true) ∧ Below w.heap.size w w' := by
  have B0 := Lib.hid (Bx.box_below w (Obj.cells #[.int .i64 i, .int .i64 k, .int .i64 n] 43))
  have K0 := Lib.hid (Bx.Blk.new w [.int .i64 i, .int .i64 k, .int .i64 n] 43)
  have A0 := Lib.hid (hA.below B0.out)
  have HT := Lib.hid hT
  clear hA hT
  go_enter Try.func6, Try.ntmps6
  go_wp2_with fail
  refine (HG.out _ A0.out).mono ?_; rintro e w1 ⟨rfl, hb1⟩
  have B1 := Lib.hid (Bx.then_below B0.out hb1)
  have A1 := Lib.hid (A0.out.below hb1)
  have K1 := Lib.hid (K0.out.keep hb1)
  clear hb1 B0 A0 K0 HG
  have d0 := K1.out.at 0 rfl
  have d1 := K1.out.at 1 rfl
  go_wp2_with fail
  refine (HSW.out _ A1.out).mono ?_; rintro e w2 ⟨B, d, rfl, hs2, hb2⟩
  have K2 := Lib.hid (K1.out.keep hb2)
  have H2 : Two w A B l s w2 := ⟨A1.out.below hb2, hs2, Bx.then_below B1.out hb2⟩
  have H2d : Two w A B l s w2.drew := ⟨(A1.out.below hb2).drew, hs2.drew, (Bx.then_below B1.out hb2).drew⟩
  clear hb2 B1 A1 hs2 d0 d1 K1 HSW
  have c0 := K2.out.at 0 rfl
  have c1 := K2.out.at 1 rfl
  have c2 := K2.out.at 2 rfl
  generalize w.heap.size = m at *
  go_wp2_with fail
  go_region_held3 (fun w' => w'.cell? ⟨m, 0, none⟩ = some (.int .i64 i) ∧ w'.cell? ⟨m, 1, none⟩ = some (.int .i64 k) ∧ w'.cell? ⟨m, 2, none⟩ = some (.int .i64 n) ∧ Two w A B l s w')
    (first | exact ⟨c0, c1, c2, H2⟩ | exact ⟨c0, c1, c2, H2d⟩ | (go_split_ands; exact ⟨Bx.keep_cell (by assumption) (by assumption), Bx.keep_cell (by assumption) (by assumption), Bx.keep_cell (by assumption) (by assumption), Two.below (by assumption) (by assumption)⟩))
    (first | (go_at_call 27; (with_reducible refine (HRS.out _ _ _ (by apply And.right; apply And.right; apply And.right; assumption)).mono ?_); rintro e w3 ⟨C, f, rfl, hc3, hb3⟩) | (go_at_call 18; (with_reducible refine (HRE.out _ _ _ _ _ _ (by apply And.right; apply And.right; apply And.right; assumption) (by assumption)).mono ?_); rintro e w4 ⟨rfl, hb4⟩) | (go_at_call 28; (with_reducible refine (HC1.out _ _ _ (by apply And.right; apply And.right; apply And.right; assumption)).mono ?_); rintro e w5 ⟨rfl, hb5⟩) | (go_at_call 29; (with_reducible refine (HC2.out _ _ _ (by apply And.right; apply And.right; apply And.right; assumption)).mono ?_); rintro e w6 ⟨rfl, hb6⟩) | (go_at_call 28; (with_reducible refine (HC3.out _ _ _ _ (by apply And.right; apply And.right; apply And.right; assumption)).mono ?_); rintro e w7 ⟨rfl, hb7⟩) | (go_at_call 30; (with_reducible refine (HL3.out _ _ _ (by apply And.right; apply And.right; apply And.right; assumption)).mono ?_); rintro e w8 ⟨rfl, hb8⟩) | (go_at_call 30; (with_reducible refine (HL2.out _ _ _ _ (by apply And.right; apply And.right; apply And.right; assumption)).mono ?_); rintro e w9 ⟨rfl, hb9⟩) | (go_at_call 26; (with_reducible refine (HS2.out _ _ _ _ (by apply And.right; apply And.right; apply And.right; assumption)).mono ?_); rintro e w10 ⟨D, g, rfl, hc10, hb10⟩) | (go_at_call 23; (with_reducible refine (HSA.out _ _ _ _ _ (by apply And.right; apply And.right; apply And.right; assumption) (by assumption)).mono ?_); rintro e w11 ⟨rfl, hb11⟩))
  have HK : Hid (Two w A B l s w11) := Lib.hid (by apply And.right; apply And.right; apply And.right; assumption)
  have A11 := Lib.hid HK.out.1
  have B11 := Lib.hid HK.out.2.2
  clear hb3 hb4 hb5 hb6 hb7 hb8 hb9 hb10 hb11 hc3 hc10 H2 H2d c0 c1 c2 HRS HRE HC1 HC2 HC3 HL2 HL3 HS2 HSA K2 HK
  go_wp2_with fail
  refine (HBY.out _ A11.out).mono ?_; rintro e w12 ⟨rfl, hb12⟩
  have A12 := Lib.hid (A11.out.below hb12)
  have B12 := Lib.hid (Bx.then_below B11.out hb12)
  clear hb12 A11 B11
  go_wp2_with fail
  refine (HL1.out _ A12.out).mono ?_; rintro e w13 ⟨rfl, hb13⟩
  have A13 := Lib.hid (A12.out.below hb13)
  have B13 := Lib.hid (Bx.then_below B12.out hb13)
  clear hb13 A12 B12
  go_wp2_with fail
  refine (HL4.out _ A13.out).mono ?_; rintro e w14 ⟨rfl, hb14⟩
  have A14 := Lib.hid (A13.out.below hb14)
  have B14 := Lib.hid (Bx.then_below B13.out hb14)
  clear hb14 A13 B13
  rcases HT.out with ⟨rfl, rfl⟩ | hE
  · go_wp2_with fail
    refine (HL1.out _ A14.out).mono ?_; rintro e w15 ⟨rfl, hb15⟩
    have B15 := Lib.hid (Bx.then_below B14.out hb15)
    go_wp2_with fail
    refine (awake_any _).mono ?_; rintro e w16 ⟨rfl, hb16⟩
    have B16 := Lib.hid (Bx.then_below B15.out hb16)
    go_wp2_with fail
    go_ret
    exact ⟨rfl, B16.out⟩
  · have hE1 : (E == 0) = false := by simp [hE]
    go_wp2_with fail
    refine (awake_any _).mono ?_; rintro e w16 ⟨rfl, hb16⟩
    have B16 := Lib.hid (Bx.then_below B14.out hb16)
    go_wp2_with fail
    go_ret
    exact ⟨rfl, B16.out⟩

theorem walk_swaps (w : World) (l : List At) (hl : l.length ≤ maxLen) (A : Option Addr) (c : Nat) (hA : Ats w A l) (i k n : Int) :
    Calls Try.prog 6 #[.slice A l.length c, .agg #[.int .i64 i, .int .i64 k, .int .i64 n]] w fun e w' => e = .returned (.bool true) ∧ Below w.heap.size w w' := by
  cases hb : longB 0 0 l with
  | true => exact swaps_long l hl A c i k n w hA hb
  | false =>
    have h81 := longB_le l 0 0 hb (by omega)
    have hl2 : l.length ≤ 1000 := by omega
    have hs2 : (swapA l i k).length ≤ 1000 := by rw [swapA_length]; exact hl2
    have hsm : (swapA l i k).length ≤ maxLen := by rw [swapA_length]; exact hl
    refine swaps_main l (swapA l i k) (allV l n).length (lgA l) (bytesE l) (bytesT l) A c i k n w hA ?_ ?_ ?_ ?_ ?_ ?_ ?_ ?_ ?_ ?_ ?_ ?_ ?_ ?_ ?_
    · by_cases h : bytesE l = 0
      · exact .inl ⟨h, bytes_long l h⟩
      · exact .inr h
    · refine Lib.hid (fun w h => ?_)
      have e := guard_any l hl A c w h
      rwa [hb] at e
    · exact Lib.hid (fun w h => swap_any l hl2 i k A c w h)
    · exact Lib.hid (fun w0 B w h => rswap_any l hl2 i k A c w h.1)
    · refine Lib.hid (fun w0 B d C f w h h2 => ?_)
      have e := rsame_any _ _ hsm hsm B C d f w h.2.1 h2
      rw [decide_eq_true rfl] at e
      exact e.mono fun _ _ ⟨h1, q, h3⟩ => ⟨h1, by subst h3; exact drew_below _ _⟩
    · exact Lib.hid (fun w0 B w h => count_any l hl2 n A c w h.1)
    · exact Lib.hid (fun w0 B w h => rcount_any l hl2 n A c w h.1)
    · refine Lib.hid (fun w0 B d w h => ?_)
      have e := count_any (swapA l i k) hs2 n B d w h.2.1
      rwa [count_swap] at e
    · exact Lib.hid (fun w h => long_any l hl A c w h)
    · exact Lib.hid (fun w0 B w h => long_any l hl A c w h.1)
    · refine Lib.hid (fun w0 B d w h => ?_)
      have e := long_any (swapA l i k) hsm B d w h.2.1
      rwa [lgA_swap] at e
    · exact Lib.hid (fun w h => rlong_any l hl A c w h)
    · refine Lib.hid (fun w0 B d w h => ?_)
      have e := swap_any (swapA l i k) hs2 i k B d w h.2.1
      rwa [swapA_twice] at e
    · refine Lib.hid (fun w0 B C f w h h2 => ?_)
      have e := same_any l l hl hl C A f c w h2 h.1
      rw [decide_eq_true rfl] at e
      exact e.mono fun _ _ ⟨h1, q, h3⟩ => ⟨h1, by subst h3; exact drew_below _ _⟩
    · exact Lib.hid (fun w h => bytes_any l hl A c w h)

end Att
namespace LawAttrSwaps
open Go.ChangeShapes Go.WideShapes Go.ChangeAt Go.RowKit
open Go.ChangeMaps (open_string shut_string)

theorem own : ownKnob Try.prog.godebug = none := by kernel_rfl
theorem laidOut : laidOutB Try.prog = true := by kernel_rfl

set_option maxRecDepth 100000 in
theorem lifted (os : Os) (started : os.Started) (H : Type) (enc : TypeId × Value → H) :
    ReturnsInHanded {} Try.checked os 6 .any (Rows.attrSwapsSpec.pre6 enc Try.prog Try.f6 Rows.attrSwapsRow.domain false) (Rows.attrSwapsSpec.post enc Try.prog Try.f6 false true false false) := by
  refine Fr.law_lift (C := Try.checked) (tb := 4) own started (by kernel_rfl) Try.func6
    (ChangeSpec.witness6 (enc := enc) (C := Try.checked) false ⟨#[], #[.slice none 0 0, .agg #[.int .i64 0, .int .i64 0, .int .i64 0]], []⟩ 8 (by kernel_rfl) (by kernel_rfl) (by kernel_rfl) (by kernel_rfl))
    laidOut (by rw [Try.params6]; decide +kernel) rfl Try.underlying4 rfl ?_ ?_
  · intro ds hl
    match ds, hl with
    | [d0, d1], _ => rfl
  · intro W base args ds p hval hA
    rw [Try.params6] at hA hval
    obtain ⟨v0, vs0, d0, ds0, p0, q0, hargs, rfl, rfl, h0, r0⟩ := trodAll_cons hA
    obtain ⟨v1, vs1, d1, ds1, p1, q1, rfl, rfl, rfl, h1, r1⟩ := trodAll_cons r0
    obtain ⟨rfl, rfl, rfl⟩ := trodAll_nil r1
    obtain rfl : args = #[v0, v1] := by cases args; simp_all
    obtain ⟨A0, l0, c0, rfl, hl0, hA0, _⟩ := Att.open_ats (hval 0 22 v0 rfl rfl) h0
    obtain ⟨i1, k1, n1, rfl⟩ := Att.open_three (hval 1 43 v1 rfl rfl) h1
    exact Att.walk_swaps W l0 hl0 A0 c0 hA0 i1 k1 n1

theorem over : Rows.attrSwapsRow.holds Try.pinned (OpenSpec.ofChange Rows.attrSwapsSpec) :=
  OpenClaim.holds_of_wide 6 Try.f6 rfl rfl rfl rfl rfl rfl rfl ⟨rfl, rfl, rfl, rfl, rfl⟩ rfl rfl rfl rfl rfl (by kernel_rfl) Try.func6 (by kernel_rfl)
    (of_decide_eq_true (by kernel_rfl)) (by unfold Func.isWrapper; first | (rw [if_pos (by decide +kernel)]; kernel_rfl) | (rw [if_neg (by decide +kernel)]; exact ⟨rfl, rfl⟩))
    (fun os started H enc _ => lifted os started H enc)
end LawAttrSwaps

/-- The statement AttrSwaps. -/
theorem attrSwaps_holds : Rows.AttrSwapsSaid := LawAttrSwaps.over

end Go.Proofs.Ytjocabnhdifedaa
