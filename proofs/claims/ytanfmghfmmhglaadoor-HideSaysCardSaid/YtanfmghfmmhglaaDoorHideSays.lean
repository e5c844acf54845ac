/-
  The statement HideSays (a tied card): for every three texts the law HideSays returns true, and its arguments read afterwards as they read before.
-/
import Derived.Test.YtanfmghfmmhglaaDoorHidE
import Derived.Test.YtanfmghfmmhglaaDoorDigHome
import Derived.Test.YtanfmghfmmhglaaDoorCards
import Derived.Test.YtanfmghfmmhglaaDoorTie
import Derived.SevenTiedAt
import Derived.Test.YtanfmghfmmhglaaDoorHidD
namespace Go.Proofs.YtanfmghfmmhglaaDoor
open Go.RowKit
namespace Hd
open Oct Fr Dig

set_option maxHeartbeats 2000000 in
theorem walk_says (w : World) (a : ByteArray) (_wa : a.size ≤ maxLen) (b : ByteArray) (_wb : b.size ≤ maxLen) (c : ByteArray) (_wc : c.size ≤ maxLen) (hm : Home w) :
    Calls Tryd.prog 3 #[.string a, .string b, .string c] w fun e w' => e = .returned (.bool true) ∧ Below w.heap.size w w' := by
  by_cases ha : 500 < a.size
  · have q1 : decide (500 < (a.size : Int)) = true := by simp; omega
    have HM := Lib.hid hm
    clear hm
    go_enter Tryd.func3, Tryd.ntmps3
    go_wp2_with fail
    refine (awake_any _ HM.out).mono ?_; rintro e w1 ⟨rfl, hb1⟩
    go_wp2_with fail
    go_ret
    exact ⟨rfl, hb1⟩
  by_cases hb : 500 < b.size
  · have q1 : decide (500 < (a.size : Int)) = false := by simp; omega
    have q2 : decide (500 < (b.size : Int)) = true := by simp; omega
    have HM := Lib.hid hm
    clear hm
    go_enter Tryd.func3, Tryd.ntmps3
    go_wp2_with fail
    refine (awake_any _ HM.out).mono ?_; rintro e w1 ⟨rfl, hb1⟩
    go_wp2_with fail
    go_ret
    exact ⟨rfl, hb1⟩
  by_cases hc : 500 < c.size
  · have q1 : decide (500 < (a.size : Int)) = false := by simp; omega
    have q2 : decide (500 < (b.size : Int)) = false := by simp; omega
    have q3 : decide (500 < (c.size : Int)) = true := by simp; omega
    have HM := Lib.hid hm
    clear hm
    go_enter Tryd.func3, Tryd.ntmps3
    go_wp2_with fail
    refine (awake_any _ HM.out).mono ?_; rintro e w1 ⟨rfl, hb1⟩
    go_wp2_with fail
    go_ret
    exact ⟨rfl, hb1⟩
  have q1 : decide (500 < (a.size : Int)) = false := by simp; omega
  have q2 : decide (500 < (b.size : Int)) = false := by simp; omega
  have q3 : decide (500 < (c.size : Int)) = false := by simp; omega
  have HX := Lib.hid (fun w hm => hide_any a b c w (by omega) hm)
  have HX' := Lib.hid (fun w => rhide_any a b c w (by omega))
  have HU := Lib.hid (fun w hm => show_any a b c w (by omega) (by omega) hm)
  have HU' := Lib.hid (fun w => rshow_any a b c w (by omega) (by omega))
  have HK := Lib.hid (fun w => mask_any a b w (by omega) (by omega))
  have HK' := Lib.hid (fun w => rmask_any a b w (by omega) (by omega))
  have HB := Lib.hid (fun w => blocks_any a.size w)
  have HB' := Lib.hid (fun w => rblocks_any a.size w)
  have HC := Lib.hid (fun w => blocks_any (-(b.size : Int)) w)
  have HC' := Lib.hid (fun w => rblocks_any (-(b.size : Int)) w)
  generalize hidS a b c = X at *
  generalize hidE a c = E at *
  generalize shwS a b c = U at *
  generalize shwE a c = G at *
  generalize maskB a b = K at *
  generalize blkN (a.size : Int) = n1 at *
  generalize blkN (-(b.size : Int)) = n2 at *
  have HM := Lib.hid hm
  clear hm
  go_enter Tryd.func3, Tryd.ntmps3
  go_wp2_with fail
  refine (HX.out _ HM.out).mono ?_; rintro e w1 ⟨rfl, hb1⟩
  have H1 := Lib.hid hb1; clear hb1
  go_wp2_with fail
  refine (HX'.out _).mono ?_; rintro e w2 ⟨rfl, hb2⟩
  have H2 := Lib.hid (Bx.then_below H1.out hb2); clear hb2
  go_wp2_with fail
  refine (HU.out _ (HM.out.below H2.out)).mono ?_; rintro e w3 ⟨rfl, hb3⟩
  have H3 := Lib.hid (Bx.then_below H2.out hb3); clear hb3
  go_wp2_with fail
  refine (HU'.out _).mono ?_; rintro e w4 ⟨rfl, hb4⟩
  have H4 := Lib.hid (Bx.then_below H3.out hb4); clear hb4
  go_wp2_with fail
  refine (HK.out _).mono ?_; rintro e w5 ⟨rfl, hb5⟩
  have H5 := Lib.hid (Bx.then_below H4.out hb5); clear hb5
  go_wp2_with fail
  refine (HK'.out _).mono ?_; rintro e w6 ⟨rfl, hb6⟩
  have H6 := Lib.hid (Bx.then_below H5.out hb6); clear hb6
  go_wp2_with fail
  refine (HB.out _).mono ?_; rintro e w' ⟨rfl, rfl⟩
  go_wp2_with fail
  refine (HB'.out _).mono ?_; rintro e w' ⟨rfl, rfl⟩
  go_wp2_with fail
  refine (HC.out _).mono ?_; rintro e w' ⟨rfl, rfl⟩
  go_wp2_with fail
  refine (HC'.out _).mono ?_; rintro e w' ⟨rfl, rfl⟩
  go_wp2_with fail
  refine (awake_any _ (HM.out.below H6.out)).mono ?_; rintro e w9 ⟨rfl, hb9⟩
  go_wp2_with fail
  go_ret
  exact ⟨rfl, Bx.then_below H6.out hb9⟩

end Hd
namespace LawHideSays
open Go.ChangeShapes Go.WideShapes Go.ChangeAt Go.RowKit
open Go.ChangeMaps (open_string shut_string)

theorem own : ownKnob Tryd.prog.godebug = none := by kernel_rfl
theorem laidOut : laidOutB Tryd.prog = true := by kernel_rfl
theorem plain : (Rows.hideSaysRow.laid.all fun x => x.2.handleName?.isNone) = true := by kernel_rfl

set_option maxRecDepth 100000 in
theorem lifted (os : Os) (started : os.Started) (H : Type) (enc : TypeId × Value → H) :
    ReturnsInHanded {} Tryd.checked os 3 .any (fun w args => (Rows.hideSaysSpec.pre enc Tryd.prog Tryd.f3 Rows.hideSaysRow.domain false w args ∧ laidMetH Tryd.prog Rows.hideSaysRow.laid w) ∧ sizedMet enc Tryd.prog Tryd.f3 (OpenSpec.ofChange Rows.hideSaysSpec) false w args)
      (Rows.hideSaysSpec.post enc Tryd.prog Tryd.f3 false true false false) := by
  refine Fr.law_lift_laid (C := Tryd.checked) (laid := Rows.hideSaysRow.laid) (tb := 4) own started (by kernel_rfl) Tryd.func3
    (ChangeSpec.witness_shaped (enc := enc) (C := Tryd.checked) (os := os) (X := fun w _ => laidMetH Tryd.prog Rows.hideSaysRow.laid w) false (World.laidAll Tryd.prog os Rows.hideSaysRow.laid) #[.string ByteArray.empty, .string ByteArray.empty, .string ByteArray.empty] 8 (World.laidAll_os _ _ _)
      (World.shaped_of_ZipB (by kernel_rfl) (by kernel_rfl)) (by kernel_rfl) (by kernel_rfl) (by kernel_rfl)
      (by rw [MakeChecks.laidMetH_plain _ _ _ plain]; exact laidMet_laidAll _ (by kernel_rfl) (by kernel_rfl)))
    laidOut (by rw [Tryd.params3]; decide +kernel) rfl Tryd.underlying4 rfl ?_ ?_
  · intro ds hl
    match ds, hl with
    | [d0, d1, d2], _ => rfl
  · intro W base args ds p hsh hL hval hA
    rw [Tryd.params3] at hA hval
    obtain ⟨v0, vs0, d0, ds0, p0, q0, hargs, rfl, rfl, h0, r0⟩ := trodAll_cons hA
    obtain ⟨v1, vs1, d1, ds1, p1, q1, rfl, rfl, rfl, h1, r1⟩ := trodAll_cons r0
    obtain ⟨v2, vs2, d2, ds2, p2, q2, rfl, rfl, rfl, h2, r2⟩ := trodAll_cons r1
    obtain ⟨rfl, rfl, rfl⟩ := trodAll_nil r2
    obtain rfl : args = #[v0, v1, v2] := by cases args; simp_all
    obtain ⟨a0, rfl, rfl, rfl, w0⟩ := open_string Tryd.underlying9 (hval 0 9 v0 rfl rfl) h0
    obtain ⟨a1, rfl, rfl, rfl, w1⟩ := open_string Tryd.underlying9 (hval 1 9 v1 rfl rfl) h1
    obtain ⟨a2, rfl, rfl, rfl, w2⟩ := open_string Tryd.underlying9 (hval 2 9 v2 rfl rfl) h2
    exact Hd.walk_says W a0 w0 a1 w1 a2 w2 (Dig.home_of hsh hL plain (by simp [Rows.hideSaysRow]))

theorem over : Rows.hideSaysRow.holds Tryd.pinned (OpenSpec.ofChange Rows.hideSaysSpec) :=
  OpenClaim.holds_of_wide 3 Tryd.f3 rfl rfl rfl rfl rfl rfl rfl ⟨rfl, rfl, rfl, rfl, rfl⟩ rfl rfl rfl rfl rfl (by kernel_rfl) Tryd.func3 (by kernel_rfl)
    (of_decide_eq_true (by kernel_rfl)) (by unfold Func.isWrapper; first | (rw [if_pos (by decide +kernel)]; kernel_rfl) | (rw [if_neg (by decide +kernel)]; exact ⟨rfl, rfl⟩))
    (fun os started H enc _ => lifted os started H enc)
end LawHideSays

/-- The statement HideSays (the tied card). -/
theorem hideSays_holds : Rows.HideSaysCardSaid :=
  Claim7.holds_tied_plain_at .later [] _ true _ _ LawHideSays.over (fun _ h => by cases h) (by kernel_rfl) (fun _ h => by cases h) hideSays_row_tie rfl ⟨rfl, rfl⟩ (by kernel_rfl) rfl
    (fun f fn hf hfn => by
      obtain rfl : f = 3 := Option.some.inj ((show Tryd.prog.funcNamed Rows.hideSaysRow.func = some 3 by kernel_rfl).symm.trans hf) |>.symm
      obtain rfl : fn = Tryd.f3 := (Option.some.inj (Tryd.func3.symm.trans hfn)).symm
      exact ⟨by kernel_rfl, fun j t ht => by
        rw [Tryd.params3] at ht
        have hm : t ∈ [9] := by have := Array.mem_of_getElem? ht; simp at this; simp [this]
        have hall : ([9].all fun u => !Tryd.prog.wantsStandIn u) = true := by kernel_rfl
        exact (show Tryd.prog.wantsStandIn t = false by simpa using List.all_eq_true.1 hall t hm)⟩)
    (by kernel_rfl)

end Go.Proofs.YtanfmghfmmhglaaDoor
