/-
  The statement HideBack (a tied card): for every password, secret and authenticator the law HideBack returns true, and its arguments read afterwards as they read before.
-/
import Derived.Test.YtanfmghfmmhglaaDoorHidE
import Derived.Test.YtanfmghfmmhglaaDoorDigHome
import Derived.Test.YtanfmghfmmhglaaDoorCards
import Derived.Test.YtanfmghfmmhglaaDoorTie
import Derived.SevenTiedAt
import Derived.Deep.LoopGhost
namespace Go.Proofs.YtanfmghfmmhglaaDoor
open Go.RowKit
namespace Hd
open Oct Fr Dig

set_option maxHeartbeats 2000000 in
theorem walk_back (w : World) (p : ByteArray) (_wp : p.size ≤ maxLen) (s : ByteArray) (_ws : s.size ≤ maxLen) (a : ByteArray) (_wa : a.size ≤ maxLen) (hm : Home w) :
    Calls Tryd.prog 4 #[.string p, .string s, .string a] w fun e w' => e = .returned (.bool true) ∧ Below w.heap.size w w' := by
  by_cases hp : 500 < p.size
  · have q1 : decide (500 < (p.size : Int)) = true := by simp; omega
    have HM := Lib.hid hm
    clear hm
    go_enter Tryd.func4, Tryd.ntmps4
    go_wp2_with fail
    refine (awake_any _ HM.out).mono ?_; rintro e w1 ⟨rfl, hb1⟩
    go_wp2_with fail
    go_ret
    exact ⟨rfl, hb1⟩
  by_cases hs : 500 < s.size
  · have q1 : decide (500 < (p.size : Int)) = false := by simp; omega
    have q2 : decide (500 < (s.size : Int)) = true := by simp; omega
    have HM := Lib.hid hm
    clear hm
    go_enter Tryd.func4, Tryd.ntmps4
    go_wp2_with fail
    refine (awake_any _ HM.out).mono ?_; rintro e w1 ⟨rfl, hb1⟩
    go_wp2_with fail
    go_ret
    exact ⟨rfl, hb1⟩
  by_cases ha : 500 < a.size
  · have q1 : decide (500 < (p.size : Int)) = false := by simp; omega
    have q2 : decide (500 < (s.size : Int)) = false := by simp; omega
    have q3 : decide (500 < (a.size : Int)) = true := by simp; omega
    have HM := Lib.hid hm
    clear hm
    go_enter Tryd.func4, Tryd.ntmps4
    go_wp2_with fail
    refine (awake_any _ HM.out).mono ?_; rintro e w1 ⟨rfl, hb1⟩
    go_wp2_with fail
    go_ret
    exact ⟨rfl, hb1⟩
  have q1 : decide (500 < (p.size : Int)) = false := by simp; omega
  have q2 : decide (500 < (s.size : Int)) = false := by simp; omega
  have q3 : decide (500 < (a.size : Int)) = false := by simp; omega
  have HX := Lib.hid (fun w hm => hide_any p s a w (by omega) hm)
  by_cases he : hidE p a = 0
  · have h128 := (hidE_zero p a he).1
    have hz := hidS_size p s a he
    have hn := hidN_one p
    have hl := hidN_long p h128
    have HS := Lib.hid (fun w hm => show_any (hidS p s a) s a w (by omega) (by omega) hm)
    rw [he] at HX
    rw [back_err p s a he, back_text p s a he] at HS
    obtain ⟨W, hW⟩ : ∃ W, trimB p = W := ⟨_, rfl⟩
    rw [hW] at HS
    have HW := Lib.hid hW
    clear hW
    generalize hidS p s a = H at *
    have q4 : ((H.size : Int) % 16 == 0) = true := by simp; omega
    have q5 : decide ((p.size : Int) ≤ (H.size : Int)) = true := by simp; omega
    have q6 : decide ((H.size : Int) < (p.size : Int) + 17) = true := by simp; omega
    have p5 : p.size ≤ H.size := by omega
    have p6 : H.size < p.size + 17 := by omega
    clear hz
    have HM := Lib.hid hm
    clear hm
    go_enter Tryd.func4, Tryd.ntmps4
    go_wp2_with fail
    refine (HX.out _ HM.out).mono ?_; rintro e w1 ⟨rfl, hb1⟩
    have H1 := Lib.hid hb1; clear hb1
    go_wp2_with fail
    refine (HS.out _ (HM.out.below H1.out)).mono ?_; rintro e w2 ⟨rfl, hb2⟩
    have H2 := Lib.hid (Bx.then_below H1.out hb2); clear hb2
    go_wp2_with fail
    go_loopw [11] (fun o wr => ∃ t : ByteArray, o = .string t ∧ t.size ≤ 128 ∧ Hid (trimB t = W) ∧ Hid (wr = w2)) (fun o _ => Lib.strSize o)
    case atStart => exact ⟨p, rfl, h128, HW, Lib.hid rfl⟩
    case round =>
      obtain ⟨t, rfl, hzt, HT, HQ⟩ := hrel
      by_cases h0 : t.size = 0
      · have q0 : decide (0 < (t.size : Int)) = false := decide_eq_false (by omega)
        have HS2 := trimB_stop t (fun h => absurd h (by omega))
        obtain rfl : t = W := HS2.symm.trans HT.out
        clear HS2
        obtain rfl := HQ.out
        go_wp2_with fail
        refine (awake_any _ (HM.out.below H2.out)).mono ?_; rintro e w3 ⟨rfl, hb3⟩
        go_wp2_with fail
        go_ret
        exact ⟨rfl, Bx.then_below H2.out hb3⟩
      · obtain ⟨q, hq⟩ : ∃ q, t.size = q + 1 := ⟨t.size - 1, by omega⟩
        by_cases hz : t[q]'(by omega) = 0
        · have HS2 : Hid (trimB (t.extract 0 q) = trimB t) := Lib.hid (by
            have h := trimB_step t (by omega) (by simpa [hq] using hz)
            rwa [show t.size - 1 = q by omega] at h)
          go_wp2_with fail
          refine ⟨⟨_, rfl, by rw [ByteArray.size_extract]; omega, Lib.hid (by rw [HS2.out, HT.out]), HQ⟩, ?_⟩
          show (t.extract 0 q).size < t.size
          rw [ByteArray.size_extract]
          omega
        · have HS2 := trimB_stop t (fun h => by simpa [hq] using hz)
          have hz2 : ((t[q].toNat : Int) == 0) = false := beq_eq_false_iff_ne.2 (fun h => hz (UInt8.toNat_inj.1 (by simpa using h)))
          obtain rfl : t = W := HS2.symm.trans HT.out
          clear HS2
          obtain rfl := HQ.out
          go_wp2_with fail
          refine (awake_any _ (HM.out.below H2.out)).mono ?_; rintro e w3 ⟨rfl, hb3⟩
          go_wp2_with fail
          go_ret
          exact ⟨rfl, Bx.then_below H2.out hb3⟩
  · rw [show hidS p s a = ⟨#[]⟩ from if_neg he] at HX
    have hne : (hidE p a != 0) = true := by simpa using he
    have HE : Hid (128 < p.size ∨ a.size ≠ 16) := Lib.hid (by
      rcases Nat.lt_or_ge 128 p.size with h | h
      · exact Or.inl h
      · refine Or.inr (fun h2 => he ?_)
        unfold hidE
        rw [if_neg (by omega), if_neg (by omega)])
    generalize hidE p a = E at *
    have HM := Lib.hid hm
    clear hm
    by_cases h1 : 128 < p.size
    · have q4 : decide (128 < (p.size : Int)) = true := by simp; omega
      go_enter Tryd.func4, Tryd.ntmps4
      go_wp2_with fail
      refine (HX.out _ HM.out).mono ?_; rintro e w1 ⟨rfl, hb1⟩
      have H1 := Lib.hid hb1; clear hb1
      go_wp2_with fail
      refine (awake_any _ (HM.out.below H1.out)).mono ?_; rintro e w3 ⟨rfl, hb3⟩
      go_wp2_with fail
      go_ret
      exact ⟨rfl, Bx.then_below H1.out hb3⟩
    · have q4 : decide (128 < (p.size : Int)) = false := by simp; omega
      have q5 : ((a.size : Int) != 16) = true := by have := HE.out; simp; omega
      go_enter Tryd.func4, Tryd.ntmps4
      go_wp2_with fail
      refine (HX.out _ HM.out).mono ?_; rintro e w1 ⟨rfl, hb1⟩
      have H1 := Lib.hid hb1; clear hb1
      go_wp2_with fail
      refine (awake_any _ (HM.out.below H1.out)).mono ?_; rintro e w3 ⟨rfl, hb3⟩
      go_wp2_with fail
      go_ret
      exact ⟨rfl, Bx.then_below H1.out hb3⟩

end Hd
namespace LawHideBack
open Go.ChangeShapes Go.WideShapes Go.ChangeAt Go.RowKit
open Go.ChangeMaps (open_string shut_string)

theorem own : ownKnob Tryd.prog.godebug = none := by kernel_rfl
theorem laidOut : laidOutB Tryd.prog = true := by kernel_rfl
theorem plain : (Rows.hideBackRow.laid.all fun x => x.2.handleName?.isNone) = true := by kernel_rfl

set_option maxRecDepth 100000 in
theorem lifted (os : Os) (started : os.Started) (H : Type) (enc : TypeId × Value → H) :
    ReturnsInHanded {} Tryd.checked os 4 .any (fun w args => (Rows.hideBackSpec.pre enc Tryd.prog Tryd.f4 Rows.hideBackRow.domain false w args ∧ laidMetH Tryd.prog Rows.hideBackRow.laid w) ∧ sizedMet enc Tryd.prog Tryd.f4 (OpenSpec.ofChange Rows.hideBackSpec) false w args)
      (Rows.hideBackSpec.post enc Tryd.prog Tryd.f4 false true false false) := by
  refine Fr.law_lift_laid (C := Tryd.checked) (laid := Rows.hideBackRow.laid) (tb := 4) own started (by kernel_rfl) Tryd.func4
    (ChangeSpec.witness_shaped (enc := enc) (C := Tryd.checked) (os := os) (X := fun w _ => laidMetH Tryd.prog Rows.hideBackRow.laid w) false (World.laidAll Tryd.prog os Rows.hideBackRow.laid) #[.string ByteArray.empty, .string ByteArray.empty, .string ByteArray.empty] 8 (World.laidAll_os _ _ _)
      (World.shaped_of_ZipB (by kernel_rfl) (by kernel_rfl)) (by kernel_rfl) (by kernel_rfl) (by kernel_rfl)
      (by rw [MakeChecks.laidMetH_plain _ _ _ plain]; exact laidMet_laidAll _ (by kernel_rfl) (by kernel_rfl)))
    laidOut (by rw [Tryd.params4]; decide +kernel) rfl Tryd.underlying4 rfl ?_ ?_
  · intro ds hl
    match ds, hl with
    | [d0, d1, d2], _ => rfl
  · intro W base args ds p hsh hL hval hA
    rw [Tryd.params4] at hA hval
    obtain ⟨v0, vs0, d0, ds0, p0, q0, hargs, rfl, rfl, h0, r0⟩ := trodAll_cons hA
    obtain ⟨v1, vs1, d1, ds1, p1, q1, rfl, rfl, rfl, h1, r1⟩ := trodAll_cons r0
    obtain ⟨v2, vs2, d2, ds2, p2, q2, rfl, rfl, rfl, h2, r2⟩ := trodAll_cons r1
    obtain ⟨rfl, rfl, rfl⟩ := trodAll_nil r2
    obtain rfl : args = #[v0, v1, v2] := by cases args; simp_all
    obtain ⟨a0, rfl, rfl, rfl, w0⟩ := open_string Tryd.underlying9 (hval 0 9 v0 rfl rfl) h0
    obtain ⟨a1, rfl, rfl, rfl, w1⟩ := open_string Tryd.underlying9 (hval 1 9 v1 rfl rfl) h1
    obtain ⟨a2, rfl, rfl, rfl, w2⟩ := open_string Tryd.underlying9 (hval 2 9 v2 rfl rfl) h2
    exact Hd.walk_back W a0 w0 a1 w1 a2 w2 (Dig.home_of hsh hL plain (by simp [Rows.hideBackRow]))

theorem over : Rows.hideBackRow.holds Tryd.pinned (OpenSpec.ofChange Rows.hideBackSpec) :=
  OpenClaim.holds_of_wide 4 Tryd.f4 rfl rfl rfl rfl rfl rfl rfl ⟨rfl, rfl, rfl, rfl, rfl⟩ rfl rfl rfl rfl rfl (by kernel_rfl) Tryd.func4 (by kernel_rfl)
    (of_decide_eq_true (by kernel_rfl)) (by unfold Func.isWrapper; first | (rw [if_pos (by decide +kernel)]; kernel_rfl) | (rw [if_neg (by decide +kernel)]; exact ⟨rfl, rfl⟩))
    (fun os started H enc _ => lifted os started H enc)
end LawHideBack

/-- The statement HideBack (the tied card). -/
theorem hideBack_holds : Rows.HideBackCardSaid :=
  Claim7.holds_tied_plain_at .later [] _ true _ _ LawHideBack.over (fun _ h => by cases h) (by kernel_rfl) (fun _ h => by cases h) hideBack_row_tie rfl ⟨rfl, rfl⟩ (by kernel_rfl) rfl
    (fun f fn hf hfn => by
      obtain rfl : f = 4 := Option.some.inj ((show Tryd.prog.funcNamed Rows.hideBackRow.func = some 4 by kernel_rfl).symm.trans hf) |>.symm
      obtain rfl : fn = Tryd.f4 := (Option.some.inj (Tryd.func4.symm.trans hfn)).symm
      exact ⟨by kernel_rfl, fun j t ht => by
        rw [Tryd.params4] at ht
        have hm : t ∈ [9] := by have := Array.mem_of_getElem? ht; simp at this; simp [this]
        have hall : ([9].all fun u => !Tryd.prog.wantsStandIn u) = true := by kernel_rfl
        exact (show Tryd.prog.wantsStandIn t = false by simpa using List.all_eq_true.1 hall t hm)⟩)
    (by kernel_rfl)

end Go.Proofs.YtanfmghfmmhglaaDoor
