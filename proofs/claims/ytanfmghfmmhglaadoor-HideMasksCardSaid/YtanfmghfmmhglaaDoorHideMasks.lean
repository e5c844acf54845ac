/-
  The statement HideMasks (a tied card): for every two texts the law HideMasks returns true, and its arguments read afterwards as they read before.
-/
import Derived.Test.YtanfmghfmmhglaaDoorHidE
import Derived.Test.YtanfmghfmmhglaaDoorDigHome
import Derived.Test.YtanfmghfmmhglaaDoorCards
import Derived.Test.YtanfmghfmmhglaaDoorTie
import Derived.SevenTiedAt
import Derived.Deep.RegionHeld3
namespace Go.Proofs.YtanfmghfmmhglaaDoor
open Go.RowKit
namespace Hd
open Oct Fr Dig

set_option maxHeartbeats 2000000 in
theorem walk_masks (w : World) (a : ByteArray) (_wa : a.size ≤ maxLen) (b : ByteArray) (_wb : b.size ≤ maxLen) (hm : Home w) :
    Calls Tryd.prog 5 #[.string a, .string b] w fun e w' => e = .returned (.bool true) ∧ Below w.heap.size w w' := by
  by_cases ha : 500 < a.size
  · have q1 : decide (500 < (a.size : Int)) = true := by simp; omega
    have HM := Lib.hid hm
    clear hm
    go_enter Tryd.func5, Tryd.ntmps5
    go_wp2_with fail
    refine (awake_any _ HM.out).mono ?_; rintro e w1 ⟨rfl, hb1⟩
    go_wp2_with fail
    go_ret
    exact ⟨rfl, hb1⟩
  by_cases hb : 500 < b.size
  · have q1 : decide (500 < (a.size : Int)) = false := by simp; omega
    have q2 : decide (500 < (b.size : Int)) = true := by simp; omega
    have HM := Lib.hid hm
    clear hm
    go_enter Tryd.func5, Tryd.ntmps5
    go_wp2_with fail
    refine (awake_any _ HM.out).mono ?_; rintro e w1 ⟨rfl, hb1⟩
    go_wp2_with fail
    go_ret
    exact ⟨rfl, hb1⟩
  have q1 : decide (500 < (a.size : Int)) = false := by simp; omega
  have q2 : decide (500 < (b.size : Int)) = false := by simp; omega
  obtain ⟨n, hn⟩ : ∃ n, min a.size b.size = n := ⟨_, rfl⟩
  have hmin : min (a.size : Int) (b.size : Int) = (n : Int) := by omega
  have hK := maskB_size a b
  rw [hn] at hK
  have HK := Lib.hid (fun w => mask_any a b w (by omega) (by omega))
  have HB : Hid (∀ w, Calls Tryd.prog 11 #[.string (maskB a b), .string b] w fun e w' => e = .returned (.string (a.extract 0 n)) ∧ Below w.heap.size w w') := Lib.hid (fun w => by
    have h := mask_any (maskB a b) b w (by omega) (by omega)
    rwa [maskB_twice, hn] at h)
  have HC : Hid (∀ w, Calls Tryd.prog 11 #[.string b, .string a] w fun e w' => e = .returned (.string (maskB a b)) ∧ Below w.heap.size w w') := Lib.hid (fun w => by
    have h := mask_any b a w (by omega) (by omega)
    rwa [maskB_comm] at h)
  generalize maskB a b = K at *
  have hna : n ≤ a.size := by omega
  have i1 : (0 : Int) ≤ (n : Int) := by omega
  have i2 : (n : Int) ≤ (a.size : Int) := by omega
  clear hn
  have HM := Lib.hid hm
  have HAW := Lib.hid awake_any
  clear hm
  go_enter Tryd.func5, Tryd.ntmps5
  go_wp2_with fail
  refine (HK.out _).mono ?_; rintro e w1 ⟨rfl, hb1⟩
  have H1 := Lib.hid hb1; clear hb1
  have hh := HM.out.below H1.out
  go_wp2_with fail
  go_region_held3 (fun w' => Home w')
    (first | exact hh | exact Home.below (by assumption) (by assumption))
    (first | (go_at_call 11; with_reducible refine (HB.out _).mono ?_; rintro e w2 ⟨rfl, hb2⟩) | (go_at_call 11; with_reducible refine (HC.out _).mono ?_; rintro e w3 ⟨rfl, hb3⟩) | (go_at_call 6; with_reducible refine (HAW.out _ (by assumption)).mono ?_; rintro e w4 ⟨rfl, hb4⟩))
  have H4 := Lib.hid (Bx.then_below (Bx.then_below (Bx.then_below H1.out.drew hb2) hb3) hb4)
  go_wp2_with fail
  go_ret
  exact ⟨rfl, H4.out⟩

end Hd
namespace LawHideMasks
open Go.ChangeShapes Go.WideShapes Go.ChangeAt Go.RowKit
open Go.ChangeMaps (open_string shut_string)

theorem own : ownKnob Tryd.prog.godebug = none := by kernel_rfl
theorem laidOut : laidOutB Tryd.prog = true := by kernel_rfl
theorem plain : (Rows.hideMasksRow.laid.all fun x => x.2.handleName?.isNone) = true := by kernel_rfl

set_option maxRecDepth 100000 in
theorem lifted (os : Os) (started : os.Started) (H : Type) (enc : TypeId × Value → H) :
    ReturnsInHanded {} Tryd.checked os 5 .any (fun w args => (Rows.hideMasksSpec.pre enc Tryd.prog Tryd.f5 Rows.hideMasksRow.domain false w args ∧ laidMetH Tryd.prog Rows.hideMasksRow.laid w) ∧ sizedMet enc Tryd.prog Tryd.f5 (OpenSpec.ofChange Rows.hideMasksSpec) false w args)
      (Rows.hideMasksSpec.post enc Tryd.prog Tryd.f5 false true false false) := by
  refine Fr.law_lift_laid (C := Tryd.checked) (laid := Rows.hideMasksRow.laid) (tb := 4) own started (by kernel_rfl) Tryd.func5
    (ChangeSpec.witness_shaped (enc := enc) (C := Tryd.checked) (os := os) (X := fun w _ => laidMetH Tryd.prog Rows.hideMasksRow.laid w) false (World.laidAll Tryd.prog os Rows.hideMasksRow.laid) #[.string ByteArray.empty, .string ByteArray.empty] 8 (World.laidAll_os _ _ _)
      (World.shaped_of_ZipB (by kernel_rfl) (by kernel_rfl)) (by kernel_rfl) (by kernel_rfl) (by kernel_rfl)
      (by rw [MakeChecks.laidMetH_plain _ _ _ plain]; exact laidMet_laidAll _ (by kernel_rfl) (by kernel_rfl)))
    laidOut (by rw [Tryd.params5]; decide +kernel) rfl Tryd.underlying4 rfl ?_ ?_
  · intro ds hl
    match ds, hl with
    | [d0, d1], _ => rfl
  · intro W base args ds p hsh hL hval hA
    rw [Tryd.params5] at hA hval
    obtain ⟨v0, vs0, d0, ds0, p0, q0, hargs, rfl, rfl, h0, r0⟩ := trodAll_cons hA
    obtain ⟨v1, vs1, d1, ds1, p1, q1, rfl, rfl, rfl, h1, r1⟩ := trodAll_cons r0
    obtain ⟨rfl, rfl, rfl⟩ := trodAll_nil r1
    obtain rfl : args = #[v0, v1] := by cases args; simp_all
    obtain ⟨a0, rfl, rfl, rfl, w0⟩ := open_string Tryd.underlying9 (hval 0 9 v0 rfl rfl) h0
    obtain ⟨a1, rfl, rfl, rfl, w1⟩ := open_string Tryd.underlying9 (hval 1 9 v1 rfl rfl) h1
    exact Hd.walk_masks W a0 w0 a1 w1 (Dig.home_of hsh hL plain (by simp [Rows.hideMasksRow]))

theorem over : Rows.hideMasksRow.holds Tryd.pinned (OpenSpec.ofChange Rows.hideMasksSpec) :=
  OpenClaim.holds_of_wide 5 Tryd.f5 rfl rfl rfl rfl rfl rfl rfl ⟨rfl, rfl, rfl, rfl, rfl⟩ rfl rfl rfl rfl rfl (by kernel_rfl) Tryd.func5 (by kernel_rfl)
    (of_decide_eq_true (by kernel_rfl)) (by unfold Func.isWrapper; first | (rw [if_pos (by decide +kernel)]; kernel_rfl) | (rw [if_neg (by decide +kernel)]; exact ⟨rfl, rfl⟩))
    (fun os started H enc _ => lifted os started H enc)
end LawHideMasks

/-- The statement HideMasks (the tied card). -/
theorem hideMasks_holds : Rows.HideMasksCardSaid :=
  Claim7.holds_tied_plain_at .later [] _ true _ _ LawHideMasks.over (fun _ h => by cases h) (by kernel_rfl) (fun _ h => by cases h) hideMasks_row_tie rfl ⟨rfl, rfl⟩ (by kernel_rfl) rfl
    (fun f fn hf hfn => by
      obtain rfl : f = 5 := Option.some.inj ((show Tryd.prog.funcNamed Rows.hideMasksRow.func = some 5 by kernel_rfl).symm.trans hf) |>.symm
      obtain rfl : fn = Tryd.f5 := (Option.some.inj (Tryd.func5.symm.trans hfn)).symm
      exact ⟨by kernel_rfl, fun j t ht => by
        rw [Tryd.params5] at ht
        have hm : t ∈ [9] := by have := Array.mem_of_getElem? ht; simp at this; simp [this]
        have hall : ([9].all fun u => !Tryd.prog.wantsStandIn u) = true := by kernel_rfl
        exact (show Tryd.prog.wantsStandIn t = false by simpa using List.all_eq_true.1 hall t hm)⟩)
    (by kernel_rfl)

end Go.Proofs.YtanfmghfmmhglaaDoor
