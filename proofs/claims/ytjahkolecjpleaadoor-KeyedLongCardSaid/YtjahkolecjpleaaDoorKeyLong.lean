/-
  The statement KeyedLong (a tied card): for every key and text the law KeyedLong returns true, and its arguments read afterwards as they read before.
-/
import Derived.Test.YtjahkolecjpleaaDoorKeyC
import Derived.Test.YtjahkolecjpleaaDoorDigHome
import Derived.Test.YtjahkolecjpleaaDoorCards
import Derived.Test.YtjahkolecjpleaaDoorTie
import Derived.SevenTiedAt
namespace Go.Proofs.YtjahkolecjpleaaDoor
open Go.RowKit
namespace Key
open Oct Fr Dig

theorem block_long (k : ByteArray) (h : 64 < k.size) : blockS (sumS k) = blockS k := by
  unfold blockS
  rw [if_pos h, if_neg (by rw [sumS_size]; omega)]

set_option maxHeartbeats 400000 in
theorem walk_long (w : World) (k : ByteArray) (_wk : k.size ≤ maxLen) (s : ByteArray) (_ws : s.size ≤ maxLen) (hm : Home w) :
    Calls Tryd.prog 5 #[.string k, .string s] w fun e w' => e = .returned (.bool true) ∧ Below w.heap.size w w' := by
  by_cases hk : 500 < k.size
  · have q1 : decide (500 < (k.size : Int)) = true := by simp; omega
    have HM := Lib.hid hm
    clear hm
    go_enter Tryd.func5, Tryd.ntmps5
    go_wp2_with fail
    refine (kawake_any _ HM.out).mono ?_; rintro e w1 ⟨rfl, hb1⟩
    go_wp2_with fail
    go_ret
    exact ⟨rfl, hb1⟩
  by_cases hs : 500 < s.size
  · have q1 : decide (500 < (k.size : Int)) = false := by simp; omega
    have q2 : decide (500 < (s.size : Int)) = true := by simp; omega
    have HM := Lib.hid hm
    clear hm
    go_enter Tryd.func5, Tryd.ntmps5
    go_wp2_with fail
    refine (kawake_any _ HM.out).mono ?_; rintro e w1 ⟨rfl, hb1⟩
    go_wp2_with fail
    go_ret
    exact ⟨rfl, hb1⟩
  have q1 : decide (500 < (k.size : Int)) = false := by simp; omega
  have q2 : decide (500 < (s.size : Int)) = false := by simp; omega
  by_cases h64 : k.size ≤ 64
  · have q3 : decide ((k.size : Int) ≤ 64) = true := by simp; omega
    have HM := Lib.hid hm
    clear hm
    go_enter Tryd.func5, Tryd.ntmps5
    go_wp2_with fail
    refine (kawake_any _ HM.out).mono ?_; rintro e w1 ⟨rfl, hb1⟩
    go_wp2_with fail
    go_ret
    exact ⟨rfl, hb1⟩
  have q3 : decide ((k.size : Int) ≤ 64) = false := by simp; omega
  have HK := Lib.hid (fun w hm => ksum_any k s w (by omega) (by omega) hm)
  have HD := Lib.hid (fun w hm => dsum_any k w (by omega) hm)
  have HL := Lib.hid (fun w hm => ksum_any (sumS k) s w (by rw [sumS_size]; omega) (by omega) hm)
  rw [show keyS (sumS k) s = keyS k s by unfold keyS; rw [block_long k (by omega)]] at HL
  generalize keyS k s = R at *
  generalize sumS k = D at *
  have HM := Lib.hid hm
  clear hm
  go_enter Tryd.func5, Tryd.ntmps5
  go_wp2_with fail
  refine (HK.out _ HM.out).mono ?_; rintro e w1 ⟨rfl, hb1⟩
  have H1 := Lib.hid hb1; clear hb1
  go_wp2_with fail
  refine (HD.out _ (HM.out.below H1.out)).mono ?_; rintro e w2 ⟨rfl, hb2⟩
  have H2 := Lib.hid (Bx.then_below H1.out hb2); clear hb2
  go_wp2_with fail
  refine (HL.out _ (HM.out.below H2.out)).mono ?_; rintro e w3 ⟨rfl, hb3⟩
  have H3 := Lib.hid (Bx.then_below H2.out hb3); clear hb3
  go_wp2_with fail
  refine (kawake_any _ (HM.out.below H3.out)).mono ?_; rintro e w4 ⟨rfl, hb4⟩
  go_wp2_with fail
  go_ret
  exact ⟨rfl, Bx.then_below H3.out hb4⟩

end Key
namespace LawKeyedLong
open Go.ChangeShapes Go.WideShapes Go.ChangeAt Go.RowKit
open Go.ChangeMaps (open_string shut_string)

theorem own : ownKnob Tryd.prog.godebug = none := by kernel_rfl
theorem laidOut : laidOutB Tryd.prog = true := by kernel_rfl
theorem plain : (Rows.keyedLongRow.laid.all fun x => x.2.handleName?.isNone) = true := by kernel_rfl

set_option maxRecDepth 100000 in
theorem lifted (os : Os) (started : os.Started) (H : Type) (enc : TypeId × Value → H) :
    ReturnsInHanded {} Tryd.checked os 5 .any (fun w args => (Rows.keyedLongSpec.pre enc Tryd.prog Tryd.f5 Rows.keyedLongRow.domain false w args ∧ laidMetH Tryd.prog Rows.keyedLongRow.laid w) ∧ sizedMet enc Tryd.prog Tryd.f5 (OpenSpec.ofChange Rows.keyedLongSpec) false w args)
      (Rows.keyedLongSpec.post enc Tryd.prog Tryd.f5 false true false false) := by
  refine Fr.law_lift_laid (C := Tryd.checked) (laid := Rows.keyedLongRow.laid) (tb := 4) own started (by kernel_rfl) Tryd.func5
    (ChangeSpec.witness_shaped (enc := enc) (C := Tryd.checked) (os := os) (X := fun w _ => laidMetH Tryd.prog Rows.keyedLongRow.laid w) false (World.laidAll Tryd.prog os Rows.keyedLongRow.laid) #[.string ByteArray.empty, .string ByteArray.empty] 8 (World.laidAll_os _ _ _)
      (World.shaped_of_ZipB (by kernel_rfl) (by kernel_rfl)) (by kernel_rfl) (by kernel_rfl) (by kernel_rfl)
      (by rw [MakeChecks.laidMetH_plain _ _ _ plain]; exact laidMet_laidAll _ (by kernel_rfl) (by kernel_rfl)))
    laidOut (by rw [Tryd.params5]; decide +kernel) rfl Tryd.underlying4 rfl ?_ ?_
  · intro ds hl
    match ds, hl with
    | [d0, d1], _ => rfl
  · intro W base args ds p hsh hL hval hA
    rw [Tryd.params5] at hA hval
    obtain ⟨v0, vs0, d0, ds0, p0, q0, hargs, rfl, rfl, h0, r0⟩ := trodAll_cons hA
    obtain ⟨v1, vs1, d1, ds1, p1, q1, rfl, rfl, rfl, h1, r1⟩ := trodAll_cons r0
    obtain ⟨rfl, rfl, rfl⟩ := trodAll_nil r1
    obtain rfl : args = #[v0, v1] := by cases args; simp_all
    obtain ⟨a0, rfl, rfl, rfl, w0⟩ := open_string Tryd.underlying9 (hval 0 9 v0 rfl rfl) h0
    obtain ⟨a1, rfl, rfl, rfl, w1⟩ := open_string Tryd.underlying9 (hval 1 9 v1 rfl rfl) h1
    exact Key.walk_long W a0 w0 a1 w1 (Dig.home_of hsh hL plain (by simp [Rows.keyedLongRow]))

theorem over : Rows.keyedLongRow.holds Tryd.pinned (OpenSpec.ofChange Rows.keyedLongSpec) :=
  OpenClaim.holds_of_wide 5 Tryd.f5 rfl rfl rfl rfl rfl rfl rfl ⟨rfl, rfl, rfl, rfl, rfl⟩ rfl rfl rfl rfl rfl (by kernel_rfl) Tryd.func5 (by kernel_rfl)
    (of_decide_eq_true (by kernel_rfl)) (by unfold Func.isWrapper; first | (rw [if_pos (by decide +kernel)]; kernel_rfl) | (rw [if_neg (by decide +kernel)]; exact ⟨rfl, rfl⟩))
    (fun os started H enc _ => lifted os started H enc)
end LawKeyedLong

/-- The statement KeyedLong (the tied card). -/
theorem keyedLong_holds : Rows.KeyedLongCardSaid :=
  Claim7.holds_tied_plain_at .later [] _ true _ _ LawKeyedLong.over (fun _ h => by cases h) (by kernel_rfl) (fun _ h => by cases h) keyedLong_row_tie rfl ⟨rfl, rfl⟩ (by kernel_rfl) rfl
    (fun f fn hf hfn => by
      obtain rfl : f = 5 := Option.some.inj ((show Tryd.prog.funcNamed Rows.keyedLongRow.func = some 5 by kernel_rfl).symm.trans hf) |>.symm
      obtain rfl : fn = Tryd.f5 := (Option.some.inj (Tryd.func5.symm.trans hfn)).symm
      exact ⟨by kernel_rfl, fun j t ht => by
        rw [Tryd.params5] at ht
        have hm : t ∈ [9] := by have := Array.mem_of_getElem? ht; simp at this; simp [this]
        have hall : ([9].all fun u => !Tryd.prog.wantsStandIn u) = true := by kernel_rfl
        exact (show Tryd.prog.wantsStandIn t = false by simpa using List.all_eq_true.1 hall t hm)⟩)
    (by kernel_rfl)

end Go.Proofs.YtjahkolecjpleaaDoor
