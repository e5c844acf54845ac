/-
  The statement DigestSays (a tied card): for every text, four words and number the law DigestSays returns true, and its arguments read afterwards as they read before.
-/
import Derived.Test.YtgkgjjnlblgklaaDoorDigSaysA
import Derived.Test.YtgkgjjnlblgklaaDoorDigJ
import Derived.Test.YtgkgjjnlblgklaaDoorDigHome
import Derived.Test.YtgkgjjnlblgklaaDoorOpenArr
import Derived.Test.YtgkgjjnlblgklaaDoorCards
import Derived.Test.YtgkgjjnlblgklaaDoorTie
import Derived.SevenTiedAt
namespace Go.Proofs.YtgkgjjnlblgklaaDoor
open Go.RowKit
namespace Dig
open Oct Fr

/-- A contract of a function that only computes, as one that changes nothing below. -/
theorem as_below {f : FuncId} {args : Array Value} {w : World} {v : Value} (h : Calls Tryd.prog f args w fun e w' => e = .returned v ∧ w = w') : Calls Tryd.prog f args w fun e w' => e = .returned v ∧ Below w.heap.size w w' :=
  h.mono fun _ _ ⟨h1, h2⟩ => ⟨h1, h2 ▸ Bx.bel_refl w⟩

set_option maxHeartbeats 400000 in
theorem walk_says (w : World) (s : ByteArray) (ws : s.size ≤ maxLen) (a b c d : Int) (wl : ∀ z ∈ [a, b, c, d], (Lit.int .u32 z).wf = true) (i : Int) (_wi : (Lit.int .i64 i).wf = true) (hm : Home w) :
    Calls Tryd.prog 3 #[.string s, .agg (List.map (Value.int .u32) [a, b, c, d]).toArray, .int .i64 i] w fun e w' => e = .returned (.bool true) ∧ Below w.heap.size w w' := by
  unfold maxLen at ws
  obtain ⟨a, rfl, ha⟩ := Fr.nat_u32 (wl a (by simp))
  obtain ⟨b, rfl, hb⟩ := Fr.nat_u32 (wl b (by simp))
  obtain ⟨c, rfl, hc⟩ := Fr.nat_u32 (wl c (by simp))
  obtain ⟨d, rfl, hd⟩ := Fr.nat_u32 (wl d (by simp))
  clear wl
  change Calls _ _ #[.string s, .agg #[.int .u32 a, .int .u32 b, .int .u32 c, .int .u32 d], .int .i64 i] _ _
  by_cases hs : 1000 < s.size
  · have hs' : decide (1000 < (s.size : Int)) = true := by simp; omega
    have HM := Lib.hid hm
    clear hm
    go_enter Tryd.func3, Tryd.ntmps3
    go_wp2_with fail
    refine (dawake_any _ (HM.out.below (Bx.box_below _ _))).mono ?_; rintro e w1 ⟨rfl, hb1⟩
    go_wp2_with fail
    go_ret
    exact ⟨rfl, Bx.then_below (Bx.box_below _ _) hb1⟩
  · have hok : (⟨a, b, c, d⟩ : Q).ok := ⟨ha, hb, hc, hd⟩
    exact says_core s (padS s 64) ⟨(padL s.data.toList).toArray⟩ ⟨(sumL s.data.toList).toArray⟩ a b c d _ _ _ _ (constN i) (rotN d (i % 32).toNat) (mixF i a b c) (mixG i) i w (by simp; omega) (Lib.hid hm)
      (Lib.hid fun w => as_below (mix_any i a b c w ha hb hc)) (Lib.hid fun w => as_below (rmix_any i a b c w ha hb hc)) (Lib.hid fun w => pad_any s 64 w (by omega))
      (Lib.hid fun w hm => as_below (const_any i w hm)) (Lib.hid fun w => rconst_any i w) (Lib.hid fun w => as_below (turn_any d i w hd)) (Lib.hid fun w => as_below (rturn_any d i w hd))
      (Lib.hid fun w => dpad_any s w (by omega)) (Lib.hid fun w => rpad_any s w (by omega)) (Lib.hid fun w hm => block_any ⟨a, b, c, d⟩ hok (padS s 64) w hm) (Lib.hid fun w => rblock_any ⟨a, b, c, d⟩ hok (padS s 64) w)
      (Lib.hid fun w hm => sum_any s w (by omega) hm) (Lib.hid fun w => rsum_any s w (by omega))

end Dig
namespace LawDigestSays
open Go.ChangeShapes Go.WideShapes Go.ChangeAt Go.RowKit
open Go.ChangeMaps (open_string shut_string)

theorem own : ownKnob Tryd.prog.godebug = none := by kernel_rfl
theorem laidOut : laidOutB Tryd.prog = true := by kernel_rfl
theorem plain : (Rows.digestSaysRow.laid.all fun x => x.2.handleName?.isNone) = true := by kernel_rfl

set_option maxRecDepth 100000 in
theorem lifted (os : Os) (started : os.Started) (H : Type) (enc : TypeId × Value → H) :
    ReturnsInHanded {} Tryd.checked os 3 .any (fun w args => (Rows.digestSaysSpec.pre enc Tryd.prog Tryd.f3 Rows.digestSaysRow.domain false w args ∧ laidMetH Tryd.prog Rows.digestSaysRow.laid w) ∧ sizedMet enc Tryd.prog Tryd.f3 (OpenSpec.ofChange Rows.digestSaysSpec) false w args)
      (Rows.digestSaysSpec.post enc Tryd.prog Tryd.f3 false true false false) := by
  refine Fr.law_lift_laid (C := Tryd.checked) (laid := Rows.digestSaysRow.laid) (tb := 4) own started (by kernel_rfl) Tryd.func3
    (ChangeSpec.witness_shaped (enc := enc) (C := Tryd.checked) (os := os) (X := fun w _ => laidMetH Tryd.prog Rows.digestSaysRow.laid w) false (World.laidAll Tryd.prog os Rows.digestSaysRow.laid) #[.string ByteArray.empty, .agg #[.int .u32 0, .int .u32 0, .int .u32 0, .int .u32 0], .int .i64 0] 8 (World.laidAll_os _ _ _)
      (World.shaped_of_ZipB (by kernel_rfl) (by kernel_rfl)) (by kernel_rfl) (by kernel_rfl) (by kernel_rfl)
      (by rw [MakeChecks.laidMetH_plain _ _ _ plain]; exact laidMet_laidAll _ (by kernel_rfl) (by kernel_rfl)))
    laidOut (by rw [Tryd.params3]; decide +kernel) rfl Tryd.underlying4 rfl ?_ ?_
  · intro ds hl
    match ds, hl with
    | [d0, d1, d2], _ => rfl
  · intro W base args ds p hsh hL hval hA
    rw [Tryd.params3] at hA hval
    obtain ⟨v0, vs0, d0, ds0, p0, q0, hargs, rfl, rfl, h0, r0⟩ := trodAll_cons hA
    obtain ⟨v1, vs1, d1, ds1, p1, q1, rfl, rfl, rfl, h1, r1⟩ := trodAll_cons r0
    obtain ⟨v2, vs2, d2, ds2, p2, q2, rfl, rfl, rfl, h2, r2⟩ := trodAll_cons r1
    obtain ⟨rfl, rfl, rfl⟩ := trodAll_nil r2
    obtain rfl : args = #[v0, v1, v2] := by cases args; simp_all
    obtain ⟨a0, rfl, rfl, rfl, w0⟩ := open_string Tryd.underlying9 (hval 0 9 v0 rfl rfl) h0
    obtain ⟨z1, rfl, l1, y1⟩ := Fr.open_arr Tryd.underlying23 Tryd.underlying22 (by kernel_rfl) (by kernel_rfl) (hval 1 23 v1 rfl rfl) h1
    obtain ⟨a1, b1, c1, e1, rfl⟩ := Fr.four l1
    obtain ⟨a2, rfl, rfl, rfl, w2⟩ := open_int Tryd.underlying3 (hval 2 3 v2 rfl rfl) h2
    exact Dig.walk_says W a0 w0 a1 b1 c1 e1 y1 a2 w2 (Dig.home_of hsh hL plain (by simp [Rows.digestSaysRow]))

theorem over : Rows.digestSaysRow.holds Tryd.pinned (OpenSpec.ofChange Rows.digestSaysSpec) :=
  OpenClaim.holds_of_wide 3 Tryd.f3 rfl rfl rfl rfl rfl rfl rfl ⟨rfl, rfl, rfl, rfl, rfl⟩ rfl rfl rfl rfl rfl (by kernel_rfl) Tryd.func3 (by kernel_rfl)
    (of_decide_eq_true (by kernel_rfl)) (by unfold Func.isWrapper; first | (rw [if_pos (by decide +kernel)]; kernel_rfl) | (rw [if_neg (by decide +kernel)]; exact ⟨rfl, rfl⟩))
    (fun os started H enc _ => lifted os started H enc)
end LawDigestSays

/-- The statement DigestSays (the tied card). -/
theorem digestSays_holds : Rows.DigestSaysCardSaid :=
  Claim7.holds_tied_plain_at .later [] _ true _ _ LawDigestSays.over (fun _ h => by cases h) (by kernel_rfl) (fun _ h => by cases h) digestSays_row_tie rfl ⟨rfl, rfl⟩ (by kernel_rfl) rfl
    (fun f fn hf hfn => by
      obtain rfl : f = 3 := Option.some.inj ((show Tryd.prog.funcNamed Rows.digestSaysRow.func = some 3 by kernel_rfl).symm.trans hf) |>.symm
      obtain rfl : fn = Tryd.f3 := (Option.some.inj (Tryd.func3.symm.trans hfn)).symm
      exact ⟨by kernel_rfl, fun j t ht => by
        rw [Tryd.params3] at ht
        have hm : t ∈ [9, 23, 3] := by have := Array.mem_of_getElem? ht; simp at this; simp [this]
        have hall : ([9, 23, 3].all fun u => !Tryd.prog.wantsStandIn u) = true := by kernel_rfl
        exact (show Tryd.prog.wantsStandIn t = false by simpa using List.all_eq_true.1 hall t hm)⟩)
    (by kernel_rfl)

end Go.Proofs.YtgkgjjnlblgklaaDoor
