/-
  The statement MacSays (a tied card): for every address, text and place the law MacSays returns true, and its arguments read afterwards as they read before.
-/
import Derived.Test.YtjljfigppbahfaaDoorMacSaysA
import Derived.Test.YtjljfigppbahfaaDoorMacHome
import Derived.Test.YtjljfigppbahfaaDoorCards
import Derived.Test.YtjljfigppbahfaaDoorTie
import Derived.SevenTiedAt
namespace Go.Proofs.YtjljfigppbahfaaDoor
open Go.RowKit
namespace Mac
open Oct Fr

set_option maxHeartbeats 400000 in
theorem walk_says (w : World) (m : Int) (wm : (Lit.int .u64 m).wf = true) (s : ByteArray) (_ws : s.size ≤ maxLen) (a : Int) (_wa : (Lit.int .i64 a).wf = true) (hw : Home w) :
    Calls Tryd.prog 3 #[.int .u64 m, .string s, .int .i64 a] w fun e w' => e = .returned (.bool true) ∧ Below w.heap.size w w' := by
  have wam : 0 ≤ m ∧ m ≤ 18446744073709551615 := by simpa [Lit.wf, IntKind.min, IntKind.max, IntKind.signed, IntKind.bits] using wm
  obtain ⟨m, rfl⟩ := Int.eq_ofNat_of_zero_le wam.1
  have hm : m < 18446744073709551616 := by omega
  by_cases hs : 300 < s.size
  · have hs' : decide (300 < (s.size : Int)) = true := by simp; omega
    go_enter Tryd.func3, Tryd.ntmps3
    go_wp2_with fail
    refine (mawake_any _ hw).mono ?_; rintro e w1 ⟨rfl, hb1⟩
    go_wp2_with fail
    go_ret
    exact ⟨rfl, hb1⟩
  · exact says_core m _ _ s _ _ a _ _ _ _ _ w hw (by omega) (Lib.hid fun w h => parse_any s w h (by omega)) (Lib.hid fun w => rparse_any s w (by omega))
      (Lib.hid fun w => read_any s a w (by omega)) (Lib.hid fun w => rread_any s a w (by omega)) (Lib.hid fun w => right_any m w) (Lib.hid fun w => rright_any m w)
      (Lib.hid fun w => group_any m hm w) (Lib.hid fun w => rgroup_any m hm w) (Lib.hid fun w h => reserved_any m w h) (Lib.hid fun w => rreserved_any m hm w)
      (Lib.hid fun w => bytes_any m hm w) (Lib.hid fun w => rbytes_any m hm w) (Lib.hid fun w => text_any m hm w) (Lib.hid fun w => rtext_any m hm w)

end Mac
namespace LawMacSays
open Go.ChangeShapes Go.WideShapes Go.ChangeAt Go.RowKit
open Go.ChangeMaps (open_string shut_string)

theorem own : ownKnob Tryd.prog.godebug = none := by kernel_rfl
theorem laidOut : laidOutB Tryd.prog = true := by kernel_rfl
theorem plain : (Rows.macSaysRow.laid.all fun x => x.2.handleName?.isNone) = true := by kernel_rfl

set_option maxRecDepth 100000 in
theorem lifted (os : Os) (started : os.Started) (H : Type) (enc : TypeId × Value → H) :
    ReturnsInHanded {} Tryd.checked os 3 .any (fun w args => (Rows.macSaysSpec.pre enc Tryd.prog Tryd.f3 Rows.macSaysRow.domain false w args ∧ laidMetH Tryd.prog Rows.macSaysRow.laid w) ∧ sizedMet enc Tryd.prog Tryd.f3 (OpenSpec.ofChange Rows.macSaysSpec) false w args)
      (Rows.macSaysSpec.post enc Tryd.prog Tryd.f3 false true false false) := by
  refine Fr.law_lift_laid (C := Tryd.checked) (laid := Rows.macSaysRow.laid) (tb := 4) own started (by kernel_rfl) Tryd.func3
    (ChangeSpec.witness_shaped (enc := enc) (C := Tryd.checked) (os := os) (X := fun w _ => laidMetH Tryd.prog Rows.macSaysRow.laid w) false (World.laidAll Tryd.prog os Rows.macSaysRow.laid) #[.int .u64 0, .string ByteArray.empty, .int .i64 0] 8 (World.laidAll_os _ _ _)
      (World.shaped_of_ZipB (by kernel_rfl) (by kernel_rfl)) (by kernel_rfl) (by kernel_rfl) (by kernel_rfl)
      (by rw [MakeChecks.laidMetH_plain _ _ _ plain]; exact laidMet_laidAll _ (by kernel_rfl) (by kernel_rfl)))
    laidOut (by rw [Tryd.params3]; decide +kernel) rfl Tryd.underlying4 rfl ?_ ?_
  · intro ds hl
    match ds, hl with
    | [d0, d1, d2], _ => rfl
  · intro W base args ds p hsh hL hval hA
    rw [Tryd.params3] at hA hval
    obtain ⟨v0, vs0, d0, ds0, p0, q0, hargs, rfl, rfl, h0, r0⟩ := trodAll_cons hA
    obtain ⟨v1, vs1, d1, ds1, p1, q1, rfl, rfl, rfl, h1, r1⟩ := trodAll_cons r0
    obtain ⟨v2, vs2, d2, ds2, p2, q2, rfl, rfl, rfl, h2, r2⟩ := trodAll_cons r1
    obtain ⟨rfl, rfl, rfl⟩ := trodAll_nil r2
    obtain rfl : args = #[v0, v1, v2] := by cases args; simp_all
    obtain ⟨a0, rfl, rfl, rfl, w0⟩ := open_int Tryd.underlying23 (hval 0 23 v0 rfl rfl) h0
    obtain ⟨a1, rfl, rfl, rfl, w1⟩ := open_string Tryd.underlying9 (hval 1 9 v1 rfl rfl) h1
    obtain ⟨a2, rfl, rfl, rfl, w2⟩ := open_int Tryd.underlying3 (hval 2 3 v2 rfl rfl) h2
    exact Mac.walk_says W a0 w0 a1 w1 a2 w2 (Mac.home_of hsh hL plain (by simp [Rows.macSaysRow]))

theorem over : Rows.macSaysRow.holds Tryd.pinned (OpenSpec.ofChange Rows.macSaysSpec) :=
  OpenClaim.holds_of_wide 3 Tryd.f3 rfl rfl rfl rfl rfl rfl rfl ⟨rfl, rfl, rfl, rfl, rfl⟩ rfl rfl rfl rfl rfl (by kernel_rfl) Tryd.func3 (by kernel_rfl)
    (of_decide_eq_true (by kernel_rfl)) (by unfold Func.isWrapper; first | (rw [if_pos (by decide +kernel)]; kernel_rfl) | (rw [if_neg (by decide +kernel)]; exact ⟨rfl, rfl⟩))
    (fun os started H enc _ => lifted os started H enc)
end LawMacSays

/-- The statement MacSays (the tied card). -/
theorem macSays_holds : Rows.MacSaysCardSaid :=
  Claim7.holds_tied_plain_at .later [] _ true _ _ LawMacSays.over (fun _ h => by cases h) (by kernel_rfl) (fun _ h => by cases h) macSays_row_tie rfl ⟨rfl, rfl⟩ (by kernel_rfl) rfl
    (fun f fn hf hfn => by
      obtain rfl : f = 3 := Option.some.inj ((show Tryd.prog.funcNamed Rows.macSaysRow.func = some 3 by kernel_rfl).symm.trans hf) |>.symm
      obtain rfl : fn = Tryd.f3 := (Option.some.inj (Tryd.func3.symm.trans hfn)).symm
      exact ⟨by kernel_rfl, fun j t ht => by
        rw [Tryd.params3] at ht
        have hm : t ∈ [23, 9, 3] := by have := Array.mem_of_getElem? ht; simp at this; simp [this]
        have hall : ([23, 9, 3].all fun u => !Tryd.prog.wantsStandIn u) = true := by kernel_rfl
        exact (show Tryd.prog.wantsStandIn t = false by simpa using List.all_eq_true.1 hall t hm)⟩)
    (by kernel_rfl)

end Go.Proofs.YtjljfigppbahfaaDoor
