/-
  The statement MacBack (a tied card): for every address and text the law MacBack returns true, and its arguments read afterwards as they read before.
-/
import Derived.Test.YtjljfigppbahfaaDoorMacBackA
import Derived.Test.YtjljfigppbahfaaDoorMacHome
import Derived.Test.YtjljfigppbahfaaDoorCards
import Derived.Test.YtjljfigppbahfaaDoorTie
import Derived.SevenTiedAt
namespace Go.Proofs.YtjljfigppbahfaaDoor
open Go.RowKit
namespace Mac
open Oct Fr

theorem group_reserved (m : Nat) (h : reservedB m = true) : groupB m = true := by
  unfold reservedB at h
  unfold groupB
  simp at h ⊢
  omega

theorem list_mk (l : List UInt8) : (⟨l.toArray⟩ : ByteArray).data.toList = l := by simp

set_option maxHeartbeats 400000 in
theorem walk_back (w : World) (m : Int) (wm : (Lit.int .u64 m).wf = true) (s : ByteArray) (_ws : s.size ≤ maxLen) (hw : Home w) :
    Calls Tryd.prog 4 #[.int .u64 m, .string s] w fun e w' => e = .returned (.bool true) ∧ Below w.heap.size w w' := by
  have wam : 0 ≤ m ∧ m ≤ 18446744073709551615 := by simpa [Lit.wf, IntKind.min, IntKind.max, IntKind.signed, IntKind.bits] using wm
  obtain ⟨m, rfl⟩ := Int.eq_ofNat_of_zero_le wam.1
  have hm : m < 18446744073709551616 := by omega
  by_cases hs : 300 < s.size
  · have hs' : decide (300 < (s.size : Int)) = true := by simp; omega
    go_enter Tryd.func4, Tryd.ntmps4
    go_wp2_with fail
    refine (mawake_any _ hw).mono ?_; rintro e w1 ⟨rfl, hb1⟩
    go_wp2_with fail
    go_ret
    exact ⟨rfl, hb1⟩
  · have hk : m % 281474976710656 < 281474976710656 := by omega
    have HT := Lib.hid (fun w => text_any (m % 281474976710656) (by omega) w)
    have hts : (txtS (m % 281474976710656)).size ≤ 1048576 := by unfold txtS; rw [size_mk, txt_length6 _ (putL_length _ _)]; omega
    have HP := fun w (h : Home w) => parse_any (txtS (m % 281474976710656)) w h hts
    have e1 : parseR (txtS (m % 281474976710656)).data.toList = (m % 281474976710656, 0) := by
      unfold txtS
      rw [list_mk, parseR_good _ (putL_length _ _), getL_putL6 _ hk]
    rw [e1] at HP
    have HB := Lib.hid (fun w => bytes_any (m % 281474976710656) (by omega) w)
    have HR := Lib.hid (fun w => read_any ⟨(putL (m % 281474976710656) 6).toArray⟩ 0 w (by rw [size_mk, putL_length]; omega))
    have e2 : getR ⟨(putL (m % 281474976710656) 6).toArray⟩ 0 6 = (m % 281474976710656, 0) := by
      rw [getR_six _ (by rw [putL_length]; omega), List.take_of_length_le (by rw [putL_length]; omega), getL_putL6 _ hk]
    rw [e2] at HR
    have HI := Lib.hid (fun w => right_any (m % 281474976710656) w)
    rw [show rightB (m % 281474976710656) = true by unfold rightB; simpa using hk] at HI
    have HQ := fun w (h : Home w) => parse_any s w h (by omega)
    have HV := fun w (h : Home w) => reserved_any (m % 281474976710656) w h
    have HG := fun w => group_any (m % 281474976710656) (by omega) w
    have par : (parseR s.data.toList).2 = 3 ∨ ((parseR s.data.toList).2 = 0 ∧ (∀ w, Calls Tryd.prog 20 #[.int .u64 ((parseR s.data.toList).1 : Nat)] w fun e w' => e = .returned (.string s) ∧ Below w.heap.size w w') ∧ rightB (parseR s.data.toList).1 = true) := by
      rcases parseR_cases s.data.toList with h0 | h0
      · right
        have hlt := parseR_lt s.data.toList
        refine ⟨h0, fun w => ?_, by unfold rightB; simpa using hlt⟩
        obtain ⟨x, hx, ht, hc⟩ := parseR_zero _ h0
        have := text_any (parseR s.data.toList).1 (by omega) w
        rw [show txtS (parseR s.data.toList).1 = s by
          rw [hc]; unfold txtS; rw [putL_getL6 x hx, ht]] at this
        exact this
      · exact .inl h0
    cases hr : reservedB (m % 281474976710656) with
    | true =>
      rw [hr] at HV
      rw [group_reserved _ hr] at HG
      rcases par with h3 | ⟨h0, hX, hR⟩
      · rw [h3] at HQ
        exact back_yn m _ s _ _ _ w hw (by omega) (and48 m hm) HT (Lib.hid fun w h => HP w h) HB HR HI (Lib.hid HV) (Lib.hid HG) (Lib.hid HQ)
      · rw [h0] at HQ
        have HR2 := fun w => right_any (parseR s.data.toList).1 w
        rw [hR] at HR2
        exact back_yy m _ s _ _ _ w hw (by omega) (and48 m hm) HT (Lib.hid fun w h => HP w h) HB HR HI (Lib.hid HV) (Lib.hid HG) (Lib.hid HQ) (Lib.hid hX) (Lib.hid HR2)
    | false =>
      rw [hr] at HV
      rcases par with h3 | ⟨h0, hX, hR⟩
      · rw [h3] at HQ
        exact back_nn m _ s _ _ _ w hw (by omega) (and48 m hm) HT (Lib.hid fun w h => HP w h) HB HR HI (Lib.hid HV) (Lib.hid HQ)
      · rw [h0] at HQ
        have HR2 := fun w => right_any (parseR s.data.toList).1 w
        rw [hR] at HR2
        exact back_ny m _ s _ _ _ w hw (by omega) (and48 m hm) HT (Lib.hid fun w h => HP w h) HB HR HI (Lib.hid HV) (Lib.hid HQ) (Lib.hid hX) (Lib.hid HR2)

end Mac
namespace LawMacBack
open Go.ChangeShapes Go.WideShapes Go.ChangeAt Go.RowKit
open Go.ChangeMaps (open_string shut_string)

theorem own : ownKnob Tryd.prog.godebug = none := by kernel_rfl
theorem laidOut : laidOutB Tryd.prog = true := by kernel_rfl
theorem plain : (Rows.macBackRow.laid.all fun x => x.2.handleName?.isNone) = true := by kernel_rfl

set_option maxRecDepth 100000 in
theorem lifted (os : Os) (started : os.Started) (H : Type) (enc : TypeId × Value → H) :
    ReturnsInHanded {} Tryd.checked os 4 .any (fun w args => (Rows.macBackSpec.pre enc Tryd.prog Tryd.f4 Rows.macBackRow.domain false w args ∧ laidMetH Tryd.prog Rows.macBackRow.laid w) ∧ sizedMet enc Tryd.prog Tryd.f4 (OpenSpec.ofChange Rows.macBackSpec) false w args)
      (Rows.macBackSpec.post enc Tryd.prog Tryd.f4 false true false false) := by
  refine Fr.law_lift_laid (C := Tryd.checked) (laid := Rows.macBackRow.laid) (tb := 4) own started (by kernel_rfl) Tryd.func4
    (ChangeSpec.witness_shaped (enc := enc) (C := Tryd.checked) (os := os) (X := fun w _ => laidMetH Tryd.prog Rows.macBackRow.laid w) false (World.laidAll Tryd.prog os Rows.macBackRow.laid) #[.int .u64 0, .string ByteArray.empty] 8 (World.laidAll_os _ _ _)
      (World.shaped_of_ZipB (by kernel_rfl) (by kernel_rfl)) (by kernel_rfl) (by kernel_rfl) (by kernel_rfl)
      (by rw [MakeChecks.laidMetH_plain _ _ _ plain]; exact laidMet_laidAll _ (by kernel_rfl) (by kernel_rfl)))
    laidOut (by rw [Tryd.params4]; decide +kernel) rfl Tryd.underlying4 rfl ?_ ?_
  · intro ds hl
    match ds, hl with
    | [d0, d1], _ => rfl
  · intro W base args ds p hsh hL hval hA
    rw [Tryd.params4] at hA hval
    obtain ⟨v0, vs0, d0, ds0, p0, q0, hargs, rfl, rfl, h0, r0⟩ := trodAll_cons hA
    obtain ⟨v1, vs1, d1, ds1, p1, q1, rfl, rfl, rfl, h1, r1⟩ := trodAll_cons r0
    obtain ⟨rfl, rfl, rfl⟩ := trodAll_nil r1
    obtain rfl : args = #[v0, v1] := by cases args; simp_all
    obtain ⟨a0, rfl, rfl, rfl, w0⟩ := open_int Tryd.underlying23 (hval 0 23 v0 rfl rfl) h0
    obtain ⟨a1, rfl, rfl, rfl, w1⟩ := open_string Tryd.underlying9 (hval 1 9 v1 rfl rfl) h1
    exact Mac.walk_back W a0 w0 a1 w1 (Mac.home_of hsh hL plain (by simp [Rows.macBackRow]))

theorem over : Rows.macBackRow.holds Tryd.pinned (OpenSpec.ofChange Rows.macBackSpec) :=
  OpenClaim.holds_of_wide 4 Tryd.f4 rfl rfl rfl rfl rfl rfl rfl ⟨rfl, rfl, rfl, rfl, rfl⟩ rfl rfl rfl rfl rfl (by kernel_rfl) Tryd.func4 (by kernel_rfl)
    (of_decide_eq_true (by kernel_rfl)) (by unfold Func.isWrapper; first | (rw [if_pos (by decide +kernel)]; kernel_rfl) | (rw [if_neg (by decide +kernel)]; exact ⟨rfl, rfl⟩))
    (fun os started H enc _ => lifted os started H enc)
end LawMacBack

/-- The statement MacBack (the tied card). -/
theorem macBack_holds : Rows.MacBackCardSaid :=
  Claim7.holds_tied_plain_at .later [] _ true _ _ LawMacBack.over (fun _ h => by cases h) (by kernel_rfl) (fun _ h => by cases h) macBack_row_tie rfl ⟨rfl, rfl⟩ (by kernel_rfl) rfl
    (fun f fn hf hfn => by
      obtain rfl : f = 4 := Option.some.inj ((show Tryd.prog.funcNamed Rows.macBackRow.func = some 4 by kernel_rfl).symm.trans hf) |>.symm
      obtain rfl : fn = Tryd.f4 := (Option.some.inj (Tryd.func4.symm.trans hfn)).symm
      exact ⟨by kernel_rfl, fun j t ht => by
        rw [Tryd.params4] at ht
        have hm : t ∈ [23, 9] := by have := Array.mem_of_getElem? ht; simp at this; simp [this]
        have hall : ([23, 9].all fun u => !Tryd.prog.wantsStandIn u) = true := by kernel_rfl
        exact (show Tryd.prog.wantsStandIn t = false by simpa using List.all_eq_true.1 hall t hm)⟩)
    (by kernel_rfl)

end Go.Proofs.YtjljfigppbahfaaDoor
