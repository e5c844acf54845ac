/-
  The statement MacMakers (a tied card): for every address, maker and number the law MacMakers returns true, and its arguments read afterwards as they read before.
-/
import Derived.Test.YtjljfigppbahfaaDoorMacAwake
import Derived.Test.YtjljfigppbahfaaDoorMacHome
import Derived.Test.YtjljfigppbahfaaDoorCards
import Derived.Test.YtjljfigppbahfaaDoorTie
import Derived.SevenTiedAt
namespace Go.Proofs.YtjljfigppbahfaaDoor
open Go.RowKit
namespace Mac
open Oct Fr

set_option maxHeartbeats 400000 in
theorem makers_core_yes (m r q A M K MK L : Nat) (B : Bool) (w : World) (hw : Home w)
    (HM1 : Hid (∀ w, Calls Tryd.prog 22 #[.int .u64 r, .int .i64 q] w fun e w' => e = .returned (.tuple #[.int .u64 A, .int .i64 0]) ∧ w = w'))
    (HM2 : Hid (∀ w, Calls Tryd.prog 23 #[.int .u64 r, .int .i64 q] w fun e w' => e = .returned (.tuple #[.int .u64 A, .int .i64 0]) ∧ w = w'))
    (HK1 : Hid (∀ w, Calls Tryd.prog 24 #[.int .u64 m] w fun e w' => e = .returned (.int .u64 M) ∧ w = w'))
    (HK2 : Hid (∀ w, Calls Tryd.prog 25 #[.int .u64 m] w fun e w' => e = .returned (.int .u64 M) ∧ w = w'))
    (HL1 : Hid (∀ w, Calls Tryd.prog 26 #[.int .u64 m] w fun e w' => e = .returned (.bool B) ∧ w = w'))
    (HL2 : Hid (∀ w, Calls Tryd.prog 27 #[.int .u64 m] w fun e w' => e = .returned (.bool B) ∧ w = w'))
    (HK4 : Hid (∀ w, Calls Tryd.prog 24 #[.int .u64 K] w fun e w' => e = .returned (.int .u64 MK) ∧ w = w'))
    (HM3 : Hid (∀ w, Calls Tryd.prog 22 #[.int .u64 MK, .int .i64 L] w fun e w' => e = .returned (.tuple #[.int .u64 K, .int .i64 0]) ∧ w = w'))
    (HK3 : Hid (∀ w, Calls Tryd.prog 24 #[.int .u64 A] w fun e w' => e = .returned (.int .u64 r) ∧ w = w'))
    (HR : Hid (∀ w, Calls Tryd.prog 12 #[.int .u64 A] w fun e w' => e = .returned (.bool true) ∧ w = w'))
    (hK : bits .and .u64 (m : Int) 281474976710655 = (K : Int)) (hL : bits .and .u64 (K : Int) 16777215 = (L : Int)) (hL2 : L < 16777216) (hA : bits .and .u64 (A : Int) 16777215 = (q : Int)) (hq : q < 16777216) :
    Calls Tryd.prog 5 #[.int .u64 m, .int .u64 r, .int .i64 q] w fun e w' => e = .returned (.bool true) ∧ Below w.heap.size w w' := by
  have x1 : ((A : Int) == (A : Int)) = true := by simp
  have x3 : ((M : Int) == (M : Int)) = true := by simp
  have x4 : (B == B) = true := by simp
  have x5 : ((K : Int) == (K : Int)) = true := by simp
  have y1 : ((A : Int) != (A : Int)) = false := by simp
  have y3 : ((M : Int) != (M : Int)) = false := by simp
  have y4 : (B != B) = false := by simp
  have y5 : ((r : Int) != (r : Int)) = false := by simp
  have y6 : ((q : Int) != (q : Int)) = false := by simp
  go_enter Tryd.func5, Tryd.ntmps5
  go_wp2_with fail
  refine (HM1.out _).mono ?_; rintro e w' ⟨rfl, rfl⟩
  go_wp2_with fail
  refine (HM2.out _).mono ?_; rintro e w' ⟨rfl, rfl⟩
  go_wp2_with fail
  refine (HK1.out _).mono ?_; rintro e w' ⟨rfl, rfl⟩
  go_wp2_with fail
  refine (HK2.out _).mono ?_; rintro e w' ⟨rfl, rfl⟩
  go_wp2_with fail
  refine (HL1.out _).mono ?_; rintro e w' ⟨rfl, rfl⟩
  go_wp2_with fail
  refine (HL2.out _).mono ?_; rintro e w' ⟨rfl, rfl⟩
  go_wp2_with fail
  refine (HK3.out _).mono ?_; rintro e w' ⟨rfl, rfl⟩
  go_wp2_with fail
  refine (HR.out _).mono ?_; rintro e w' ⟨rfl, rfl⟩
  go_wp2_with fail
  refine (HK4.out _).mono ?_; rintro e w' ⟨rfl, rfl⟩
  go_wp2_with fail
  refine (HM3.out _).mono ?_; rintro e w' ⟨rfl, rfl⟩
  go_wp2_with fail
  refine (mawake_any _ hw).mono ?_; rintro e w3 ⟨rfl, hb3⟩
  go_wp2_with fail
  go_ret
  exact ⟨rfl, hb3⟩

set_option maxHeartbeats 400000 in
theorem makers_core_no (m r A M K MK L : Nat) (n E : Int) (B : Bool) (w : World) (hw : Home w)
    (HM1 : Hid (∀ w, Calls Tryd.prog 22 #[.int .u64 r, .int .i64 n] w fun e w' => e = .returned (.tuple #[.int .u64 A, .int .i64 E]) ∧ w = w'))
    (HM2 : Hid (∀ w, Calls Tryd.prog 23 #[.int .u64 r, .int .i64 n] w fun e w' => e = .returned (.tuple #[.int .u64 A, .int .i64 E]) ∧ w = w'))
    (HK1 : Hid (∀ w, Calls Tryd.prog 24 #[.int .u64 m] w fun e w' => e = .returned (.int .u64 M) ∧ w = w'))
    (HK2 : Hid (∀ w, Calls Tryd.prog 25 #[.int .u64 m] w fun e w' => e = .returned (.int .u64 M) ∧ w = w'))
    (HL1 : Hid (∀ w, Calls Tryd.prog 26 #[.int .u64 m] w fun e w' => e = .returned (.bool B) ∧ w = w'))
    (HL2 : Hid (∀ w, Calls Tryd.prog 27 #[.int .u64 m] w fun e w' => e = .returned (.bool B) ∧ w = w'))
    (HK4 : Hid (∀ w, Calls Tryd.prog 24 #[.int .u64 K] w fun e w' => e = .returned (.int .u64 MK) ∧ w = w'))
    (HM3 : Hid (∀ w, Calls Tryd.prog 22 #[.int .u64 MK, .int .i64 L] w fun e w' => e = .returned (.tuple #[.int .u64 K, .int .i64 0]) ∧ w = w'))
    (hK : bits .and .u64 (m : Int) 281474976710655 = (K : Int)) (hL : bits .and .u64 (K : Int) 16777215 = (L : Int)) (hL2 : L < 16777216) (hE : (E == 0) = false) :
    Calls Tryd.prog 5 #[.int .u64 m, .int .u64 r, .int .i64 n] w fun e w' => e = .returned (.bool true) ∧ Below w.heap.size w w' := by
  have x1 : ((A : Int) == (A : Int)) = true := by simp
  have x2 : (E == E) = true := by simp
  have x3 : ((M : Int) == (M : Int)) = true := by simp
  have x4 : (B == B) = true := by simp
  have x5 : ((K : Int) == (K : Int)) = true := by simp
  have y1 : ((A : Int) != (A : Int)) = false := by simp
  have y2 : (E != E) = false := by simp
  have y3 : ((M : Int) != (M : Int)) = false := by simp
  have y4 : (B != B) = false := by simp
  go_enter Tryd.func5, Tryd.ntmps5
  go_wp2_with fail
  refine (HM1.out _).mono ?_; rintro e w' ⟨rfl, rfl⟩
  go_wp2_with fail
  refine (HM2.out _).mono ?_; rintro e w' ⟨rfl, rfl⟩
  go_wp2_with fail
  refine (HK1.out _).mono ?_; rintro e w' ⟨rfl, rfl⟩
  go_wp2_with fail
  refine (HK2.out _).mono ?_; rintro e w' ⟨rfl, rfl⟩
  go_wp2_with fail
  refine (HL1.out _).mono ?_; rintro e w' ⟨rfl, rfl⟩
  go_wp2_with fail
  refine (HL2.out _).mono ?_; rintro e w' ⟨rfl, rfl⟩
  go_wp2_with fail
  refine (HK4.out _).mono ?_; rintro e w' ⟨rfl, rfl⟩
  go_wp2_with fail
  refine (HM3.out _).mono ?_; rintro e w' ⟨rfl, rfl⟩
  go_wp2_with fail
  refine (mawake_any _ hw).mono ?_; rintro e w3 ⟨rfl, hb3⟩
  go_wp2_with fail
  go_ret
  exact ⟨rfl, hb3⟩

theorem makerN_lt (m : Nat) : makerN m < 16777216 := by unfold makerN; omega

theorem walk_makers (w : World) (m : Int) (wm : (Lit.int .u64 m).wf = true) (r : Int) (wr : (Lit.int .u64 r).wf = true) (n : Int) (_wn : (Lit.int .i64 n).wf = true) (hw : Home w) :
    Calls Tryd.prog 5 #[.int .u64 m, .int .u64 r, .int .i64 n] w fun e w' => e = .returned (.bool true) ∧ Below w.heap.size w w' := by
  have wam : 0 ≤ m ∧ m ≤ 18446744073709551615 := by simpa [Lit.wf, IntKind.min, IntKind.max, IntKind.signed, IntKind.bits] using wm
  obtain ⟨m, rfl⟩ := Int.eq_ofNat_of_zero_le wam.1
  have war : 0 ≤ r ∧ r ≤ 18446744073709551615 := by simpa [Lit.wf, IntKind.min, IntKind.max, IntKind.signed, IntKind.bits] using wr
  obtain ⟨r, rfl⟩ := Int.eq_ofNat_of_zero_le war.1
  have hm : m < 18446744073709551616 := by omega
  have hk : m % 281474976710656 < 281474976710656 := by omega
  have h3 : madeR (makerN (m % 281474976710656)) ((m % 281474976710656 % 16777216 : Nat) : Int) = (m % 281474976710656, 0) := by
    unfold madeR makerN
    rw [if_pos ⟨by omega, by omega, by omega⟩]
    congr 1
    omega
  have HM3 := fun w => made_any (makerN (m % 281474976710656)) ((m % 281474976710656 % 16777216 : Nat) : Int) w
  rw [h3] at HM3
  by_cases h : r < 16777216 ∧ 0 ≤ n ∧ n < 16777216
  · obtain ⟨q, rfl⟩ : ∃ q : Nat, n = q := ⟨n.toNat, by omega⟩
    have hq : q < 16777216 := by omega
    have e1 : madeR r q = (r * 16777216 + q, 0) := by unfold madeR; rw [if_pos h]; rfl
    have M1 := fun w => made_any r q w
    have M2 := fun w => rmade_any r q w
    rw [e1] at M1 M2
    have K3 := fun w => maker_any (r * 16777216 + q) (by omega) w
    rw [show makerN (r * 16777216 + q) = r by unfold makerN; omega] at K3
    have R := fun w => right_any (r * 16777216 + q) w
    rw [show rightB (r * 16777216 + q) = true by unfold rightB; simp; omega] at R
    have hA := and24 (r * 16777216 + q) (by omega)
    rw [show (r * 16777216 + q) % 16777216 = q by omega] at hA
    exact makers_core_yes m r q _ _ _ _ _ _ w hw (Lib.hid M1) (Lib.hid M2) (Lib.hid fun w => maker_any m hm w) (Lib.hid fun w => rmaker_any m hm w) (Lib.hid fun w => local_any m hm w) (Lib.hid fun w => rlocal_any m hm w)
      (Lib.hid fun w => maker_any _ (by omega) w) (Lib.hid HM3) (Lib.hid K3) (Lib.hid R) (and48 m hm) (and24 _ (by omega)) (by omega) hA hq
  · have e1 : madeR r n = (0, 1) := by unfold madeR; rw [if_neg h]
    have M1 := fun w => made_any r n w
    have M2 := fun w => rmade_any r n w
    rw [e1] at M1 M2
    exact makers_core_no m r _ _ _ _ _ n 1 _ w hw (Lib.hid M1) (Lib.hid M2) (Lib.hid fun w => maker_any m hm w) (Lib.hid fun w => rmaker_any m hm w) (Lib.hid fun w => local_any m hm w) (Lib.hid fun w => rlocal_any m hm w)
      (Lib.hid fun w => maker_any _ (by omega) w) (Lib.hid HM3) (and48 m hm) (and24 _ (by omega)) (by omega) rfl

end Mac
namespace LawMacMakers
open Go.ChangeShapes Go.WideShapes Go.ChangeAt Go.RowKit
open Go.ChangeMaps (open_string shut_string)

theorem own : ownKnob Tryd.prog.godebug = none := by kernel_rfl
theorem laidOut : laidOutB Tryd.prog = true := by kernel_rfl
theorem plain : (Rows.macMakersRow.laid.all fun x => x.2.handleName?.isNone) = true := by kernel_rfl

set_option maxRecDepth 100000 in
theorem lifted (os : Os) (started : os.Started) (H : Type) (enc : TypeId × Value → H) :
    ReturnsInHanded {} Tryd.checked os 5 .any (fun w args => (Rows.macMakersSpec.pre enc Tryd.prog Tryd.f5 Rows.macMakersRow.domain false w args ∧ laidMetH Tryd.prog Rows.macMakersRow.laid w) ∧ sizedMet enc Tryd.prog Tryd.f5 (OpenSpec.ofChange Rows.macMakersSpec) false w args)
      (Rows.macMakersSpec.post enc Tryd.prog Tryd.f5 false true false false) := by
  refine Fr.law_lift_laid (C := Tryd.checked) (laid := Rows.macMakersRow.laid) (tb := 4) own started (by kernel_rfl) Tryd.func5
    (ChangeSpec.witness_shaped (enc := enc) (C := Tryd.checked) (os := os) (X := fun w _ => laidMetH Tryd.prog Rows.macMakersRow.laid w) false (World.laidAll Tryd.prog os Rows.macMakersRow.laid) #[.int .u64 0, .int .u64 0, .int .i64 0] 8 (World.laidAll_os _ _ _)
      (World.shaped_of_ZipB (by kernel_rfl) (by kernel_rfl)) (by kernel_rfl) (by kernel_rfl) (by kernel_rfl)
      (by rw [MakeChecks.laidMetH_plain _ _ _ plain]; exact laidMet_laidAll _ (by kernel_rfl) (by kernel_rfl)))
    laidOut (by rw [Tryd.params5]; decide +kernel) rfl Tryd.underlying4 rfl ?_ ?_
  · intro ds hl
    match ds, hl with
    | [d0, d1, d2], _ => rfl
  · intro W base args ds p hsh hL hval hA
    rw [Tryd.params5] at hA hval
    obtain ⟨v0, vs0, d0, ds0, p0, q0, hargs, rfl, rfl, h0, r0⟩ := trodAll_cons hA
    obtain ⟨v1, vs1, d1, ds1, p1, q1, rfl, rfl, rfl, h1, r1⟩ := trodAll_cons r0
    obtain ⟨v2, vs2, d2, ds2, p2, q2, rfl, rfl, rfl, h2, r2⟩ := trodAll_cons r1
    obtain ⟨rfl, rfl, rfl⟩ := trodAll_nil r2
    obtain rfl : args = #[v0, v1, v2] := by cases args; simp_all
    obtain ⟨a0, rfl, rfl, rfl, w0⟩ := open_int Tryd.underlying23 (hval 0 23 v0 rfl rfl) h0
    obtain ⟨a1, rfl, rfl, rfl, w1⟩ := open_int Tryd.underlying22 (hval 1 22 v1 rfl rfl) h1
    obtain ⟨a2, rfl, rfl, rfl, w2⟩ := open_int Tryd.underlying3 (hval 2 3 v2 rfl rfl) h2
    exact Mac.walk_makers W a0 w0 a1 w1 a2 w2 (Mac.home_of hsh hL plain (by simp [Rows.macMakersRow]))

theorem over : Rows.macMakersRow.holds Tryd.pinned (OpenSpec.ofChange Rows.macMakersSpec) :=
  OpenClaim.holds_of_wide 5 Tryd.f5 rfl rfl rfl rfl rfl rfl rfl ⟨rfl, rfl, rfl, rfl, rfl⟩ rfl rfl rfl rfl rfl (by kernel_rfl) Tryd.func5 (by kernel_rfl)
    (of_decide_eq_true (by kernel_rfl)) (by unfold Func.isWrapper; first | (rw [if_pos (by decide +kernel)]; kernel_rfl) | (rw [if_neg (by decide +kernel)]; exact ⟨rfl, rfl⟩))
    (fun os started H enc _ => lifted os started H enc)
end LawMacMakers

/-- The statement MacMakers (the tied card). -/
theorem macMakers_holds : Rows.MacMakersCardSaid :=
  Claim7.holds_tied_plain_at .later [] _ true _ _ LawMacMakers.over (fun _ h => by cases h) (by kernel_rfl) (fun _ h => by cases h) macMakers_row_tie rfl ⟨rfl, rfl⟩ (by kernel_rfl) rfl
    (fun f fn hf hfn => by
      obtain rfl : f = 5 := Option.some.inj ((show Tryd.prog.funcNamed Rows.macMakersRow.func = some 5 by kernel_rfl).symm.trans hf) |>.symm
      obtain rfl : fn = Tryd.f5 := (Option.some.inj (Tryd.func5.symm.trans hfn)).symm
      exact ⟨by kernel_rfl, fun j t ht => by
        rw [Tryd.params5] at ht
        have hm : t ∈ [23, 22, 3] := by have := Array.mem_of_getElem? ht; simp at this; simp [this]
        have hall : ([23, 22, 3].all fun u => !Tryd.prog.wantsStandIn u) = true := by kernel_rfl
        exact (show Tryd.prog.wantsStandIn t = false by simpa using List.all_eq_true.1 hall t hm)⟩)
    (by kernel_rfl)

end Go.Proofs.YtjljfigppbahfaaDoor
