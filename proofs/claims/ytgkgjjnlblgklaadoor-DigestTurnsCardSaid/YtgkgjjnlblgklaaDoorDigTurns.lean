/-
  The statement DigestTurns (a tied card): for every word, number and three words the law DigestTurns returns true, and its arguments read afterwards as they read before.
-/
import Derived.Test.YtgkgjjnlblgklaaDoorDigK
import Derived.Test.YtgkgjjnlblgklaaDoorDigTurnsA
import Derived.Test.YtgkgjjnlblgklaaDoorDigHome
import Derived.Test.YtgkgjjnlblgklaaDoorOpenArr
import Derived.Test.YtgkgjjnlblgklaaDoorCards
import Derived.Test.YtgkgjjnlblgklaaDoorTie
import Derived.SevenTiedAt
namespace Go.Proofs.YtgkgjjnlblgklaaDoor
open Go.RowKit
namespace Dig
open Oct Fr

theorem andnot_right (a b : Nat) (ha : a < 4294967296) (hb : b < 4294967296) : bits .andNot .u32 (a : Int) (b : Int) = ((a &&& notN b : Nat) : Int) := by
  have hx := and_lt a (notN b) (notN_lt b)
  show IntKind.u32.wrap ((BitVec.ofInt 32 (a : Int) &&& ~~~ BitVec.ofInt 32 (b : Int)).toNat : Int) = _
  have hn : (~~~ BitVec.ofInt 32 (b : Int)).toNat = notN b := by
    rw [BitVec.toNat_not, ofInt_u32 b hb]
    unfold notN
    omega
  rw [BitVec.toNat_and, ofInt_u32 a ha, hn, IntKind.wrap_u32']
  omega

set_option maxHeartbeats 1000000 in
theorem walk_turns (w : World) (x : Int) (wx : (Lit.int .u32 x).wf = true) (n : Int) (_wn : (Lit.int .i64 n).wf = true) (a b c : Int) (wl : ∀ z ∈ [a, b, c], (Lit.int .u32 z).wf = true) (hm : Home w) :
    Calls Tryd.prog 5 #[.int .u32 x, .int .i64 n, .agg (List.map (Value.int .u32) [a, b, c]).toArray] w fun e w' => e = .returned (.bool true) ∧ Below w.heap.size w w' := by
  obtain ⟨x, rfl, hx⟩ := Fr.nat_u32 wx
  obtain ⟨a, rfl, ha⟩ := Fr.nat_u32 (wl a (by simp))
  obtain ⟨b, rfl, hb⟩ := Fr.nat_u32 (wl b (by simp))
  obtain ⟨c, rfl, hc⟩ := Fr.nat_u32 (wl c (by simp))
  clear wx wl
  change Calls _ _ #[.int .u32 x, .int .i64 n, .agg #[.int .u32 a, .int .u32 b, .int .u32 c]] _ _
  obtain ⟨m, hm2⟩ : ∃ m : Nat, n % 32 = m := ⟨(n % 32).toNat, by omega⟩
  have hm32 : m < 32 := by omega
  have k1 := low31 n
  rw [hm2] at k1
  clear hm2
  have T1 := Lib.hid (fun w => turn_any x m w hx)
  rw [show ((m : Int) % 32).toNat = m by omega] at T1
  have T2 := Lib.hid (fun w => turn_any (rotN x m) (32 - (m : Int)) w (rotN_lt x m hx))
  rw [show ((32 - (m : Int)) % 32).toNat = (32 - m) % 32 by omega, rot_back x m hx hm32] at T2
  have T3 := Lib.hid (fun w => turn_any x ((m : Int) + 32) w hx)
  rw [show (((m : Int) + 32) % 32).toNat = m by omega] at T3
  have hr := rotN_lt x m hx
  generalize rotN x m = r at *
  have M1 := Lib.hid (fun w => mix_any 3 a b c w ha hb hc)
  have M2 := Lib.hid (fun w => mix_any 20 b c a w hb hc ha)
  have M3 := Lib.hid (fun w => mix_any 40 a b c w ha hb hc)
  have hF : mixF 20 b c a = mixF 3 a b c := rfl
  have hF3 : mixF 40 a b c = a ^^^ b ^^^ c := rfl
  have hlt := mixF_lt 3 a b c ha hb hc
  have f1 : bits .and .u32 (mixF 3 a b c : Nat) (a : Int) = bits .and .u32 (b : Int) (a : Int) := by
    rw [u32_and_nat _ a hlt ha, u32_and_nat b a hb ha]
    have := (mix_and a b c).resolve_right (by omega)
    rw [← this]; rfl
  have f2 : bits .andNot .u32 (mixF 3 a b c : Nat) (a : Int) = bits .andNot .u32 (c : Int) (a : Int) := by
    rw [andnot_right _ a hlt ha, andnot_right c a hc ha]
    have := (mix_andnot a b c).resolve_right (by omega)
    rw [← this]; rfl
  have f3 : bits .xor .u32 (bits .xor .u32 (a : Int) (b : Int)) (c : Int) = ((a ^^^ b ^^^ c : Nat) : Int) := odd_right a b c ha hb hc
  rw [hF] at M2
  rw [hF3] at M3
  clear hF hF3
  generalize mixF 3 a b c = F at *
  generalize a ^^^ b ^^^ c = X at *
  generalize mixG 3 = g1 at *
  generalize mixG 20 = g2 at *
  generalize mixG 40 = g3 at *
  have HM := Lib.hid hm
  clear hm
  go_enter Tryd.func5, Tryd.ntmps5
  go_wp2_with fail
  refine (T1.out _).mono ?_; rintro e w1 ⟨rfl, rfl⟩
  go_wp2_with fail
  refine (T2.out _).mono ?_; rintro e w1 ⟨rfl, rfl⟩
  go_wp2_with fail
  refine (T3.out _).mono ?_; rintro e w1 ⟨rfl, rfl⟩
  go_wp2_with fail
  refine (T1.out _).mono ?_; rintro e w1 ⟨rfl, rfl⟩
  go_wp2_with fail
  refine (M1.out _).mono ?_; rintro e w1 ⟨rfl, rfl⟩
  go_wp2_with fail
  refine (M2.out _).mono ?_; rintro e w1 ⟨rfl, rfl⟩
  go_wp2_with fail
  refine (M3.out _).mono ?_; rintro e w1 ⟨rfl, rfl⟩
  go_wp2_with fail
  refine (dawake_any _ (HM.out.below (Bx.box_below _ _))).mono ?_; rintro e w2 ⟨rfl, hb2⟩
  go_wp2_with fail
  go_ret
  exact ⟨rfl, Bx.then_below (Bx.box_below _ _) hb2⟩

end Dig
namespace LawDigestTurns
open Go.ChangeShapes Go.WideShapes Go.ChangeAt Go.RowKit
open Go.ChangeMaps (open_string shut_string)

theorem own : ownKnob Tryd.prog.godebug = none := by kernel_rfl
theorem laidOut : laidOutB Tryd.prog = true := by kernel_rfl
theorem plain : (Rows.digestTurnsRow.laid.all fun x => x.2.handleName?.isNone) = true := by kernel_rfl

set_option maxRecDepth 100000 in
theorem lifted (os : Os) (started : os.Started) (H : Type) (enc : TypeId × Value → H) :
    ReturnsInHanded {} Tryd.checked os 5 .any (fun w args => (Rows.digestTurnsSpec.pre enc Tryd.prog Tryd.f5 Rows.digestTurnsRow.domain false w args ∧ laidMetH Tryd.prog Rows.digestTurnsRow.laid w) ∧ sizedMet enc Tryd.prog Tryd.f5 (OpenSpec.ofChange Rows.digestTurnsSpec) false w args)
      (Rows.digestTurnsSpec.post enc Tryd.prog Tryd.f5 false true false false) := by
  refine Fr.law_lift_laid (C := Tryd.checked) (laid := Rows.digestTurnsRow.laid) (tb := 4) own started (by kernel_rfl) Tryd.func5
    (ChangeSpec.witness_shaped (enc := enc) (C := Tryd.checked) (os := os) (X := fun w _ => laidMetH Tryd.prog Rows.digestTurnsRow.laid w) false (World.laidAll Tryd.prog os Rows.digestTurnsRow.laid) #[.int .u32 0, .int .i64 0, .agg #[.int .u32 0, .int .u32 0, .int .u32 0]] 8 (World.laidAll_os _ _ _)
      (World.shaped_of_ZipB (by kernel_rfl) (by kernel_rfl)) (by kernel_rfl) (by kernel_rfl) (by kernel_rfl)
      (by rw [MakeChecks.laidMetH_plain _ _ _ plain]; exact laidMet_laidAll _ (by kernel_rfl) (by kernel_rfl)))
    laidOut (by rw [Tryd.params5]; decide +kernel) rfl Tryd.underlying4 rfl ?_ ?_
  · intro ds hl
    match ds, hl with
    | [d0, d1, d2], _ => rfl
  · intro W base args ds p hsh hL hval hA
    rw [Tryd.params5] at hA hval
    obtain ⟨v0, vs0, d0, ds0, p0, q0, hargs, rfl, rfl, h0, r0⟩ := trodAll_cons hA
    obtain ⟨v1, vs1, d1, ds1, p1, q1, rfl, rfl, rfl, h1, r1⟩ := trodAll_cons r0
    obtain ⟨v2, vs2, d2, ds2, p2, q2, rfl, rfl, rfl, h2, r2⟩ := trodAll_cons r1
    obtain ⟨rfl, rfl, rfl⟩ := trodAll_nil r2
    obtain rfl : args = #[v0, v1, v2] := by cases args; simp_all
    obtain ⟨a0, rfl, rfl, rfl, w0⟩ := open_int Tryd.underlying22 (hval 0 22 v0 rfl rfl) h0
    obtain ⟨a1, rfl, rfl, rfl, w1⟩ := open_int Tryd.underlying3 (hval 1 3 v1 rfl rfl) h1
    obtain ⟨z2, rfl, l2, y2⟩ := Fr.open_arr Tryd.underlying34 Tryd.underlying22 (by kernel_rfl) (by kernel_rfl) (hval 2 34 v2 rfl rfl) h2
    obtain ⟨a2, b2, c2, rfl⟩ := Fr.three l2
    exact Dig.walk_turns W a0 w0 a1 w1 a2 b2 c2 y2 (Dig.home_of hsh hL plain (by simp [Rows.digestTurnsRow]))

theorem over : Rows.digestTurnsRow.holds Tryd.pinned (OpenSpec.ofChange Rows.digestTurnsSpec) :=
  OpenClaim.holds_of_wide 5 Tryd.f5 rfl rfl rfl rfl rfl rfl rfl ⟨rfl, rfl, rfl, rfl, rfl⟩ rfl rfl rfl rfl rfl (by kernel_rfl) Tryd.func5 (by kernel_rfl)
    (of_decide_eq_true (by kernel_rfl)) (by unfold Func.isWrapper; first | (rw [if_pos (by decide +kernel)]; kernel_rfl) | (rw [if_neg (by decide +kernel)]; exact ⟨rfl, rfl⟩))
    (fun os started H enc _ => lifted os started H enc)
end LawDigestTurns

/-- The statement DigestTurns (the tied card). -/
theorem digestTurns_holds : Rows.DigestTurnsCardSaid :=
  Claim7.holds_tied_plain_at .later [] _ true _ _ LawDigestTurns.over (fun _ h => by cases h) (by kernel_rfl) (fun _ h => by cases h) digestTurns_row_tie rfl ⟨rfl, rfl⟩ (by kernel_rfl) rfl
    (fun f fn hf hfn => by
      obtain rfl : f = 5 := Option.some.inj ((show Tryd.prog.funcNamed Rows.digestTurnsRow.func = some 5 by kernel_rfl).symm.trans hf) |>.symm
      obtain rfl : fn = Tryd.f5 := (Option.some.inj (Tryd.func5.symm.trans hfn)).symm
      exact ⟨by kernel_rfl, fun j t ht => by
        rw [Tryd.params5] at ht
        have hm : t ∈ [22, 3, 34] := by have := Array.mem_of_getElem? ht; simp at this; simp [this]
        have hall : ([22, 3, 34].all fun u => !Tryd.prog.wantsStandIn u) = true := by kernel_rfl
        exact (show Tryd.prog.wantsStandIn t = false by simpa using List.all_eq_true.1 hall t hm)⟩)
    (by kernel_rfl)

end Go.Proofs.YtgkgjjnlblgklaaDoor
