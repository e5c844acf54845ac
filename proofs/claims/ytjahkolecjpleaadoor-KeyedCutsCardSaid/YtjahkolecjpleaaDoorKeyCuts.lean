/-
  The statement KeyedCuts (a tied card): for every key, text and number the law KeyedCuts returns true, and its arguments read afterwards as they read before.
-/
import Derived.Test.YtjahkolecjpleaaDoorKeyC
import Derived.Test.YtjahkolecjpleaaDoorDigHome
import Derived.Test.YtjahkolecjpleaaDoorCards
import Derived.Test.YtjahkolecjpleaaDoorTie
import Derived.SevenTiedAt
import Derived.Deep.RegionHeld3
import Derived.IntWalk
namespace Go.Proofs.YtjahkolecjpleaaDoor
open Go.RowKit
namespace Key
open Oct Fr Dig

theorem cut_two (s : ByteArray) (m : Nat) (h : m ≤ s.size) : catS [s.extract 0 m, s.extract m s.size] = s := by
  rw [catS_two, ByteArray.extract_append_extract, Nat.min_eq_left (Nat.zero_le _), Nat.max_eq_right h, ByteArray.extract_zero_size]

theorem cut_three (s : ByteArray) (m : Nat) (h : m ≤ s.size) : catS [s.extract 0 m, ⟨#[]⟩, s.extract m s.size] = s := by
  have e : catS [s.extract 0 m, ⟨#[]⟩, s.extract m s.size] = catS [s.extract 0 m, s.extract m s.size] := by
    apply ByteArray.ext
    simp [catS]
  rw [e, cut_two s m h]

theorem wrap_u64_mod (a : Int) : IntKind.u64.wrap a = a % 18446744073709551616 := by
  simp [IntKind.wrap, IntKind.signed, IntKind.bits]

theorem at_cut (a : Int) (n : Nat) (hn : n ≤ 500) : ∃ m : Nat, m ≤ n ∧ wrap64 ((IntKind.u64.wrap a).tmod ((n : Int) + 1)) = (m : Int) := by
  have h0 : 0 ≤ IntKind.u64.wrap a := by rw [wrap_u64_mod]; omega
  have h1 : 0 ≤ (IntKind.u64.wrap a).tmod ((n : Int) + 1) := Int.tmod_nonneg _ h0
  have h2 : (IntKind.u64.wrap a).tmod ((n : Int) + 1) < (n : Int) + 1 := Int.tmod_lt_of_pos _ (by omega)
  generalize (IntKind.u64.wrap a).tmod ((n : Int) + 1) = x at *
  refine ⟨x.toNat, by omega, ?_⟩
  unfold wrap64
  omega

theorem Texts.newd (w : World) (xs : List ByteArray) (t : TypeId) : Texts (w.alloc (.cells (xs.map Value.string).toArray t)).drew w.heap.size xs := Texts.new w xs t

/-- A byte 0 behind a short key. -/
theorem block_more (k : ByteArray) (h : k.size ≤ 63) : blockS (k ++ ⟨#[0]⟩) = blockS k := by
  have z : (k ++ (⟨#[0]⟩ : ByteArray)).size = k.size + 1 := by rw [ByteArray.size_append]; rfl
  unfold blockS
  rw [if_neg (by omega), if_neg (by omega)]
  unfold padS
  rw [z, show (min (64 : Int) 9216 - (k.size : Nat)).toNat = (min (64 : Int) 9216 - ((k.size + 1 : Nat) : Int)).toNat + 1 by omega, List.replicate_succ]
  apply ByteArray.ext
  apply Array.toList_inj.1
  simp

set_option maxHeartbeats 1000000 in
theorem walk_cuts (w : World) (k : ByteArray) (_wk : k.size ≤ maxLen) (s : ByteArray) (_ws : s.size ≤ maxLen) (a : Int) (_wa : (Lit.int .i64 a).wf = true) (hm : Home w) :
    Calls Tryd.prog 4 #[.string k, .string s, .int .i64 a] w fun e w' => e = .returned (.bool true) ∧ Below w.heap.size w w' := by
  by_cases hk : 500 < k.size
  · have q1 : decide (500 < (k.size : Int)) = true := by simp; omega
    have HM := Lib.hid hm
    clear hm
    go_enter Tryd.func4, Tryd.ntmps4
    go_wp2_with fail
    refine (kawake_any _ HM.out).mono ?_; rintro e w1 ⟨rfl, hb1⟩
    go_wp2_with fail
    go_ret
    exact ⟨rfl, hb1⟩
  by_cases hs : 500 < s.size
  · have q1 : decide (500 < (k.size : Int)) = false := by simp; omega
    have q2 : decide (500 < (s.size : Int)) = true := by simp; omega
    have HM := Lib.hid hm
    clear hm
    go_enter Tryd.func4, Tryd.ntmps4
    go_wp2_with fail
    refine (kawake_any _ HM.out).mono ?_; rintro e w1 ⟨rfl, hb1⟩
    go_wp2_with fail
    go_ret
    exact ⟨rfl, hb1⟩
  have q1 : decide (500 < (k.size : Int)) = false := by simp; omega
  have q2 : decide (500 < (s.size : Int)) = false := by simp; omega
  have HK := Lib.hid (fun w hm => ksum_any k s w (by omega) (by omega) hm)
  have HB := Lib.hid (fun w hm => kblock_any k w (by omega) hm)
  have HZ : Hid (k.size ≤ 63 → ∀ w, Home w → Calls Tryd.prog 9 #[.string (k ++ ⟨#[0]⟩), .string s] w fun e w' => e = .returned (.string (keyS k s)) ∧ Below w.heap.size w w') := Lib.hid (fun h w hm => by
    have h2 := ksum_any (k ++ ⟨#[0]⟩) s w (by rw [ByteArray.size_append]; show k.size + 1 ≤ _; omega) (by omega) hm
    rwa [show keyS (k ++ ⟨#[0]⟩) s = keyS k s by unfold keyS; rw [block_more k h]] at h2)
  have HF : Hid (∀ w, Home w → Calls Tryd.prog 13 #[.string k, .string s, .string (keyS k s)] w fun e w' => e = .returned (.bool true) ∧ Below w.heap.size w w') := Lib.hid (fun w hm => by
    have h := fits_any k s (keyS k s) w (by omega) (by omega) hm
    simpa using h)
  obtain ⟨m, hms, hE⟩ := at_cut a s.size (by omega)
  have hmi : (m : Int) ≤ (s.size : Int) := by omega
  have HP2 : Hid (∀ (w : World) (g : Nat), Texts w g [s.extract 0 m, s.extract m s.size] → Home w → Calls Tryd.prog 11 #[.string k, .slice (some ⟨g, 0, none⟩) 2 2] w fun e w' => e = .returned (.string (keyS k s)) ∧ Below w.heap.size w w') := Lib.hid (fun w g ht hm => by
    have h := pieces_any k _ g w (by omega) (by rw [cut_two s m hms]; omega) (by simp) ht hm
    rwa [cut_two s m hms] at h)
  have HP3 : Hid (∀ (w : World) (g : Nat), Texts w g [s.extract 0 m, ⟨#[]⟩, s.extract m s.size] → Home w → Calls Tryd.prog 11 #[.string k, .slice (some ⟨g, 0, none⟩) 3 3] w fun e w' => e = .returned (.string (keyS k s)) ∧ Below w.heap.size w w') := Lib.hid (fun w g ht hm => by
    have h := pieces_any k _ g w (by omega) (by rw [cut_three s m hms]; omega) (by simp) ht hm
    rwa [cut_three s m hms] at h)
  have HT2 : Hid (∀ w : World, Texts (w.alloc (.cells #[.string (s.extract 0 m), .string (s.extract m s.size)] 9)).drew w.heap.size [s.extract 0 m, s.extract m s.size]) := Lib.hid (fun w => Texts.newd w [s.extract 0 m, s.extract m s.size] _)
  have HT3 : Hid (∀ w : World, Texts (w.alloc (.cells #[.string (s.extract 0 m), .string ⟨#[]⟩, .string (s.extract m s.size)] 9)) w.heap.size [s.extract 0 m, ⟨#[]⟩, s.extract m s.size]) := Lib.hid (fun w => Texts.new w [s.extract 0 m, ⟨#[]⟩, s.extract m s.size] _)
  have hR : ((((keyS k s).size : Int) != 16)) = false := by rw [show (keyS k s).size = 16 from sumS_size _]; rfl
  have hB : ((((blockS k).size : Int) == 64)) = true := by rw [blockS_size]; rfl
  generalize keyS k s = R at *
  generalize blockS k = B at *
  have HM := Lib.hid hm
  clear hm
  go_enter Tryd.func4, Tryd.ntmps4
  go_wp2_with fail
  refine (HK.out _ HM.out).mono ?_; rintro e w1 ⟨rfl, hb1⟩
  have hh : Home w1 := HM.out.below hb1
  go_wp2_with fail
  go_region_held3 (fun w' => Home w')
    (first | exact hh | exact Home.below (by assumption) (by assumption) | exact Home.below hh (Bx.box_below _ _) | exact Home.below (by assumption) (Bx.box_below _ _))
    (first | (go_at_call 11; (with_reducible refine (HP2.out _ _ (HT2.out _) (by assumption)).mono ?_); rintro e w2 ⟨rfl, hb2⟩) | (go_at_call 11; (with_reducible refine (HP3.out _ _ (HT3.out _) (by assumption)).mono ?_); rintro e w3 ⟨rfl, hb3⟩) | (go_at_call 13; (with_reducible refine (HF.out _ (by assumption)).mono ?_); rintro e w4 ⟨rfl, hb4⟩))
  have H4 : Hid (Below w.heap.size w w4) := Lib.hid (Bx.then_below (Bx.then_below (Bx.then_below (Bx.then_below (Bx.then_below hb1 (Bx.box_below w1 _).drew) hb2) (Bx.box_below w2 _)) hb3) hb4)
  clear hb1 hb2 hb3 hb4 hh HP2 HP3 HT2 HT3 HF HK hE hmi hms
  by_cases h63 : 63 < k.size
  · have q3 : decide (63 < (k.size : Int)) = true := by simp; omega
    go_wp2_with fail
    refine (HB.out _ (HM.out.below H4.out)).mono ?_; rintro e w5 ⟨rfl, hb5⟩
    have H5 := Lib.hid (Bx.then_below H4.out hb5); clear hb5
    go_wp2_with fail
    refine (kawake_any _ (HM.out.below H5.out)).mono ?_; rintro e w6 ⟨rfl, hb6⟩
    go_wp2_with fail
    go_ret
    exact ⟨rfl, Bx.then_below H5.out hb6⟩
  · have q3 : decide (63 < (k.size : Int)) = false := by simp; omega
    have z : ¬ (k.size + 1 > 9223372036854775807) := by omega
    have HZ2 := Lib.hid (HZ.out (by omega))
    go_wp2_with fail
    refine (HZ2.out _ (HM.out.below H4.out)).mono ?_; rintro e w5 ⟨rfl, hb5⟩
    have H5 := Lib.hid (Bx.then_below H4.out hb5); clear hb5
    go_wp2_with fail
    refine (HB.out _ (HM.out.below H5.out)).mono ?_; rintro e w6 ⟨rfl, hb6⟩
    have H6 := Lib.hid (Bx.then_below H5.out hb6); clear hb6
    go_wp2_with fail
    refine (kawake_any _ (HM.out.below H6.out)).mono ?_; rintro e w7 ⟨rfl, hb7⟩
    go_wp2_with fail
    go_ret
    exact ⟨rfl, Bx.then_below H6.out hb7⟩

end Key
namespace LawKeyedCuts
open Go.ChangeShapes Go.WideShapes Go.ChangeAt Go.RowKit
open Go.ChangeMaps (open_string shut_string)

theorem own : ownKnob Tryd.prog.godebug = none := by kernel_rfl
theorem laidOut : laidOutB Tryd.prog = true := by kernel_rfl
theorem plain : (Rows.keyedCutsRow.laid.all fun x => x.2.handleName?.isNone) = true := by kernel_rfl

set_option maxRecDepth 100000 in
theorem lifted (os : Os) (started : os.Started) (H : Type) (enc : TypeId × Value → H) :
    ReturnsInHanded {} Tryd.checked os 4 .any (fun w args => (Rows.keyedCutsSpec.pre enc Tryd.prog Tryd.f4 Rows.keyedCutsRow.domain false w args ∧ laidMetH Tryd.prog Rows.keyedCutsRow.laid w) ∧ sizedMet enc Tryd.prog Tryd.f4 (OpenSpec.ofChange Rows.keyedCutsSpec) false w args)
      (Rows.keyedCutsSpec.post enc Tryd.prog Tryd.f4 false true false false) := by
  refine Fr.law_lift_laid (C := Tryd.checked) (laid := Rows.keyedCutsRow.laid) (tb := 4) own started (by kernel_rfl) Tryd.func4
    (ChangeSpec.witness_shaped (enc := enc) (C := Tryd.checked) (os := os) (X := fun w _ => laidMetH Tryd.prog Rows.keyedCutsRow.laid w) false (World.laidAll Tryd.prog os Rows.keyedCutsRow.laid) #[.string ByteArray.empty, .string ByteArray.empty, .int .i64 0] 8 (World.laidAll_os _ _ _)
      (World.shaped_of_ZipB (by kernel_rfl) (by kernel_rfl)) (by kernel_rfl) (by kernel_rfl) (by kernel_rfl)
      (by rw [MakeChecks.laidMetH_plain _ _ _ plain]; exact laidMet_laidAll _ (by kernel_rfl) (by kernel_rfl)))
    laidOut (by rw [Tryd.params4]; decide +kernel) rfl Tryd.underlying4 rfl ?_ ?_
  · intro ds hl
    match ds, hl with
    | [d0, d1, d2], _ => rfl
  · intro W base args ds p hsh hL hval hA
    rw [Tryd.params4] at hA hval
    obtain ⟨v0, vs0, d0, ds0, p0, q0, hargs, rfl, rfl, h0, r0⟩ := trodAll_cons hA
    obtain ⟨v1, vs1, d1, ds1, p1, q1, rfl, rfl, rfl, h1, r1⟩ := trodAll_cons r0
    obtain ⟨v2, vs2, d2, ds2, p2, q2, rfl, rfl, rfl, h2, r2⟩ := trodAll_cons r1
    obtain ⟨rfl, rfl, rfl⟩ := trodAll_nil r2
    obtain rfl : args = #[v0, v1, v2] := by cases args; simp_all
    obtain ⟨a0, rfl, rfl, rfl, w0⟩ := open_string Tryd.underlying9 (hval 0 9 v0 rfl rfl) h0
    obtain ⟨a1, rfl, rfl, rfl, w1⟩ := open_string Tryd.underlying9 (hval 1 9 v1 rfl rfl) h1
    obtain ⟨a2, rfl, rfl, rfl, w2⟩ := open_int Tryd.underlying3 (hval 2 3 v2 rfl rfl) h2
    exact Key.walk_cuts W a0 w0 a1 w1 a2 w2 (Dig.home_of hsh hL plain (by simp [Rows.keyedCutsRow]))

theorem over : Rows.keyedCutsRow.holds Tryd.pinned (OpenSpec.ofChange Rows.keyedCutsSpec) :=
  OpenClaim.holds_of_wide 4 Tryd.f4 rfl rfl rfl rfl rfl rfl rfl ⟨rfl, rfl, rfl, rfl, rfl⟩ rfl rfl rfl rfl rfl (by kernel_rfl) Tryd.func4 (by kernel_rfl)
    (of_decide_eq_true (by kernel_rfl)) (by unfold Func.isWrapper; first | (rw [if_pos (by decide +kernel)]; kernel_rfl) | (rw [if_neg (by decide +kernel)]; exact ⟨rfl, rfl⟩))
    (fun os started H enc _ => lifted os started H enc)
end LawKeyedCuts

/-- The statement KeyedCuts (the tied card). -/
theorem keyedCuts_holds : Rows.KeyedCutsCardSaid :=
  Claim7.holds_tied_plain_at .later [] _ true _ _ LawKeyedCuts.over (fun _ h => by cases h) (by kernel_rfl) (fun _ h => by cases h) keyedCuts_row_tie rfl ⟨rfl, rfl⟩ (by kernel_rfl) rfl
    (fun f fn hf hfn => by
      obtain rfl : f = 4 := Option.some.inj ((show Tryd.prog.funcNamed Rows.keyedCutsRow.func = some 4 by kernel_rfl).symm.trans hf) |>.symm
      obtain rfl : fn = Tryd.f4 := (Option.some.inj (Tryd.func4.symm.trans hfn)).symm
      exact ⟨by kernel_rfl, fun j t ht => by
        rw [Tryd.params4] at ht
        have hm : t ∈ [9, 3] := by have := Array.mem_of_getElem? ht; simp at this; simp [this]
        have hall : ([9, 3].all fun u => !Tryd.prog.wantsStandIn u) = true := by kernel_rfl
        exact (show Tryd.prog.wantsStandIn t = false by simpa using List.all_eq_true.1 hall t hm)⟩)
    (by kernel_rfl)

end Go.Proofs.YtjahkolecjpleaaDoor
