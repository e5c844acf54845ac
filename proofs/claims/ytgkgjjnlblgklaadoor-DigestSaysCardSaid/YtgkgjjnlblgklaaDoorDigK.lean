/-
  The check of single answers that the statements of layer 7 end with (tipstafflaw07.awake) comes out true, in every memory that holds the tables, and changes nothing that was there.
-/
import Derived.Test.YtgkgjjnlblgklaaDoorDigI
import Derived.ChangeKeysEq
namespace Go.Proofs.YtgkgjjnlblgklaaDoor
open Go.RowKit
namespace Dig
open Fr Oct

theorem part_word (xs : Array Value) (j : Nat) (v : Int) (h : xs[j]? = some (.int .u32 v)) (w : World) : (part 22 xs j).run Tryd.prog w = .ok (.int .u32 v) w := by
  have ha : (isAgg 22).run Tryd.prog w = .ok false w := by simp [go_sem]
  simp only [part, Sem.run_bind, ha, Result.andThen_ok, h]
  simp

/-- Four words are the same as themselves. -/
theorem eq_words (a b c d : Int) (w : World) :
    (binOp .eql 23 (.agg #[.int .u32 a, .int .u32 b, .int .u32 c, .int .u32 d]) (.agg #[.int .u32 a, .int .u32 b, .int .u32 c, .int .u32 d])).run Tryd.prog w = .ok (.bool true) w := by
  have hn : (Tryd.prog.info? 22).isSome = true := by kernel_rfl
  obtain ⟨i, hi⟩ := Option.isSome_iff_exists.1 hn
  have hc : Tryd.prog.cellsOf 22 = 1 := by kernel_rfl
  have he : ∀ x y : Int, (Op.equalIn 9999 22 (.int .u32 x) (.int .u32 y)).run Tryd.prog w = .ok (x == y) w := fun x y => run_equalIn_int w 9998 22 .u32 .u32 x y Tryd.underlying22
  rw [run_eql_struct, run_equalIn_array w 9999 (n := 4) (e := 22) _ _ Tryd.underlying23 hi, hc]
  simp only [List.range, List.range.loop, Op.eqItems, Nat.mul_one]
  have X := fun j v h => part_word #[.int .u32 a, .int .u32 b, .int .u32 c, .int .u32 d] j v h w
  simp only [Sem.run_bind, Sem.run_ite, Sem.run_pure, X 0 a rfl, X 1 b rfl, X 2 c rfl, X 3 d rfl, Result.andThen_ok, he]
  simp

theorem aw1 (w : World) : Calls Tryd.prog 8 #[.int .i64 20, .int .u32 1, .int .u32 2, .int .u32 3] w fun e w' => e = .returned (.tuple #[.int .u32 1, .int .i64 5]) ∧ w = w' := by
  have h := mix_any 20 1 2 3 w (by decide) (by decide) (by decide)
  rwa [show mixF 20 1 2 3 = 1 by decide +kernel, show mixG 20 = 5 by decide +kernel] at h
theorem aw2 (w : World) (hm : Home w) : Calls Tryd.prog 19 #[.string ⟨#[97, 98, 99]⟩] w fun e w' => e = .returned (.string ⟨#[0x90, 0x01, 0x50, 0x98, 0x3c, 0xd2, 0x4f, 0xb0, 0xd6, 0x96, 0x3f, 0x7d, 0x28, 0xe1, 0x7f, 0x72]⟩) ∧ Below w.heap.size w w' := by
  have h := sum_any ⟨#[97, 98, 99]⟩ w (by decide) hm
  rwa [show (⟨#[97, 98, 99]⟩ : ByteArray).data.toList = [97, 98, 99] from rfl, sum_abc] at h
theorem aw3 (w : World) (hm : Home w) : Calls Tryd.prog 19 #[.string ⟨#[]⟩] w fun e w' => e = .returned (.string ⟨#[0xd4, 0x1d, 0x8c, 0xd9, 0x8f, 0x00, 0xb2, 0x04, 0xe9, 0x80, 0x09, 0x98, 0xec, 0xf8, 0x42, 0x7e]⟩) ∧ Below w.heap.size w w' := by
  have h := sum_any ⟨#[]⟩ w (by decide) hm
  rwa [show (⟨#[]⟩ : ByteArray).data.toList = [] from rfl, sum_none] at h
theorem aw4 (w : World) : Calls Tryd.prog 21 #[.string ⟨#[0x90, 0x01, 0x50, 0x98, 0x3c, 0xd2, 0x4f, 0xb0, 0xd6, 0x96, 0x3f, 0x7d, 0x28, 0xe1, 0x7f, 0x72]⟩] w fun e w' => e = .returned (.string ⟨#[57, 48, 48, 49, 53, 48, 57, 56, 51, 99, 100, 50, 52, 102, 98, 48, 100, 54, 57, 54, 51, 102, 55, 100, 50, 56, 101, 49, 55, 102, 55, 50]⟩) ∧ Below w.heap.size w w' := by
  have h := hex_any ⟨#[0x90, 0x01, 0x50, 0x98, 0x3c, 0xd2, 0x4f, 0xb0, 0xd6, 0x96, 0x3f, 0x7d, 0x28, 0xe1, 0x7f, 0x72]⟩ w (by decide)
  rwa [show hexL (⟨#[0x90, 0x01, 0x50, 0x98, 0x3c, 0xd2, 0x4f, 0xb0, 0xd6, 0x96, 0x3f, 0x7d, 0x28, 0xe1, 0x7f, 0x72]⟩ : ByteArray).data.toList = [57, 48, 48, 49, 53, 48, 57, 56, 51, 99, 100, 50, 52, 102, 98, 48, 100, 54, 57, 54, 51, 102, 55, 100, 50, 56, 101, 49, 55, 102, 55, 50] by decide +kernel] at h
theorem aw5 (w : World) : Calls Tryd.prog 21 #[.string ⟨#[0xd4, 0x1d, 0x8c, 0xd9, 0x8f, 0x00, 0xb2, 0x04, 0xe9, 0x80, 0x09, 0x98, 0xec, 0xf8, 0x42, 0x7e]⟩] w fun e w' => e = .returned (.string ⟨#[100, 52, 49, 100, 56, 99, 100, 57, 56, 102, 48, 48, 98, 50, 48, 52, 101, 57, 56, 48, 48, 57, 57, 56, 101, 99, 102, 56, 52, 50, 55, 101]⟩) ∧ Below w.heap.size w w' := by
  have h := hex_any ⟨#[0xd4, 0x1d, 0x8c, 0xd9, 0x8f, 0x00, 0xb2, 0x04, 0xe9, 0x80, 0x09, 0x98, 0xec, 0xf8, 0x42, 0x7e]⟩ w (by decide)
  rwa [show hexL (⟨#[0xd4, 0x1d, 0x8c, 0xd9, 0x8f, 0x00, 0xb2, 0x04, 0xe9, 0x80, 0x09, 0x98, 0xec, 0xf8, 0x42, 0x7e]⟩ : ByteArray).data.toList = [100, 52, 49, 100, 56, 99, 100, 57, 56, 102, 48, 48, 98, 50, 48, 52, 101, 57, 56, 48, 48, 57, 57, 56, 101, 99, 102, 56, 52, 50, 55, 101] by decide +kernel] at h
theorem aw6 (w : World) (hm : Home w) : Calls Tryd.prog 11 #[.int .i64 1] w fun e w' => e = .returned (.int .u32 3905402710) ∧ w = w' := by
  have h := const_any 1 w hm
  rwa [show constN 1 = 3905402710 by decide +kernel] at h
theorem aw7 (w : World) (hm : Home w) : Calls Tryd.prog 11 #[.int .i64 64] w fun e w' => e = .returned (.int .u32 0) ∧ w = w' := by
  have h := const_any 64 w hm
  rwa [show constN 64 = 0 by decide +kernel] at h
theorem aw8 (w : World) : Calls Tryd.prog 13 #[.int .u32 2147483649, .int .i64 1] w fun e w' => e = .returned (.int .u32 3) ∧ w = w' := by
  have h := turn_any 2147483649 1 w (by decide)
  rwa [show rotN 2147483649 ((1 : Int) % 32).toNat = 3 by decide +kernel] at h
theorem aw9 (w : World) : Calls Tryd.prog 15 #[.string ⟨#[97, 98, 99]⟩] w fun e w' => (∃ p : ByteArray, p.size = 64 ∧ e = .returned (.string p)) ∧ Below w.heap.size w w' :=
  (dpad_any ⟨#[97, 98, 99]⟩ w (by decide)).mono fun _ _ ⟨h1, h2⟩ => ⟨⟨_, by decide +kernel, h1⟩, h2⟩
theorem aw10 (w : World) (hm : Home w) : Calls Tryd.prog 17 #[.agg #[.int .u32 1, .int .u32 2, .int .u32 3, .int .u32 4], .string ⟨#[120]⟩] w fun e w' => e = .returned (.agg #[.int .u32 1, .int .u32 2, .int .u32 3, .int .u32 4]) ∧ Below w.heap.size w w' := by
  have h := block_any ⟨1, 2, 3, 4⟩ (by unfold Q.ok; decide) ⟨#[120]⟩ w hm
  rwa [show blockN ⟨1, 2, 3, 4⟩ (⟨#[120]⟩ : ByteArray).data.toList = ⟨1, 2, 3, 4⟩ by rfl] at h

set_option maxHeartbeats 400000 in
theorem dawake_any (w : World) (hm : Home w) : Calls Tryd.prog 7 #[] w fun e w' => e = .returned (.bool true) ∧ Below w.heap.size w w' := by
  have HM := Lib.hid hm
  clear hm
  go_enter Tryd.func7, Tryd.ntmps7
  go_wp2_with fail
  refine (aw1 _).mono ?_; rintro e w' ⟨rfl, rfl⟩
  go_wp2_with fail
  refine (aw2 _ HM.out).mono ?_; rintro e w1 ⟨rfl, hb1⟩
  have H1 := Lib.hid hb1; clear hb1
  go_wp2_with fail
  refine (aw4 _).mono ?_; rintro e w2 ⟨rfl, hb2⟩
  have H2 := Lib.hid (Bx.then_below H1.out hb2); clear hb2 H1
  go_wp2_with fail
  refine (aw3 _ (HM.out.below H2.out)).mono ?_; rintro e w3 ⟨rfl, hb3⟩
  have H3 := Lib.hid (Bx.then_below H2.out hb3); clear hb3 H2
  go_wp2_with fail
  refine (aw5 _).mono ?_; rintro e w4 ⟨rfl, hb4⟩
  have H4 := Lib.hid (Bx.then_below H3.out hb4); clear hb4 H3
  go_wp2_with fail
  refine (aw6 _ (HM.out.below H4.out)).mono ?_; rintro e w' ⟨rfl, rfl⟩
  go_wp2_with fail
  refine (aw7 _ (HM.out.below H4.out)).mono ?_; rintro e w' ⟨rfl, rfl⟩
  go_wp2_with fail
  refine (aw8 _).mono ?_; rintro e w' ⟨rfl, rfl⟩
  go_wp2_with fail
  refine (aw9 _).mono ?_; rintro e w5 ⟨⟨p, hp, rfl⟩, hb5⟩
  have H5 := Lib.hid (Bx.then_below H4.out hb5); clear hb5 H4
  have hp2 : ((p.size : Int) == 64) = true := by simp; omega
  clear hp
  go_wp2_with fail
  refine (aw10 _ (HM.out.below H5.out)).mono ?_; rintro e w6 ⟨rfl, hb6⟩
  have H6 := Lib.hid (Bx.then_below H5.out hb6); clear hb6 H5
  have heq := fun w => eq_words 1 2 3 4 w
  go_wp2_with fail
  go_ret
  exact ⟨rfl, H6.out⟩

end Dig
end Go.Proofs.YtgkgjjnlblgklaaDoor
