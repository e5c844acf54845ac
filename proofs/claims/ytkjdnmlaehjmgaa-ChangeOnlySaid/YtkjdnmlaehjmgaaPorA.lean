/-
  What package ports answers, and the document beside it: a port of a set, a set with and without one, how many, for every set and port; that they change nothing.
-/
import Derived.Test.YtkjdnmlaehjmgaaProg
import Derived.Test.YtkjdnmlaehjmgaaShelf
import Derived.Test.YtkjdnmlaehjmgaaPorNum
import Derived.WalkKit
import Derived.WalkSpells
import Derived.WalkLawsBesides
import Derived.Lib.Hide
import Derived.RegionTactic
import Derived.Deep.RegionLaw
import Derived.Deep.QuietTactic
import Derived.BigQuiet
namespace Go.Proofs.Ytkjdnmlaehjmgaa
open Go.RowKit
namespace Por

set_option maxRecDepth 40000 in
theorem right_any (p : Int) (w : World) :
    Calls Try.prog 27 #[.int .i64 p] w fun e w' => e = .returned (.bool (decide (0 ≤ p ∧ p < 8))) ∧ w = w' := by
  by_cases h0 : 0 ≤ p
  · by_cases h1 : p < 8
    · rw [decide_eq_true ⟨h0, h1⟩]
      go_enter Try.func27, Try.ntmps27
      go_wp2
      go_ret
      exact ⟨rfl, rfl⟩
    · rw [decide_eq_false (fun h => h1 h.2)]
      go_enter Try.func27, Try.ntmps27
      go_wp2
      go_ret
      exact ⟨rfl, rfl⟩
  · rw [decide_eq_false (fun h => h0 h.1)]
    go_enter Try.func27, Try.ntmps27
    go_wp2
    go_ret
    exact ⟨rfl, rfl⟩

theorem eight (p : Int) (h : 0 ≤ p ∧ p < 8) : p = 0 ∨ p = 1 ∨ p = 2 ∨ p = 3 ∨ p = 4 ∨ p = 5 ∨ p = 6 ∨ p = 7 := by omega

theorem bit_zero (x : Int) : (bits BinOp.and IntKind.i64 x 1 == 1) = hasZ (low x) 0 := by
  rw [and1]
  unfold hasZ hasN low
  rw [Bool.eq_iff_iff]
  simp
  omega

theorem bit_1 (x : Int) : (bits BinOp.and IntKind.i64 (x / 2) 1 == 1) = hasZ (low x) 1 := by
  rw [and1]
  unfold hasZ hasN low
  rw [Bool.eq_iff_iff]
  simp
  omega

theorem bit_2 (x : Int) : (bits BinOp.and IntKind.i64 (x / 4) 1 == 1) = hasZ (low x) 2 := by
  rw [and1]
  unfold hasZ hasN low
  rw [Bool.eq_iff_iff]
  simp
  omega

theorem bit_3 (x : Int) : (bits BinOp.and IntKind.i64 (x / 8) 1 == 1) = hasZ (low x) 3 := by
  rw [and1]
  unfold hasZ hasN low
  rw [Bool.eq_iff_iff]
  simp
  omega

theorem bit_4 (x : Int) : (bits BinOp.and IntKind.i64 (x / 16) 1 == 1) = hasZ (low x) 4 := by
  rw [and1]
  unfold hasZ hasN low
  rw [Bool.eq_iff_iff]
  simp
  omega

theorem bit_5 (x : Int) : (bits BinOp.and IntKind.i64 (x / 32) 1 == 1) = hasZ (low x) 5 := by
  rw [and1]
  unfold hasZ hasN low
  rw [Bool.eq_iff_iff]
  simp
  omega

theorem bit_6 (x : Int) : (bits BinOp.and IntKind.i64 (x / 64) 1 == 1) = hasZ (low x) 6 := by
  rw [and1]
  unfold hasZ hasN low
  rw [Bool.eq_iff_iff]
  simp
  omega

theorem bit_7 (x : Int) : (bits BinOp.and IntKind.i64 (x / 128) 1 == 1) = hasZ (low x) 7 := by
  rw [and1]
  unfold hasZ hasN low
  rw [Bool.eq_iff_iff]
  simp
  omega

set_option maxRecDepth 40000 in
theorem has_any (x p : Int) (w : World) :
    Calls Try.prog 14 #[.int .i64 x, .int .i64 p] w fun e w' => e = .returned (.bool (hasZ (low x) p)) ∧ w = w' := by
  by_cases h : 0 ≤ p ∧ p < 8
  · have hR := Lib.hid (right_any p)
    rw [decide_eq_true h] at hR
    rcases eight p h with rfl | rfl | rfl | rfl | rfl | rfl | rfl | rfl
    · go_enter Try.func14, Try.ntmps14
      go_wp2_with fail
      refine (hR.out _).mono ?_; rintro e w' ⟨rfl, rfl⟩
      go_wp2
      go_ret
      exact ⟨congrArg (fun b => Ending.returned (Value.bool b)) (bit_zero x), rfl⟩
    · go_enter Try.func14, Try.ntmps14
      go_wp2_with fail
      refine (hR.out _).mono ?_; rintro e w' ⟨rfl, rfl⟩
      go_wp2
      go_ret
      exact ⟨congrArg (fun b => Ending.returned (Value.bool b)) (bit_1 x), rfl⟩
    · go_enter Try.func14, Try.ntmps14
      go_wp2_with fail
      refine (hR.out _).mono ?_; rintro e w' ⟨rfl, rfl⟩
      go_wp2
      go_ret
      exact ⟨congrArg (fun b => Ending.returned (Value.bool b)) (bit_2 x), rfl⟩
    · go_enter Try.func14, Try.ntmps14
      go_wp2_with fail
      refine (hR.out _).mono ?_; rintro e w' ⟨rfl, rfl⟩
      go_wp2
      go_ret
      exact ⟨congrArg (fun b => Ending.returned (Value.bool b)) (bit_3 x), rfl⟩
    · go_enter Try.func14, Try.ntmps14
      go_wp2_with fail
      refine (hR.out _).mono ?_; rintro e w' ⟨rfl, rfl⟩
      go_wp2
      go_ret
      exact ⟨congrArg (fun b => Ending.returned (Value.bool b)) (bit_4 x), rfl⟩
    · go_enter Try.func14, Try.ntmps14
      go_wp2_with fail
      refine (hR.out _).mono ?_; rintro e w' ⟨rfl, rfl⟩
      go_wp2
      go_ret
      exact ⟨congrArg (fun b => Ending.returned (Value.bool b)) (bit_5 x), rfl⟩
    · go_enter Try.func14, Try.ntmps14
      go_wp2_with fail
      refine (hR.out _).mono ?_; rintro e w' ⟨rfl, rfl⟩
      go_wp2
      go_ret
      exact ⟨congrArg (fun b => Ending.returned (Value.bool b)) (bit_6 x), rfl⟩
    · go_enter Try.func14, Try.ntmps14
      go_wp2_with fail
      refine (hR.out _).mono ?_; rintro e w' ⟨rfl, rfl⟩
      go_wp2
      go_ret
      exact ⟨congrArg (fun b => Ending.returned (Value.bool b)) (bit_7 x), rfl⟩
  · have hR := Lib.hid (right_any p)
    rw [decide_eq_false h] at hR
    have hz : hasZ (low x) p = false := by unfold hasZ; rw [decide_eq_false h]; rfl
    rw [hz]
    clear hz
    go_enter Try.func14, Try.ntmps14
    go_wp2_with fail
    refine (hR.out _).mono ?_; rintro e w' ⟨rfl, rfl⟩
    go_wp2
    go_ret
    exact ⟨rfl, rfl⟩

set_option maxRecDepth 40000 in
theorem with_any (x p : Int) (w : World) :
    Calls Try.prog 16 #[.int .i64 x, .int .i64 p] w fun e w' => e = .returned (.int .i64 (withI x p)) ∧ w = w' := by
  by_cases h : 0 ≤ p ∧ p < 8
  · have hR := Lib.hid (right_any p)
    rw [decide_eq_true h] at hR
    rcases eight p h with rfl | rfl | rfl | rfl | rfl | rfl | rfl | rfl
    · go_enter Try.func16, Try.ntmps16
      go_wp2_with fail
      refine (hR.out _).mono ?_; rintro e w' ⟨rfl, rfl⟩
      go_wp2
      go_ret
      exact ⟨rfl, rfl⟩
    · go_enter Try.func16, Try.ntmps16
      go_wp2_with fail
      refine (hR.out _).mono ?_; rintro e w' ⟨rfl, rfl⟩
      go_wp2
      go_ret
      exact ⟨rfl, rfl⟩
    · go_enter Try.func16, Try.ntmps16
      go_wp2_with fail
      refine (hR.out _).mono ?_; rintro e w' ⟨rfl, rfl⟩
      go_wp2
      go_ret
      exact ⟨rfl, rfl⟩
    · go_enter Try.func16, Try.ntmps16
      go_wp2_with fail
      refine (hR.out _).mono ?_; rintro e w' ⟨rfl, rfl⟩
      go_wp2
      go_ret
      exact ⟨rfl, rfl⟩
    · go_enter Try.func16, Try.ntmps16
      go_wp2_with fail
      refine (hR.out _).mono ?_; rintro e w' ⟨rfl, rfl⟩
      go_wp2
      go_ret
      exact ⟨rfl, rfl⟩
    · go_enter Try.func16, Try.ntmps16
      go_wp2_with fail
      refine (hR.out _).mono ?_; rintro e w' ⟨rfl, rfl⟩
      go_wp2
      go_ret
      exact ⟨rfl, rfl⟩
    · go_enter Try.func16, Try.ntmps16
      go_wp2_with fail
      refine (hR.out _).mono ?_; rintro e w' ⟨rfl, rfl⟩
      go_wp2
      go_ret
      exact ⟨rfl, rfl⟩
    · go_enter Try.func16, Try.ntmps16
      go_wp2_with fail
      refine (hR.out _).mono ?_; rintro e w' ⟨rfl, rfl⟩
      go_wp2
      go_ret
      exact ⟨rfl, rfl⟩
  · have hR := Lib.hid (right_any p)
    rw [decide_eq_false h] at hR
    have hz : withI x p = x := by unfold withI; rw [if_neg h]
    rw [hz]
    clear hz
    go_enter Try.func16, Try.ntmps16
    go_wp2_with fail
    refine (hR.out _).mono ?_; rintro e w' ⟨rfl, rfl⟩
    go_wp2
    go_ret
    exact ⟨rfl, rfl⟩

set_option maxRecDepth 40000 in
theorem rhas_any (x p : Int) (w : World) :
    Calls Try.prog 23 #[.int .i64 x, .int .i64 p] w fun e w' => e = .returned (.bool (hasZ (low x) p)) ∧ w = w' := by
  by_cases h : 0 ≤ p ∧ p < 8
  · rcases eight p h with rfl | rfl | rfl | rfl | rfl | rfl | rfl | rfl
    · go_enter Try.func23, Try.ntmps23
      go_wp2
      go_ret
      exact ⟨congrArg (fun b => Ending.returned (Value.bool b)) (bit_zero x), rfl⟩
    · go_enter Try.func23, Try.ntmps23
      go_wp2
      go_ret
      exact ⟨congrArg (fun b => Ending.returned (Value.bool b)) (bit_1 x), rfl⟩
    · go_enter Try.func23, Try.ntmps23
      go_wp2
      go_ret
      exact ⟨congrArg (fun b => Ending.returned (Value.bool b)) (bit_2 x), rfl⟩
    · go_enter Try.func23, Try.ntmps23
      go_wp2
      go_ret
      exact ⟨congrArg (fun b => Ending.returned (Value.bool b)) (bit_3 x), rfl⟩
    · go_enter Try.func23, Try.ntmps23
      go_wp2
      go_ret
      exact ⟨congrArg (fun b => Ending.returned (Value.bool b)) (bit_4 x), rfl⟩
    · go_enter Try.func23, Try.ntmps23
      go_wp2
      go_ret
      exact ⟨congrArg (fun b => Ending.returned (Value.bool b)) (bit_5 x), rfl⟩
    · go_enter Try.func23, Try.ntmps23
      go_wp2
      go_ret
      exact ⟨congrArg (fun b => Ending.returned (Value.bool b)) (bit_6 x), rfl⟩
    · go_enter Try.func23, Try.ntmps23
      go_wp2
      go_ret
      exact ⟨congrArg (fun b => Ending.returned (Value.bool b)) (bit_7 x), rfl⟩
  · have hz : hasZ (low x) p = false := by unfold hasZ; rw [decide_eq_false h]; rfl
    rw [hz]
    clear hz
    by_cases h0 : 0 ≤ p
    · have h1 : ¬ p < 8 := fun h1 => h ⟨h0, h1⟩
      have h2 : 8 ≤ p := by omega
      clear h
      go_enter Try.func23, Try.ntmps23
      go_wp2
      go_ret
      exact ⟨rfl, rfl⟩
    · have h2 : p < 0 := by omega
      clear h
      go_enter Try.func23, Try.ntmps23
      go_wp2
      go_ret
      exact ⟨rfl, rfl⟩

set_option maxRecDepth 40000 in
theorem rwith_any (x p : Int) (w : World) :
    Calls Try.prog 18 #[.int .i64 x, .int .i64 p] w fun e w' => e = .returned (.int .i64 (withI x p)) ∧ w = w' := by
  by_cases h : 0 ≤ p ∧ p < 8
  · rcases eight p h with rfl | rfl | rfl | rfl | rfl | rfl | rfl | rfl
    · go_enter Try.func18, Try.ntmps18
      go_wp2
      go_ret
      exact ⟨rfl, rfl⟩
    · go_enter Try.func18, Try.ntmps18
      go_wp2
      go_ret
      exact ⟨rfl, rfl⟩
    · go_enter Try.func18, Try.ntmps18
      go_wp2
      go_ret
      exact ⟨rfl, rfl⟩
    · go_enter Try.func18, Try.ntmps18
      go_wp2
      go_ret
      exact ⟨rfl, rfl⟩
    · go_enter Try.func18, Try.ntmps18
      go_wp2
      go_ret
      exact ⟨rfl, rfl⟩
    · go_enter Try.func18, Try.ntmps18
      go_wp2
      go_ret
      exact ⟨rfl, rfl⟩
    · go_enter Try.func18, Try.ntmps18
      go_wp2
      go_ret
      exact ⟨rfl, rfl⟩
    · go_enter Try.func18, Try.ntmps18
      go_wp2
      go_ret
      exact ⟨rfl, rfl⟩
  · have hz : withI x p = x := by unfold withI; rw [if_neg h]
    rw [hz]
    clear hz
    by_cases h0 : 0 ≤ p
    · have h1 : ¬ p < 8 := fun h1 => h ⟨h0, h1⟩
      have h2 : 8 ≤ p := by omega
      clear h
      go_enter Try.func18, Try.ntmps18
      go_wp2
      go_ret
      exact ⟨rfl, rfl⟩
    · have h2 : p < 0 := by omega
      clear h
      go_enter Try.func18, Try.ntmps18
      go_wp2
      go_ret
      exact ⟨rfl, rfl⟩

end Por
end Go.Proofs.Ytkjdnmlaehjmgaa
