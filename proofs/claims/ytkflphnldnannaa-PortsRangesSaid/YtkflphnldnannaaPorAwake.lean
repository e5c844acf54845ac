/-
  What the laws of layer 13 ask when a text is long: always answered.
-/
import Derived.Test.YtkflphnldnannaaPorH
namespace Go.Proofs.Ytkflphnldnannaa
open Go.RowKit
namespace Por

theorem parse_13 : valT ⟨#[49, 51]⟩ = 10 ∧ errT ⟨#[49, 51]⟩ = 0 := by decide +kernel
theorem parse_31 : valT ⟨#[51, 49]⟩ = 0 ∧ errT ⟨#[51, 49]⟩ = 3 := by decide +kernel
theorem parse_8 : valT ⟨#[56]⟩ = 0 ∧ errT ⟨#[56]⟩ = 3 := by decide +kernel

set_option maxRecDepth 100000 in
set_option maxHeartbeats 1000000 in
theorem awake_any (w : World) :
    Calls Try.prog 7 #[] w fun e w' => e = .returned (.bool true) ∧ Below w.heap.size w w' := by
  have P1 := Lib.hid (fun w => parse_any ⟨#[49, 51]⟩ w (by show 2 ≤ 9223372036854775807; omega))
  have P2 := Lib.hid (fun w => parse_any ⟨#[51, 49]⟩ w (by show 2 ≤ 9223372036854775807; omega))
  have P3 := Lib.hid (fun w => parse_any ⟨#[56]⟩ w (by show 1 ≤ 9223372036854775807; omega))
  rw [parse_13.1, parse_13.2] at P1
  rw [parse_31.1, parse_31.2] at P2
  rw [parse_8.1, parse_8.2] at P3
  have T1 := Lib.hid (text_any 10)
  rw [show textB (low 10) = ⟨#[49, 51]⟩ by kernel_rfl] at T1
  have T2 := Lib.hid (text_any 256)
  rw [show textB (low 256) = ⟨#[45]⟩ by kernel_rfl] at T2
  have H1 := Lib.hid (has_is 10 3 true (by decide +kernel))
  have H2 := Lib.hid (has_is 10 2 false (by decide +kernel))
  have W1 := Lib.hid (with_any 0 7)
  rw [show withI 0 7 = 128 by decide +kernel] at W1
  have W2 := Lib.hid (without_any 255 0)
  rw [show withoutI 255 0 = 254 by decide +kernel] at W2
  have C1 := Lib.hid (count_any 255)
  rw [show (listI (low 255) 8).length = 8 by decide +kernel] at C1
  have L1 := Lib.hid (list_any 10)
  rw [show listI (low 10) 8 = [1, 3] by decide +kernel] at L1
  go_enter Try.func7, Try.ntmps7
  go_wp2_with fail
  refine (P1.out _).mono ?_; rintro e w1 ⟨rfl, hb1⟩
  go_wp2_with fail
  refine (P2.out _).mono ?_; rintro e w2 ⟨rfl, hb2⟩
  have bel := Bx.then_below hb1 hb2
  go_wp2_with fail
  refine (P3.out _).mono ?_; rintro e w3 ⟨rfl, hb3⟩
  replace bel := Bx.then_below bel hb3
  go_wp2_with fail
  refine (T1.out _).mono ?_; rintro e w4 ⟨rfl, hb4⟩
  replace bel := Bx.then_below bel hb4
  go_wp2_with fail
  refine (T2.out _).mono ?_; rintro e w5 ⟨rfl, hb5⟩
  replace bel := Bx.then_below bel hb5
  go_wp2_with fail
  refine (H1.out _).mono ?_; rintro e w' ⟨rfl, rfl⟩
  go_wp2_with fail
  refine (H2.out _).mono ?_; rintro e w' ⟨rfl, rfl⟩
  go_wp2_with fail
  refine (W1.out _).mono ?_; rintro e w' ⟨rfl, rfl⟩
  go_wp2_with fail
  refine (W2.out _).mono ?_; rintro e w' ⟨rfl, rfl⟩
  go_wp2_with fail
  refine (C1.out _).mono ?_; rintro e w' ⟨rfl, rfl⟩
  go_wp2_with fail
  refine (L1.out _).mono ?_; rintro e w6 ⟨A, cap, rfl, hI, hb6⟩
  replace bel := Bx.then_below bel hb6
  go_wp2
  go_ret
  exact ⟨rfl, bel⟩

end Por
end Go.Proofs.Ytkflphnldnannaa
