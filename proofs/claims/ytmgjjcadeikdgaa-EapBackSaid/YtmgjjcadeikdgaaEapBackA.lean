/-
  The law EapBack, way by way.
-/
import Derived.Test.YtmgjjcadeikdgaaEapAwake
import Derived.Test.YtmgjjcadeikdgaaEapOpen
import Derived.Test.YtmgjjcadeikdgaaRows
import Derived.Test.YtmgjjcadeikdgaaBox
namespace Go.Proofs.Ytmgjjcadeikdgaa
open Go.RowKit
namespace Eap
open Oct Mac Eth Epl

set_option maxHeartbeats 1000000 in
theorem back_big1 (c i t : Int) (d S : ByteArray) (w : World) (hz : 3000 < d.size) :
    Calls Try.prog 4 #[pk c i t d, .string S] w fun e w' => e = .returned (.bool true) ∧ Below w.heap.size w w' := by
  go_enter Try.func4, Try.ntmps4
  go_wp2_with fail
  have bel := Bx.bel_refl w
  have B0 := Lib.hid (Bx.Blk.new w [.int .i64 c, .int .i64 i, .int .i64 t, .string d] 23)
  replace bel := Bx.bel_box bel (Obj.cells #[.int .i64 c, .int .i64 i, .int .i64 t, .string d] 23)
  have c0_0 := B0.out.at 0 rfl
  have c0_1 := B0.out.at 1 rfl
  have c0_2 := B0.out.at 2 rfl
  have c0_3 := B0.out.at 3 rfl
  refine (awake_any _).mono ?_; rintro e w1 ⟨rfl, hb1⟩
  replace bel := Bx.then_below bel hb1
  replace B0 := Lib.hid (B0.out.keep hb1)
  clear hb1
  clear c0_0 c0_1 c0_2 c0_3
  have c0_0 := B0.out.at 0 rfl
  have c0_1 := B0.out.at 1 rfl
  have c0_2 := B0.out.at 2 rfl
  have c0_3 := B0.out.at 3 rfl
  go_wp2_with fail
  go_ret
  exact ⟨rfl, bel⟩

set_option maxHeartbeats 1000000 in
theorem back_big2 (c i t : Int) (d S : ByteArray) (w : World) (hz : d.size ≤ 3000) (hS : 3000 < S.size) :
    Calls Try.prog 4 #[pk c i t d, .string S] w fun e w' => e = .returned (.bool true) ∧ Below w.heap.size w w' := by
  go_enter Try.func4, Try.ntmps4
  go_wp2_with fail
  have bel := Bx.bel_refl w
  have B0 := Lib.hid (Bx.Blk.new w [.int .i64 c, .int .i64 i, .int .i64 t, .string d] 23)
  replace bel := Bx.bel_box bel (Obj.cells #[.int .i64 c, .int .i64 i, .int .i64 t, .string d] 23)
  have c0_0 := B0.out.at 0 rfl
  have c0_1 := B0.out.at 1 rfl
  have c0_2 := B0.out.at 2 rfl
  have c0_3 := B0.out.at 3 rfl
  refine (awake_any _).mono ?_; rintro e w1 ⟨rfl, hb1⟩
  replace bel := Bx.then_below bel hb1
  replace B0 := Lib.hid (B0.out.keep hb1)
  clear hb1
  clear c0_0 c0_1 c0_2 c0_3
  have c0_0 := B0.out.at 0 rfl
  have c0_1 := B0.out.at 1 rfl
  have c0_2 := B0.out.at 2 rfl
  have c0_3 := B0.out.at 3 rfl
  go_wp2_with fail
  go_ret
  exact ⟨rfl, bel⟩

set_option maxHeartbeats 1000000 in
theorem back_00 (c i t : Int) (d S : ByteArray) (A : ByteArray) (C I T : Int) (D : ByteArray) (A2 : ByteArray) (w : World) (hz : d.size ≤ 3000) (hS : S.size ≤ 3000) (zA : A.size ≤ 3000) (hA : A2.size ≤ S.size) (hx : S.extract 0 A2.size = A2)
    (HB : Hid (∀ w, Calls Try.prog 8 #[pk c i t d] w fun e w' => e = .returned (.tuple #[.string A, .int .i64 0]) ∧ Below w.heap.size w w'))
    (HX : Hid (∀ w, Calls Try.prog 10 #[.string (A ++ S)] w fun e w' => e = .returned (.tuple #[pk c i t d, .int .i64 0]) ∧ Below w.heap.size w w'))
    (HS : Hid (∀ w, Calls Try.prog 10 #[.string S] w fun e w' => e = .returned (.tuple #[pk C I T D, .int .i64 0]) ∧ Below w.heap.size w w'))
    (HB2 : Hid (∀ w, Calls Try.prog 8 #[pk C I T D] w fun e w' => e = .returned (.tuple #[.string A2, .int .i64 0]) ∧ Below w.heap.size w w'))
    (HR2 : Hid (∀ w, Calls Try.prog 12 #[pk C I T D] w fun e w' => e = .returned (.bool true) ∧ Below w.heap.size w w')) :
    Calls Try.prog 4 #[pk c i t d, .string S] w fun e w' => e = .returned (.bool true) ∧ Below w.heap.size w w' := by
  have x0 : (c == c) = true := by simp
  have x1 : (i == i) = true := by simp
  have x2 : (t == t) = true := by simp
  have x3 : (d.toList == d.toList) = true := by simp
  have x4 : (C == C) = true := by simp
  have x5 : (I == I) = true := by simp
  have x6 : (T == T) = true := by simp
  have x7 : (D.toList == D.toList) = true := by simp
  have x8 : (A2.toList == A2.toList) = true := by simp
  have y0 : (0 : Int) ≤ (A2.size : Int) := by omega
  have y1 : (A2.size : Int) ≤ (S.size : Int) := by omega
  have z1 : ¬ (A.size + S.size > 9223372036854775807) := by omega
  go_enter Try.func4, Try.ntmps4
  go_wp2_with fail
  have bel := Bx.bel_refl w
  have B0 := Lib.hid (Bx.Blk.new w [.int .i64 c, .int .i64 i, .int .i64 t, .string d] 23)
  replace bel := Bx.bel_box bel (Obj.cells #[.int .i64 c, .int .i64 i, .int .i64 t, .string d] 23)
  have c0_0 := B0.out.at 0 rfl
  have c0_1 := B0.out.at 1 rfl
  have c0_2 := B0.out.at 2 rfl
  have c0_3 := B0.out.at 3 rfl
  refine (HB.out _).mono ?_; rintro e w1 ⟨rfl, hb1⟩
  replace bel := Bx.then_below bel hb1
  replace B0 := Lib.hid (B0.out.keep hb1)
  clear hb1
  clear c0_0 c0_1 c0_2 c0_3
  have c0_0 := B0.out.at 0 rfl
  have c0_1 := B0.out.at 1 rfl
  have c0_2 := B0.out.at 2 rfl
  have c0_3 := B0.out.at 3 rfl
  go_wp2_with fail
  refine (HX.out _).mono ?_; rintro e w2 ⟨rfl, hb2⟩
  replace bel := Bx.then_below bel hb2
  replace B0 := Lib.hid (B0.out.keep hb2)
  clear hb2
  replace B0 := Lib.hid (B0.out.more (Obj.cells #[.int .i64 c, .int .i64 i, .int .i64 t, .string d] 23))
  have B1 := Lib.hid (Bx.Blk.new w2 [.int .i64 c, .int .i64 i, .int .i64 t, .string d] 23)
  replace bel := Bx.bel_box bel (Obj.cells #[.int .i64 c, .int .i64 i, .int .i64 t, .string d] 23)
  clear c0_0 c0_1 c0_2 c0_3
  have c0_0 := B0.out.at 0 rfl
  have c0_1 := B0.out.at 1 rfl
  have c0_2 := B0.out.at 2 rfl
  have c0_3 := B0.out.at 3 rfl
  have c1_0 := B1.out.at 0 rfl
  have c1_1 := B1.out.at 1 rfl
  have c1_2 := B1.out.at 2 rfl
  have c1_3 := B1.out.at 3 rfl
  go_wp2_with fail
  refine (HS.out _).mono ?_; rintro e w3 ⟨rfl, hb3⟩
  replace bel := Bx.then_below bel hb3
  replace B0 := Lib.hid (B0.out.keep hb3)
  replace B1 := Lib.hid (B1.out.keep hb3)
  clear hb3
  replace B0 := Lib.hid (B0.out.more (Obj.cells #[.int .i64 C, .int .i64 I, .int .i64 T, .string D] 23))
  replace B1 := Lib.hid (B1.out.more (Obj.cells #[.int .i64 C, .int .i64 I, .int .i64 T, .string D] 23))
  have B2 := Lib.hid (Bx.Blk.new w3 [.int .i64 C, .int .i64 I, .int .i64 T, .string D] 23)
  replace bel := Bx.bel_box bel (Obj.cells #[.int .i64 C, .int .i64 I, .int .i64 T, .string D] 23)
  clear c0_0 c0_1 c0_2 c0_3 c1_0 c1_1 c1_2 c1_3
  have c0_0 := B0.out.at 0 rfl
  have c0_1 := B0.out.at 1 rfl
  have c0_2 := B0.out.at 2 rfl
  have c0_3 := B0.out.at 3 rfl
  have c1_0 := B1.out.at 0 rfl
  have c1_1 := B1.out.at 1 rfl
  have c1_2 := B1.out.at 2 rfl
  have c1_3 := B1.out.at 3 rfl
  have c2_0 := B2.out.at 0 rfl
  have c2_1 := B2.out.at 1 rfl
  have c2_2 := B2.out.at 2 rfl
  have c2_3 := B2.out.at 3 rfl
  go_wp2_with fail
  refine (HB2.out _).mono ?_; rintro e w4 ⟨rfl, hb4⟩
  replace bel := Bx.then_below bel hb4
  replace B0 := Lib.hid (B0.out.keep hb4)
  replace B1 := Lib.hid (B1.out.keep hb4)
  replace B2 := Lib.hid (B2.out.keep hb4)
  clear hb4
  clear c0_0 c0_1 c0_2 c0_3 c1_0 c1_1 c1_2 c1_3 c2_0 c2_1 c2_2 c2_3
  have c0_0 := B0.out.at 0 rfl
  have c0_1 := B0.out.at 1 rfl
  have c0_2 := B0.out.at 2 rfl
  have c0_3 := B0.out.at 3 rfl
  have c1_0 := B1.out.at 0 rfl
  have c1_1 := B1.out.at 1 rfl
  have c1_2 := B1.out.at 2 rfl
  have c1_3 := B1.out.at 3 rfl
  have c2_0 := B2.out.at 0 rfl
  have c2_1 := B2.out.at 1 rfl
  have c2_2 := B2.out.at 2 rfl
  have c2_3 := B2.out.at 3 rfl
  go_wp2_with fail
  refine (HR2.out _).mono ?_; rintro e w5 ⟨rfl, hb5⟩
  replace bel := Bx.then_below bel hb5
  replace B0 := Lib.hid (B0.out.keep hb5)
  replace B1 := Lib.hid (B1.out.keep hb5)
  replace B2 := Lib.hid (B2.out.keep hb5)
  clear hb5
  clear c0_0 c0_1 c0_2 c0_3 c1_0 c1_1 c1_2 c1_3 c2_0 c2_1 c2_2 c2_3
  have c0_0 := B0.out.at 0 rfl
  have c0_1 := B0.out.at 1 rfl
  have c0_2 := B0.out.at 2 rfl
  have c0_3 := B0.out.at 3 rfl
  have c1_0 := B1.out.at 0 rfl
  have c1_1 := B1.out.at 1 rfl
  have c1_2 := B1.out.at 2 rfl
  have c1_3 := B1.out.at 3 rfl
  have c2_0 := B2.out.at 0 rfl
  have c2_1 := B2.out.at 1 rfl
  have c2_2 := B2.out.at 2 rfl
  have c2_3 := B2.out.at 3 rfl
  go_wp2_with fail
  refine (awake_any _).mono ?_; rintro e w6 ⟨rfl, hb6⟩
  replace bel := Bx.then_below bel hb6
  replace B0 := Lib.hid (B0.out.keep hb6)
  replace B1 := Lib.hid (B1.out.keep hb6)
  replace B2 := Lib.hid (B2.out.keep hb6)
  clear hb6
  clear c0_0 c0_1 c0_2 c0_3 c1_0 c1_1 c1_2 c1_3 c2_0 c2_1 c2_2 c2_3
  have c0_0 := B0.out.at 0 rfl
  have c0_1 := B0.out.at 1 rfl
  have c0_2 := B0.out.at 2 rfl
  have c0_3 := B0.out.at 3 rfl
  have c1_0 := B1.out.at 0 rfl
  have c1_1 := B1.out.at 1 rfl
  have c1_2 := B1.out.at 2 rfl
  have c1_3 := B1.out.at 3 rfl
  have c2_0 := B2.out.at 0 rfl
  have c2_1 := B2.out.at 1 rfl
  have c2_2 := B2.out.at 2 rfl
  have c2_3 := B2.out.at 3 rfl
  go_wp2_with fail
  go_ret
  exact ⟨rfl, bel⟩

set_option maxHeartbeats 1000000 in
theorem back_01 (c i t : Int) (d S : ByteArray) (A : ByteArray) (C I T : Int) (D : ByteArray) (F : Int) (w : World) (hz : d.size ≤ 3000) (hS : S.size ≤ 3000) (zA : A.size ≤ 3000) (hF : (F == 0) = false)
    (HB : Hid (∀ w, Calls Try.prog 8 #[pk c i t d] w fun e w' => e = .returned (.tuple #[.string A, .int .i64 0]) ∧ Below w.heap.size w w'))
    (HX : Hid (∀ w, Calls Try.prog 10 #[.string (A ++ S)] w fun e w' => e = .returned (.tuple #[pk c i t d, .int .i64 0]) ∧ Below w.heap.size w w'))
    (HS : Hid (∀ w, Calls Try.prog 10 #[.string S] w fun e w' => e = .returned (.tuple #[pk C I T D, .int .i64 F]) ∧ Below w.heap.size w w')) :
    Calls Try.prog 4 #[pk c i t d, .string S] w fun e w' => e = .returned (.bool true) ∧ Below w.heap.size w w' := by
  have x0 : (c == c) = true := by simp
  have x1 : (i == i) = true := by simp
  have x2 : (t == t) = true := by simp
  have x3 : (d.toList == d.toList) = true := by simp
  have x4 : (C == C) = true := by simp
  have x5 : (I == I) = true := by simp
  have x6 : (T == T) = true := by simp
  have x7 : (D.toList == D.toList) = true := by simp
  have z1 : ¬ (A.size + S.size > 9223372036854775807) := by omega
  go_enter Try.func4, Try.ntmps4
  go_wp2_with fail
  have bel := Bx.bel_refl w
  have B0 := Lib.hid (Bx.Blk.new w [.int .i64 c, .int .i64 i, .int .i64 t, .string d] 23)
  replace bel := Bx.bel_box bel (Obj.cells #[.int .i64 c, .int .i64 i, .int .i64 t, .string d] 23)
  have c0_0 := B0.out.at 0 rfl
  have c0_1 := B0.out.at 1 rfl
  have c0_2 := B0.out.at 2 rfl
  have c0_3 := B0.out.at 3 rfl
  refine (HB.out _).mono ?_; rintro e w1 ⟨rfl, hb1⟩
  replace bel := Bx.then_below bel hb1
  replace B0 := Lib.hid (B0.out.keep hb1)
  clear hb1
  clear c0_0 c0_1 c0_2 c0_3
  have c0_0 := B0.out.at 0 rfl
  have c0_1 := B0.out.at 1 rfl
  have c0_2 := B0.out.at 2 rfl
  have c0_3 := B0.out.at 3 rfl
  go_wp2_with fail
  refine (HX.out _).mono ?_; rintro e w2 ⟨rfl, hb2⟩
  replace bel := Bx.then_below bel hb2
  replace B0 := Lib.hid (B0.out.keep hb2)
  clear hb2
  replace B0 := Lib.hid (B0.out.more (Obj.cells #[.int .i64 c, .int .i64 i, .int .i64 t, .string d] 23))
  have B1 := Lib.hid (Bx.Blk.new w2 [.int .i64 c, .int .i64 i, .int .i64 t, .string d] 23)
  replace bel := Bx.bel_box bel (Obj.cells #[.int .i64 c, .int .i64 i, .int .i64 t, .string d] 23)
  clear c0_0 c0_1 c0_2 c0_3
  have c0_0 := B0.out.at 0 rfl
  have c0_1 := B0.out.at 1 rfl
  have c0_2 := B0.out.at 2 rfl
  have c0_3 := B0.out.at 3 rfl
  have c1_0 := B1.out.at 0 rfl
  have c1_1 := B1.out.at 1 rfl
  have c1_2 := B1.out.at 2 rfl
  have c1_3 := B1.out.at 3 rfl
  go_wp2_with fail
  refine (HS.out _).mono ?_; rintro e w3 ⟨rfl, hb3⟩
  replace bel := Bx.then_below bel hb3
  replace B0 := Lib.hid (B0.out.keep hb3)
  replace B1 := Lib.hid (B1.out.keep hb3)
  clear hb3
  replace B0 := Lib.hid (B0.out.more (Obj.cells #[.int .i64 C, .int .i64 I, .int .i64 T, .string D] 23))
  replace B1 := Lib.hid (B1.out.more (Obj.cells #[.int .i64 C, .int .i64 I, .int .i64 T, .string D] 23))
  have B2 := Lib.hid (Bx.Blk.new w3 [.int .i64 C, .int .i64 I, .int .i64 T, .string D] 23)
  replace bel := Bx.bel_box bel (Obj.cells #[.int .i64 C, .int .i64 I, .int .i64 T, .string D] 23)
  clear c0_0 c0_1 c0_2 c0_3 c1_0 c1_1 c1_2 c1_3
  have c0_0 := B0.out.at 0 rfl
  have c0_1 := B0.out.at 1 rfl
  have c0_2 := B0.out.at 2 rfl
  have c0_3 := B0.out.at 3 rfl
  have c1_0 := B1.out.at 0 rfl
  have c1_1 := B1.out.at 1 rfl
  have c1_2 := B1.out.at 2 rfl
  have c1_3 := B1.out.at 3 rfl
  have c2_0 := B2.out.at 0 rfl
  have c2_1 := B2.out.at 1 rfl
  have c2_2 := B2.out.at 2 rfl
  have c2_3 := B2.out.at 3 rfl
  go_wp2_with fail
  refine (awake_any _).mono ?_; rintro e w4 ⟨rfl, hb4⟩
  replace bel := Bx.then_below bel hb4
  replace B0 := Lib.hid (B0.out.keep hb4)
  replace B1 := Lib.hid (B1.out.keep hb4)
  replace B2 := Lib.hid (B2.out.keep hb4)
  clear hb4
  clear c0_0 c0_1 c0_2 c0_3 c1_0 c1_1 c1_2 c1_3 c2_0 c2_1 c2_2 c2_3
  have c0_0 := B0.out.at 0 rfl
  have c0_1 := B0.out.at 1 rfl
  have c0_2 := B0.out.at 2 rfl
  have c0_3 := B0.out.at 3 rfl
  have c1_0 := B1.out.at 0 rfl
  have c1_1 := B1.out.at 1 rfl
  have c1_2 := B1.out.at 2 rfl
  have c1_3 := B1.out.at 3 rfl
  have c2_0 := B2.out.at 0 rfl
  have c2_1 := B2.out.at 1 rfl
  have c2_2 := B2.out.at 2 rfl
  have c2_3 := B2.out.at 3 rfl
  go_wp2_with fail
  go_ret
  exact ⟨rfl, bel⟩

set_option maxHeartbeats 1000000 in
theorem back_10 (c i t : Int) (d S : ByteArray) (C I T : Int) (D : ByteArray) (A2 : ByteArray) (w : World) (hz : d.size ≤ 3000) (hS : S.size ≤ 3000) (hA : A2.size ≤ S.size) (hx : S.extract 0 A2.size = A2)
    (HB : Hid (∀ w, Calls Try.prog 8 #[pk c i t d] w fun e w' => e = .returned (.tuple #[.string ⟨#[]⟩, .int .i64 1]) ∧ Below w.heap.size w w'))
    (HS : Hid (∀ w, Calls Try.prog 10 #[.string S] w fun e w' => e = .returned (.tuple #[pk C I T D, .int .i64 0]) ∧ Below w.heap.size w w'))
    (HB2 : Hid (∀ w, Calls Try.prog 8 #[pk C I T D] w fun e w' => e = .returned (.tuple #[.string A2, .int .i64 0]) ∧ Below w.heap.size w w'))
    (HR2 : Hid (∀ w, Calls Try.prog 12 #[pk C I T D] w fun e w' => e = .returned (.bool true) ∧ Below w.heap.size w w')) :
    Calls Try.prog 4 #[pk c i t d, .string S] w fun e w' => e = .returned (.bool true) ∧ Below w.heap.size w w' := by
  have x0 : (c == c) = true := by simp
  have x1 : (i == i) = true := by simp
  have x2 : (t == t) = true := by simp
  have x3 : (d.toList == d.toList) = true := by simp
  have x4 : (C == C) = true := by simp
  have x5 : (I == I) = true := by simp
  have x6 : (T == T) = true := by simp
  have x7 : (D.toList == D.toList) = true := by simp
  have x8 : (A2.toList == A2.toList) = true := by simp
  have y0 : (0 : Int) ≤ (A2.size : Int) := by omega
  have y1 : (A2.size : Int) ≤ (S.size : Int) := by omega
  go_enter Try.func4, Try.ntmps4
  go_wp2_with fail
  have bel := Bx.bel_refl w
  have B0 := Lib.hid (Bx.Blk.new w [.int .i64 c, .int .i64 i, .int .i64 t, .string d] 23)
  replace bel := Bx.bel_box bel (Obj.cells #[.int .i64 c, .int .i64 i, .int .i64 t, .string d] 23)
  have c0_0 := B0.out.at 0 rfl
  have c0_1 := B0.out.at 1 rfl
  have c0_2 := B0.out.at 2 rfl
  have c0_3 := B0.out.at 3 rfl
  refine (HB.out _).mono ?_; rintro e w1 ⟨rfl, hb1⟩
  replace bel := Bx.then_below bel hb1
  replace B0 := Lib.hid (B0.out.keep hb1)
  clear hb1
  clear c0_0 c0_1 c0_2 c0_3
  have c0_0 := B0.out.at 0 rfl
  have c0_1 := B0.out.at 1 rfl
  have c0_2 := B0.out.at 2 rfl
  have c0_3 := B0.out.at 3 rfl
  go_wp2_with fail
  refine (HS.out _).mono ?_; rintro e w2 ⟨rfl, hb2⟩
  replace bel := Bx.then_below bel hb2
  replace B0 := Lib.hid (B0.out.keep hb2)
  clear hb2
  replace B0 := Lib.hid (B0.out.more (Obj.cells #[.int .i64 C, .int .i64 I, .int .i64 T, .string D] 23))
  have B1 := Lib.hid (Bx.Blk.new w2 [.int .i64 C, .int .i64 I, .int .i64 T, .string D] 23)
  replace bel := Bx.bel_box bel (Obj.cells #[.int .i64 C, .int .i64 I, .int .i64 T, .string D] 23)
  clear c0_0 c0_1 c0_2 c0_3
  have c0_0 := B0.out.at 0 rfl
  have c0_1 := B0.out.at 1 rfl
  have c0_2 := B0.out.at 2 rfl
  have c0_3 := B0.out.at 3 rfl
  have c1_0 := B1.out.at 0 rfl
  have c1_1 := B1.out.at 1 rfl
  have c1_2 := B1.out.at 2 rfl
  have c1_3 := B1.out.at 3 rfl
  go_wp2_with fail
  refine (HB2.out _).mono ?_; rintro e w3 ⟨rfl, hb3⟩
  replace bel := Bx.then_below bel hb3
  replace B0 := Lib.hid (B0.out.keep hb3)
  replace B1 := Lib.hid (B1.out.keep hb3)
  clear hb3
  clear c0_0 c0_1 c0_2 c0_3 c1_0 c1_1 c1_2 c1_3
  have c0_0 := B0.out.at 0 rfl
  have c0_1 := B0.out.at 1 rfl
  have c0_2 := B0.out.at 2 rfl
  have c0_3 := B0.out.at 3 rfl
  have c1_0 := B1.out.at 0 rfl
  have c1_1 := B1.out.at 1 rfl
  have c1_2 := B1.out.at 2 rfl
  have c1_3 := B1.out.at 3 rfl
  go_wp2_with fail
  refine (HR2.out _).mono ?_; rintro e w4 ⟨rfl, hb4⟩
  replace bel := Bx.then_below bel hb4
  replace B0 := Lib.hid (B0.out.keep hb4)
  replace B1 := Lib.hid (B1.out.keep hb4)
  clear hb4
  clear c0_0 c0_1 c0_2 c0_3 c1_0 c1_1 c1_2 c1_3
  have c0_0 := B0.out.at 0 rfl
  have c0_1 := B0.out.at 1 rfl
  have c0_2 := B0.out.at 2 rfl
  have c0_3 := B0.out.at 3 rfl
  have c1_0 := B1.out.at 0 rfl
  have c1_1 := B1.out.at 1 rfl
  have c1_2 := B1.out.at 2 rfl
  have c1_3 := B1.out.at 3 rfl
  go_wp2_with fail
  refine (awake_any _).mono ?_; rintro e w5 ⟨rfl, hb5⟩
  replace bel := Bx.then_below bel hb5
  replace B0 := Lib.hid (B0.out.keep hb5)
  replace B1 := Lib.hid (B1.out.keep hb5)
  clear hb5
  clear c0_0 c0_1 c0_2 c0_3 c1_0 c1_1 c1_2 c1_3
  have c0_0 := B0.out.at 0 rfl
  have c0_1 := B0.out.at 1 rfl
  have c0_2 := B0.out.at 2 rfl
  have c0_3 := B0.out.at 3 rfl
  have c1_0 := B1.out.at 0 rfl
  have c1_1 := B1.out.at 1 rfl
  have c1_2 := B1.out.at 2 rfl
  have c1_3 := B1.out.at 3 rfl
  go_wp2_with fail
  go_ret
  exact ⟨rfl, bel⟩

set_option maxHeartbeats 1000000 in
theorem back_11 (c i t : Int) (d S : ByteArray) (C I T : Int) (D : ByteArray) (F : Int) (w : World) (hz : d.size ≤ 3000) (hS : S.size ≤ 3000) (hF : (F == 0) = false)
    (HB : Hid (∀ w, Calls Try.prog 8 #[pk c i t d] w fun e w' => e = .returned (.tuple #[.string ⟨#[]⟩, .int .i64 1]) ∧ Below w.heap.size w w'))
    (HS : Hid (∀ w, Calls Try.prog 10 #[.string S] w fun e w' => e = .returned (.tuple #[pk C I T D, .int .i64 F]) ∧ Below w.heap.size w w')) :
    Calls Try.prog 4 #[pk c i t d, .string S] w fun e w' => e = .returned (.bool true) ∧ Below w.heap.size w w' := by
  have x0 : (c == c) = true := by simp
  have x1 : (i == i) = true := by simp
  have x2 : (t == t) = true := by simp
  have x3 : (d.toList == d.toList) = true := by simp
  have x4 : (C == C) = true := by simp
  have x5 : (I == I) = true := by simp
  have x6 : (T == T) = true := by simp
  have x7 : (D.toList == D.toList) = true := by simp
  go_enter Try.func4, Try.ntmps4
  go_wp2_with fail
  have bel := Bx.bel_refl w
  have B0 := Lib.hid (Bx.Blk.new w [.int .i64 c, .int .i64 i, .int .i64 t, .string d] 23)
  replace bel := Bx.bel_box bel (Obj.cells #[.int .i64 c, .int .i64 i, .int .i64 t, .string d] 23)
  have c0_0 := B0.out.at 0 rfl
  have c0_1 := B0.out.at 1 rfl
  have c0_2 := B0.out.at 2 rfl
  have c0_3 := B0.out.at 3 rfl
  refine (HB.out _).mono ?_; rintro e w1 ⟨rfl, hb1⟩
  replace bel := Bx.then_below bel hb1
  replace B0 := Lib.hid (B0.out.keep hb1)
  clear hb1
  clear c0_0 c0_1 c0_2 c0_3
  have c0_0 := B0.out.at 0 rfl
  have c0_1 := B0.out.at 1 rfl
  have c0_2 := B0.out.at 2 rfl
  have c0_3 := B0.out.at 3 rfl
  go_wp2_with fail
  refine (HS.out _).mono ?_; rintro e w2 ⟨rfl, hb2⟩
  replace bel := Bx.then_below bel hb2
  replace B0 := Lib.hid (B0.out.keep hb2)
  clear hb2
  replace B0 := Lib.hid (B0.out.more (Obj.cells #[.int .i64 C, .int .i64 I, .int .i64 T, .string D] 23))
  have B1 := Lib.hid (Bx.Blk.new w2 [.int .i64 C, .int .i64 I, .int .i64 T, .string D] 23)
  replace bel := Bx.bel_box bel (Obj.cells #[.int .i64 C, .int .i64 I, .int .i64 T, .string D] 23)
  clear c0_0 c0_1 c0_2 c0_3
  have c0_0 := B0.out.at 0 rfl
  have c0_1 := B0.out.at 1 rfl
  have c0_2 := B0.out.at 2 rfl
  have c0_3 := B0.out.at 3 rfl
  have c1_0 := B1.out.at 0 rfl
  have c1_1 := B1.out.at 1 rfl
  have c1_2 := B1.out.at 2 rfl
  have c1_3 := B1.out.at 3 rfl
  go_wp2_with fail
  refine (awake_any _).mono ?_; rintro e w3 ⟨rfl, hb3⟩
  replace bel := Bx.then_below bel hb3
  replace B0 := Lib.hid (B0.out.keep hb3)
  replace B1 := Lib.hid (B1.out.keep hb3)
  clear hb3
  clear c0_0 c0_1 c0_2 c0_3 c1_0 c1_1 c1_2 c1_3
  have c0_0 := B0.out.at 0 rfl
  have c0_1 := B0.out.at 1 rfl
  have c0_2 := B0.out.at 2 rfl
  have c0_3 := B0.out.at 3 rfl
  have c1_0 := B1.out.at 0 rfl
  have c1_1 := B1.out.at 1 rfl
  have c1_2 := B1.out.at 2 rfl
  have c1_3 := B1.out.at 3 rfl
  go_wp2_with fail
  go_ret
  exact ⟨rfl, bel⟩

end Eap
end Go.Proofs.Ytmgjjcadeikdgaa
