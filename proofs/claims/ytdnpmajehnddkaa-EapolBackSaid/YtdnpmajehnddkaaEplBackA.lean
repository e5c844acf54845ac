/-
  The law EapolBack, way by way.
-/
import Derived.Test.YtdnpmajehnddkaaEplAwake
import Derived.Test.YtdnpmajehnddkaaEplOpen
import Derived.Test.YtdnpmajehnddkaaRows
import Derived.Test.YtdnpmajehnddkaaBox
namespace Go.Proofs.Ytdnpmajehnddkaa
open Go.RowKit
namespace Epl
open Oct Mac Eth

set_option maxHeartbeats 1000000 in
theorem back_big1 (v t : Int) (b S : ByteArray) (w : World) (hz : 3000 < b.size) :
    Calls Try.prog 4 #[ep v t b, .string S] w fun e w' => e = .returned (.bool true) ∧ Below w.heap.size w w' := by
  go_enter Try.func4, Try.ntmps4
  go_wp2_with fail
  have bel := Bx.bel_refl w
  have B0 := Lib.hid (Bx.Blk.new w [.int .i64 v, .int .i64 t, .string b] 23)
  replace bel := Bx.bel_box bel (Obj.cells #[.int .i64 v, .int .i64 t, .string b] 23)
  have c0_0 := B0.out.at 0 rfl
  have c0_1 := B0.out.at 1 rfl
  have c0_2 := B0.out.at 2 rfl
  refine (awake_any _).mono ?_; rintro e w1 ⟨rfl, hb1⟩
  replace bel := Bx.then_below bel hb1
  replace B0 := Lib.hid (B0.out.keep hb1)
  clear hb1
  clear c0_0 c0_1 c0_2
  have c0_0 := B0.out.at 0 rfl
  have c0_1 := B0.out.at 1 rfl
  have c0_2 := B0.out.at 2 rfl
  go_wp2_with fail
  go_ret
  exact ⟨rfl, bel⟩

set_option maxHeartbeats 1000000 in
theorem back_big2 (v t : Int) (b S : ByteArray) (w : World) (hz : b.size ≤ 3000) (hS : 3000 < S.size) :
    Calls Try.prog 4 #[ep v t b, .string S] w fun e w' => e = .returned (.bool true) ∧ Below w.heap.size w w' := by
  go_enter Try.func4, Try.ntmps4
  go_wp2_with fail
  have bel := Bx.bel_refl w
  have B0 := Lib.hid (Bx.Blk.new w [.int .i64 v, .int .i64 t, .string b] 23)
  replace bel := Bx.bel_box bel (Obj.cells #[.int .i64 v, .int .i64 t, .string b] 23)
  have c0_0 := B0.out.at 0 rfl
  have c0_1 := B0.out.at 1 rfl
  have c0_2 := B0.out.at 2 rfl
  refine (awake_any _).mono ?_; rintro e w1 ⟨rfl, hb1⟩
  replace bel := Bx.then_below bel hb1
  replace B0 := Lib.hid (B0.out.keep hb1)
  clear hb1
  clear c0_0 c0_1 c0_2
  have c0_0 := B0.out.at 0 rfl
  have c0_1 := B0.out.at 1 rfl
  have c0_2 := B0.out.at 2 rfl
  go_wp2_with fail
  go_ret
  exact ⟨rfl, bel⟩

set_option maxHeartbeats 1000000 in
theorem back_00 (v t : Int) (b S : ByteArray) (A : ByteArray) (V T : Int) (B : ByteArray) (A2 : ByteArray) (w : World) (hz : b.size ≤ 3000) (hS : S.size ≤ 3000) (zA : A.size ≤ 3000)
    (HB : Hid (∀ w, Calls Try.prog 7 #[ep v t b] w fun e w' => e = .returned (.tuple #[.string A, .int .i64 0]) ∧ Below w.heap.size w w'))
    (HX : Hid (∀ w, Calls Try.prog 9 #[.string (A ++ S)] w fun e w' => e = .returned (.tuple #[ep v t b, .int .i64 0]) ∧ Below w.heap.size w w'))
    (HS : Hid (∀ w, Calls Try.prog 9 #[.string S] w fun e w' => e = .returned (.tuple #[ep V T B, .int .i64 0]) ∧ Below w.heap.size w w'))
    (HB2 : Hid (∀ w, Calls Try.prog 7 #[ep V T B] w fun e w' => e = .returned (.tuple #[.string A2, .int .i64 0]) ∧ Below w.heap.size w w'))
    (HX2 : Hid (∀ w, Calls Try.prog 9 #[.string A2] w fun e w' => e = .returned (.tuple #[ep V T B, .int .i64 0]) ∧ Below w.heap.size w w'))
    (HR2 : Hid (∀ w, Calls Try.prog 13 #[ep V T B] w fun e w' => e = .returned (.bool true) ∧ Below w.heap.size w w')) :
    Calls Try.prog 4 #[ep v t b, .string S] w fun e w' => e = .returned (.bool true) ∧ Below w.heap.size w w' := by
  have x0 : (v == v) = true := by simp
  have x1 : (t == t) = true := by simp
  have x2 : (b.toList == b.toList) = true := by simp
  have x3 : (V == V) = true := by simp
  have x4 : (T == T) = true := by simp
  have x5 : (B.toList == B.toList) = true := by simp
  have z1 : ¬ (A.size + S.size > 9223372036854775807) := by omega
  go_enter Try.func4, Try.ntmps4
  go_wp2_with fail
  have bel := Bx.bel_refl w
  have B0 := Lib.hid (Bx.Blk.new w [.int .i64 v, .int .i64 t, .string b] 23)
  replace bel := Bx.bel_box bel (Obj.cells #[.int .i64 v, .int .i64 t, .string b] 23)
  have c0_0 := B0.out.at 0 rfl
  have c0_1 := B0.out.at 1 rfl
  have c0_2 := B0.out.at 2 rfl
  refine (HB.out _).mono ?_; rintro e w1 ⟨rfl, hb1⟩
  replace bel := Bx.then_below bel hb1
  replace B0 := Lib.hid (B0.out.keep hb1)
  clear hb1
  clear c0_0 c0_1 c0_2
  have c0_0 := B0.out.at 0 rfl
  have c0_1 := B0.out.at 1 rfl
  have c0_2 := B0.out.at 2 rfl
  go_wp2_with fail
  refine (HX.out _).mono ?_; rintro e w2 ⟨rfl, hb2⟩
  replace bel := Bx.then_below bel hb2
  replace B0 := Lib.hid (B0.out.keep hb2)
  clear hb2
  replace B0 := Lib.hid (B0.out.more (Obj.cells #[.int .i64 v, .int .i64 t, .string b] 23))
  have B1 := Lib.hid (Bx.Blk.new w2 [.int .i64 v, .int .i64 t, .string b] 23)
  replace bel := Bx.bel_box bel (Obj.cells #[.int .i64 v, .int .i64 t, .string b] 23)
  clear c0_0 c0_1 c0_2
  have c0_0 := B0.out.at 0 rfl
  have c0_1 := B0.out.at 1 rfl
  have c0_2 := B0.out.at 2 rfl
  have c1_0 := B1.out.at 0 rfl
  have c1_1 := B1.out.at 1 rfl
  have c1_2 := B1.out.at 2 rfl
  go_wp2_with fail
  refine (HS.out _).mono ?_; rintro e w3 ⟨rfl, hb3⟩
  replace bel := Bx.then_below bel hb3
  replace B0 := Lib.hid (B0.out.keep hb3)
  replace B1 := Lib.hid (B1.out.keep hb3)
  clear hb3
  replace B0 := Lib.hid (B0.out.more (Obj.cells #[.int .i64 V, .int .i64 T, .string B] 23))
  replace B1 := Lib.hid (B1.out.more (Obj.cells #[.int .i64 V, .int .i64 T, .string B] 23))
  have B2 := Lib.hid (Bx.Blk.new w3 [.int .i64 V, .int .i64 T, .string B] 23)
  replace bel := Bx.bel_box bel (Obj.cells #[.int .i64 V, .int .i64 T, .string B] 23)
  clear c0_0 c0_1 c0_2 c1_0 c1_1 c1_2
  have c0_0 := B0.out.at 0 rfl
  have c0_1 := B0.out.at 1 rfl
  have c0_2 := B0.out.at 2 rfl
  have c1_0 := B1.out.at 0 rfl
  have c1_1 := B1.out.at 1 rfl
  have c1_2 := B1.out.at 2 rfl
  have c2_0 := B2.out.at 0 rfl
  have c2_1 := B2.out.at 1 rfl
  have c2_2 := B2.out.at 2 rfl
  go_wp2_with fail
  refine (HB2.out _).mono ?_; rintro e w4 ⟨rfl, hb4⟩
  replace bel := Bx.then_below bel hb4
  replace B0 := Lib.hid (B0.out.keep hb4)
  replace B1 := Lib.hid (B1.out.keep hb4)
  replace B2 := Lib.hid (B2.out.keep hb4)
  clear hb4
  clear c0_0 c0_1 c0_2 c1_0 c1_1 c1_2 c2_0 c2_1 c2_2
  have c0_0 := B0.out.at 0 rfl
  have c0_1 := B0.out.at 1 rfl
  have c0_2 := B0.out.at 2 rfl
  have c1_0 := B1.out.at 0 rfl
  have c1_1 := B1.out.at 1 rfl
  have c1_2 := B1.out.at 2 rfl
  have c2_0 := B2.out.at 0 rfl
  have c2_1 := B2.out.at 1 rfl
  have c2_2 := B2.out.at 2 rfl
  go_wp2_with fail
  refine (HX2.out _).mono ?_; rintro e w5 ⟨rfl, hb5⟩
  replace bel := Bx.then_below bel hb5
  replace B0 := Lib.hid (B0.out.keep hb5)
  replace B1 := Lib.hid (B1.out.keep hb5)
  replace B2 := Lib.hid (B2.out.keep hb5)
  clear hb5
  replace B0 := Lib.hid (B0.out.more (Obj.cells #[.int .i64 V, .int .i64 T, .string B] 23))
  replace B1 := Lib.hid (B1.out.more (Obj.cells #[.int .i64 V, .int .i64 T, .string B] 23))
  replace B2 := Lib.hid (B2.out.more (Obj.cells #[.int .i64 V, .int .i64 T, .string B] 23))
  have B3 := Lib.hid (Bx.Blk.new w5 [.int .i64 V, .int .i64 T, .string B] 23)
  replace bel := Bx.bel_box bel (Obj.cells #[.int .i64 V, .int .i64 T, .string B] 23)
  clear c0_0 c0_1 c0_2 c1_0 c1_1 c1_2 c2_0 c2_1 c2_2
  have c0_0 := B0.out.at 0 rfl
  have c0_1 := B0.out.at 1 rfl
  have c0_2 := B0.out.at 2 rfl
  have c1_0 := B1.out.at 0 rfl
  have c1_1 := B1.out.at 1 rfl
  have c1_2 := B1.out.at 2 rfl
  have c2_0 := B2.out.at 0 rfl
  have c2_1 := B2.out.at 1 rfl
  have c2_2 := B2.out.at 2 rfl
  have c3_0 := B3.out.at 0 rfl
  have c3_1 := B3.out.at 1 rfl
  have c3_2 := B3.out.at 2 rfl
  go_wp2_with fail
  refine (HR2.out _).mono ?_; rintro e w6 ⟨rfl, hb6⟩
  replace bel := Bx.then_below bel hb6
  replace B0 := Lib.hid (B0.out.keep hb6)
  replace B1 := Lib.hid (B1.out.keep hb6)
  replace B2 := Lib.hid (B2.out.keep hb6)
  replace B3 := Lib.hid (B3.out.keep hb6)
  clear hb6
  clear c0_0 c0_1 c0_2 c1_0 c1_1 c1_2 c2_0 c2_1 c2_2 c3_0 c3_1 c3_2
  have c0_0 := B0.out.at 0 rfl
  have c0_1 := B0.out.at 1 rfl
  have c0_2 := B0.out.at 2 rfl
  have c1_0 := B1.out.at 0 rfl
  have c1_1 := B1.out.at 1 rfl
  have c1_2 := B1.out.at 2 rfl
  have c2_0 := B2.out.at 0 rfl
  have c2_1 := B2.out.at 1 rfl
  have c2_2 := B2.out.at 2 rfl
  have c3_0 := B3.out.at 0 rfl
  have c3_1 := B3.out.at 1 rfl
  have c3_2 := B3.out.at 2 rfl
  go_wp2_with fail
  refine (awake_any _).mono ?_; rintro e w7 ⟨rfl, hb7⟩
  replace bel := Bx.then_below bel hb7
  replace B0 := Lib.hid (B0.out.keep hb7)
  replace B1 := Lib.hid (B1.out.keep hb7)
  replace B2 := Lib.hid (B2.out.keep hb7)
  replace B3 := Lib.hid (B3.out.keep hb7)
  clear hb7
  clear c0_0 c0_1 c0_2 c1_0 c1_1 c1_2 c2_0 c2_1 c2_2 c3_0 c3_1 c3_2
  have c0_0 := B0.out.at 0 rfl
  have c0_1 := B0.out.at 1 rfl
  have c0_2 := B0.out.at 2 rfl
  have c1_0 := B1.out.at 0 rfl
  have c1_1 := B1.out.at 1 rfl
  have c1_2 := B1.out.at 2 rfl
  have c2_0 := B2.out.at 0 rfl
  have c2_1 := B2.out.at 1 rfl
  have c2_2 := B2.out.at 2 rfl
  have c3_0 := B3.out.at 0 rfl
  have c3_1 := B3.out.at 1 rfl
  have c3_2 := B3.out.at 2 rfl
  go_wp2_with fail
  go_ret
  exact ⟨rfl, bel⟩

set_option maxHeartbeats 1000000 in
theorem back_01 (v t : Int) (b S : ByteArray) (A : ByteArray) (V T : Int) (B : ByteArray) (E : Int) (w : World) (hz : b.size ≤ 3000) (hS : S.size ≤ 3000) (zA : A.size ≤ 3000) (hE : (E == 0) = false)
    (HB : Hid (∀ w, Calls Try.prog 7 #[ep v t b] w fun e w' => e = .returned (.tuple #[.string A, .int .i64 0]) ∧ Below w.heap.size w w'))
    (HX : Hid (∀ w, Calls Try.prog 9 #[.string (A ++ S)] w fun e w' => e = .returned (.tuple #[ep v t b, .int .i64 0]) ∧ Below w.heap.size w w'))
    (HS : Hid (∀ w, Calls Try.prog 9 #[.string S] w fun e w' => e = .returned (.tuple #[ep V T B, .int .i64 E]) ∧ Below w.heap.size w w')) :
    Calls Try.prog 4 #[ep v t b, .string S] w fun e w' => e = .returned (.bool true) ∧ Below w.heap.size w w' := by
  have x0 : (v == v) = true := by simp
  have x1 : (t == t) = true := by simp
  have x2 : (b.toList == b.toList) = true := by simp
  have x3 : (V == V) = true := by simp
  have x4 : (T == T) = true := by simp
  have x5 : (B.toList == B.toList) = true := by simp
  have z1 : ¬ (A.size + S.size > 9223372036854775807) := by omega
  go_enter Try.func4, Try.ntmps4
  go_wp2_with fail
  have bel := Bx.bel_refl w
  have B0 := Lib.hid (Bx.Blk.new w [.int .i64 v, .int .i64 t, .string b] 23)
  replace bel := Bx.bel_box bel (Obj.cells #[.int .i64 v, .int .i64 t, .string b] 23)
  have c0_0 := B0.out.at 0 rfl
  have c0_1 := B0.out.at 1 rfl
  have c0_2 := B0.out.at 2 rfl
  refine (HB.out _).mono ?_; rintro e w1 ⟨rfl, hb1⟩
  replace bel := Bx.then_below bel hb1
  replace B0 := Lib.hid (B0.out.keep hb1)
  clear hb1
  clear c0_0 c0_1 c0_2
  have c0_0 := B0.out.at 0 rfl
  have c0_1 := B0.out.at 1 rfl
  have c0_2 := B0.out.at 2 rfl
  go_wp2_with fail
  refine (HX.out _).mono ?_; rintro e w2 ⟨rfl, hb2⟩
  replace bel := Bx.then_below bel hb2
  replace B0 := Lib.hid (B0.out.keep hb2)
  clear hb2
  replace B0 := Lib.hid (B0.out.more (Obj.cells #[.int .i64 v, .int .i64 t, .string b] 23))
  have B1 := Lib.hid (Bx.Blk.new w2 [.int .i64 v, .int .i64 t, .string b] 23)
  replace bel := Bx.bel_box bel (Obj.cells #[.int .i64 v, .int .i64 t, .string b] 23)
  clear c0_0 c0_1 c0_2
  have c0_0 := B0.out.at 0 rfl
  have c0_1 := B0.out.at 1 rfl
  have c0_2 := B0.out.at 2 rfl
  have c1_0 := B1.out.at 0 rfl
  have c1_1 := B1.out.at 1 rfl
  have c1_2 := B1.out.at 2 rfl
  go_wp2_with fail
  refine (HS.out _).mono ?_; rintro e w3 ⟨rfl, hb3⟩
  replace bel := Bx.then_below bel hb3
  replace B0 := Lib.hid (B0.out.keep hb3)
  replace B1 := Lib.hid (B1.out.keep hb3)
  clear hb3
  replace B0 := Lib.hid (B0.out.more (Obj.cells #[.int .i64 V, .int .i64 T, .string B] 23))
  replace B1 := Lib.hid (B1.out.more (Obj.cells #[.int .i64 V, .int .i64 T, .string B] 23))
  have B2 := Lib.hid (Bx.Blk.new w3 [.int .i64 V, .int .i64 T, .string B] 23)
  replace bel := Bx.bel_box bel (Obj.cells #[.int .i64 V, .int .i64 T, .string B] 23)
  clear c0_0 c0_1 c0_2 c1_0 c1_1 c1_2
  have c0_0 := B0.out.at 0 rfl
  have c0_1 := B0.out.at 1 rfl
  have c0_2 := B0.out.at 2 rfl
  have c1_0 := B1.out.at 0 rfl
  have c1_1 := B1.out.at 1 rfl
  have c1_2 := B1.out.at 2 rfl
  have c2_0 := B2.out.at 0 rfl
  have c2_1 := B2.out.at 1 rfl
  have c2_2 := B2.out.at 2 rfl
  go_wp2_with fail
  refine (awake_any _).mono ?_; rintro e w4 ⟨rfl, hb4⟩
  replace bel := Bx.then_below bel hb4
  replace B0 := Lib.hid (B0.out.keep hb4)
  replace B1 := Lib.hid (B1.out.keep hb4)
  replace B2 := Lib.hid (B2.out.keep hb4)
  clear hb4
  clear c0_0 c0_1 c0_2 c1_0 c1_1 c1_2 c2_0 c2_1 c2_2
  have c0_0 := B0.out.at 0 rfl
  have c0_1 := B0.out.at 1 rfl
  have c0_2 := B0.out.at 2 rfl
  have c1_0 := B1.out.at 0 rfl
  have c1_1 := B1.out.at 1 rfl
  have c1_2 := B1.out.at 2 rfl
  have c2_0 := B2.out.at 0 rfl
  have c2_1 := B2.out.at 1 rfl
  have c2_2 := B2.out.at 2 rfl
  go_wp2_with fail
  go_ret
  exact ⟨rfl, bel⟩

set_option maxHeartbeats 1000000 in
theorem back_10 (v t : Int) (b S : ByteArray) (V T : Int) (B : ByteArray) (A2 : ByteArray) (w : World) (hz : b.size ≤ 3000) (hS : S.size ≤ 3000)
    (HB : Hid (∀ w, Calls Try.prog 7 #[ep v t b] w fun e w' => e = .returned (.tuple #[.string ⟨#[]⟩, .int .i64 1]) ∧ Below w.heap.size w w'))
    (HS : Hid (∀ w, Calls Try.prog 9 #[.string S] w fun e w' => e = .returned (.tuple #[ep V T B, .int .i64 0]) ∧ Below w.heap.size w w'))
    (HB2 : Hid (∀ w, Calls Try.prog 7 #[ep V T B] w fun e w' => e = .returned (.tuple #[.string A2, .int .i64 0]) ∧ Below w.heap.size w w'))
    (HX2 : Hid (∀ w, Calls Try.prog 9 #[.string A2] w fun e w' => e = .returned (.tuple #[ep V T B, .int .i64 0]) ∧ Below w.heap.size w w'))
    (HR2 : Hid (∀ w, Calls Try.prog 13 #[ep V T B] w fun e w' => e = .returned (.bool true) ∧ Below w.heap.size w w')) :
    Calls Try.prog 4 #[ep v t b, .string S] w fun e w' => e = .returned (.bool true) ∧ Below w.heap.size w w' := by
  have x0 : (v == v) = true := by simp
  have x1 : (t == t) = true := by simp
  have x2 : (b.toList == b.toList) = true := by simp
  have x3 : (V == V) = true := by simp
  have x4 : (T == T) = true := by simp
  have x5 : (B.toList == B.toList) = true := by simp
  go_enter Try.func4, Try.ntmps4
  go_wp2_with fail
  have bel := Bx.bel_refl w
  have B0 := Lib.hid (Bx.Blk.new w [.int .i64 v, .int .i64 t, .string b] 23)
  replace bel := Bx.bel_box bel (Obj.cells #[.int .i64 v, .int .i64 t, .string b] 23)
  have c0_0 := B0.out.at 0 rfl
  have c0_1 := B0.out.at 1 rfl
  have c0_2 := B0.out.at 2 rfl
  refine (HB.out _).mono ?_; rintro e w1 ⟨rfl, hb1⟩
  replace bel := Bx.then_below bel hb1
  replace B0 := Lib.hid (B0.out.keep hb1)
  clear hb1
  clear c0_0 c0_1 c0_2
  have c0_0 := B0.out.at 0 rfl
  have c0_1 := B0.out.at 1 rfl
  have c0_2 := B0.out.at 2 rfl
  go_wp2_with fail
  refine (HS.out _).mono ?_; rintro e w2 ⟨rfl, hb2⟩
  replace bel := Bx.then_below bel hb2
  replace B0 := Lib.hid (B0.out.keep hb2)
  clear hb2
  replace B0 := Lib.hid (B0.out.more (Obj.cells #[.int .i64 V, .int .i64 T, .string B] 23))
  have B1 := Lib.hid (Bx.Blk.new w2 [.int .i64 V, .int .i64 T, .string B] 23)
  replace bel := Bx.bel_box bel (Obj.cells #[.int .i64 V, .int .i64 T, .string B] 23)
  clear c0_0 c0_1 c0_2
  have c0_0 := B0.out.at 0 rfl
  have c0_1 := B0.out.at 1 rfl
  have c0_2 := B0.out.at 2 rfl
  have c1_0 := B1.out.at 0 rfl
  have c1_1 := B1.out.at 1 rfl
  have c1_2 := B1.out.at 2 rfl
  go_wp2_with fail
  refine (HB2.out _).mono ?_; rintro e w3 ⟨rfl, hb3⟩
  replace bel := Bx.then_below bel hb3
  replace B0 := Lib.hid (B0.out.keep hb3)
  replace B1 := Lib.hid (B1.out.keep hb3)
  clear hb3
  clear c0_0 c0_1 c0_2 c1_0 c1_1 c1_2
  have c0_0 := B0.out.at 0 rfl
  have c0_1 := B0.out.at 1 rfl
  have c0_2 := B0.out.at 2 rfl
  have c1_0 := B1.out.at 0 rfl
  have c1_1 := B1.out.at 1 rfl
  have c1_2 := B1.out.at 2 rfl
  go_wp2_with fail
  refine (HX2.out _).mono ?_; rintro e w4 ⟨rfl, hb4⟩
  replace bel := Bx.then_below bel hb4
  replace B0 := Lib.hid (B0.out.keep hb4)
  replace B1 := Lib.hid (B1.out.keep hb4)
  clear hb4
  replace B0 := Lib.hid (B0.out.more (Obj.cells #[.int .i64 V, .int .i64 T, .string B] 23))
  replace B1 := Lib.hid (B1.out.more (Obj.cells #[.int .i64 V, .int .i64 T, .string B] 23))
  have B2 := Lib.hid (Bx.Blk.new w4 [.int .i64 V, .int .i64 T, .string B] 23)
  replace bel := Bx.bel_box bel (Obj.cells #[.int .i64 V, .int .i64 T, .string B] 23)
  clear c0_0 c0_1 c0_2 c1_0 c1_1 c1_2
  have c0_0 := B0.out.at 0 rfl
  have c0_1 := B0.out.at 1 rfl
  have c0_2 := B0.out.at 2 rfl
  have c1_0 := B1.out.at 0 rfl
  have c1_1 := B1.out.at 1 rfl
  have c1_2 := B1.out.at 2 rfl
  have c2_0 := B2.out.at 0 rfl
  have c2_1 := B2.out.at 1 rfl
  have c2_2 := B2.out.at 2 rfl
  go_wp2_with fail
  refine (HR2.out _).mono ?_; rintro e w5 ⟨rfl, hb5⟩
  replace bel := Bx.then_below bel hb5
  replace B0 := Lib.hid (B0.out.keep hb5)
  replace B1 := Lib.hid (B1.out.keep hb5)
  replace B2 := Lib.hid (B2.out.keep hb5)
  clear hb5
  clear c0_0 c0_1 c0_2 c1_0 c1_1 c1_2 c2_0 c2_1 c2_2
  have c0_0 := B0.out.at 0 rfl
  have c0_1 := B0.out.at 1 rfl
  have c0_2 := B0.out.at 2 rfl
  have c1_0 := B1.out.at 0 rfl
  have c1_1 := B1.out.at 1 rfl
  have c1_2 := B1.out.at 2 rfl
  have c2_0 := B2.out.at 0 rfl
  have c2_1 := B2.out.at 1 rfl
  have c2_2 := B2.out.at 2 rfl
  go_wp2_with fail
  refine (awake_any _).mono ?_; rintro e w6 ⟨rfl, hb6⟩
  replace bel := Bx.then_below bel hb6
  replace B0 := Lib.hid (B0.out.keep hb6)
  replace B1 := Lib.hid (B1.out.keep hb6)
  replace B2 := Lib.hid (B2.out.keep hb6)
  clear hb6
  clear c0_0 c0_1 c0_2 c1_0 c1_1 c1_2 c2_0 c2_1 c2_2
  have c0_0 := B0.out.at 0 rfl
  have c0_1 := B0.out.at 1 rfl
  have c0_2 := B0.out.at 2 rfl
  have c1_0 := B1.out.at 0 rfl
  have c1_1 := B1.out.at 1 rfl
  have c1_2 := B1.out.at 2 rfl
  have c2_0 := B2.out.at 0 rfl
  have c2_1 := B2.out.at 1 rfl
  have c2_2 := B2.out.at 2 rfl
  go_wp2_with fail
  go_ret
  exact ⟨rfl, bel⟩

set_option maxHeartbeats 1000000 in
theorem back_11 (v t : Int) (b S : ByteArray) (V T : Int) (B : ByteArray) (E : Int) (w : World) (hz : b.size ≤ 3000) (hS : S.size ≤ 3000) (hE : (E == 0) = false)
    (HB : Hid (∀ w, Calls Try.prog 7 #[ep v t b] w fun e w' => e = .returned (.tuple #[.string ⟨#[]⟩, .int .i64 1]) ∧ Below w.heap.size w w'))
    (HS : Hid (∀ w, Calls Try.prog 9 #[.string S] w fun e w' => e = .returned (.tuple #[ep V T B, .int .i64 E]) ∧ Below w.heap.size w w')) :
    Calls Try.prog 4 #[ep v t b, .string S] w fun e w' => e = .returned (.bool true) ∧ Below w.heap.size w w' := by
  have x0 : (v == v) = true := by simp
  have x1 : (t == t) = true := by simp
  have x2 : (b.toList == b.toList) = true := by simp
  have x3 : (V == V) = true := by simp
  have x4 : (T == T) = true := by simp
  have x5 : (B.toList == B.toList) = true := by simp
  go_enter Try.func4, Try.ntmps4
  go_wp2_with fail
  have bel := Bx.bel_refl w
  have B0 := Lib.hid (Bx.Blk.new w [.int .i64 v, .int .i64 t, .string b] 23)
  replace bel := Bx.bel_box bel (Obj.cells #[.int .i64 v, .int .i64 t, .string b] 23)
  have c0_0 := B0.out.at 0 rfl
  have c0_1 := B0.out.at 1 rfl
  have c0_2 := B0.out.at 2 rfl
  refine (HB.out _).mono ?_; rintro e w1 ⟨rfl, hb1⟩
  replace bel := Bx.then_below bel hb1
  replace B0 := Lib.hid (B0.out.keep hb1)
  clear hb1
  clear c0_0 c0_1 c0_2
  have c0_0 := B0.out.at 0 rfl
  have c0_1 := B0.out.at 1 rfl
  have c0_2 := B0.out.at 2 rfl
  go_wp2_with fail
  refine (HS.out _).mono ?_; rintro e w2 ⟨rfl, hb2⟩
  replace bel := Bx.then_below bel hb2
  replace B0 := Lib.hid (B0.out.keep hb2)
  clear hb2
  replace B0 := Lib.hid (B0.out.more (Obj.cells #[.int .i64 V, .int .i64 T, .string B] 23))
  have B1 := Lib.hid (Bx.Blk.new w2 [.int .i64 V, .int .i64 T, .string B] 23)
  replace bel := Bx.bel_box bel (Obj.cells #[.int .i64 V, .int .i64 T, .string B] 23)
  clear c0_0 c0_1 c0_2
  have c0_0 := B0.out.at 0 rfl
  have c0_1 := B0.out.at 1 rfl
  have c0_2 := B0.out.at 2 rfl
  have c1_0 := B1.out.at 0 rfl
  have c1_1 := B1.out.at 1 rfl
  have c1_2 := B1.out.at 2 rfl
  go_wp2_with fail
  refine (awake_any _).mono ?_; rintro e w3 ⟨rfl, hb3⟩
  replace bel := Bx.then_below bel hb3
  replace B0 := Lib.hid (B0.out.keep hb3)
  replace B1 := Lib.hid (B1.out.keep hb3)
  clear hb3
  clear c0_0 c0_1 c0_2 c1_0 c1_1 c1_2
  have c0_0 := B0.out.at 0 rfl
  have c0_1 := B0.out.at 1 rfl
  have c0_2 := B0.out.at 2 rfl
  have c1_0 := B1.out.at 0 rfl
  have c1_1 := B1.out.at 1 rfl
  have c1_2 := B1.out.at 2 rfl
  go_wp2_with fail
  go_ret
  exact ⟨rfl, bel⟩

end Epl
end Go.Proofs.Ytdnpmajehnddkaa
