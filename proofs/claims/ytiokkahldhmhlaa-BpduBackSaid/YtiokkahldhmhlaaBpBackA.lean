/-
  The law BpduBack, way by way.
-/
import Derived.Test.YtiokkahldhmhlaaBpL
import Derived.Test.YtiokkahldhmhlaaBpOpen
import Derived.Test.YtiokkahldhmhlaaBpRead
import Derived.Test.YtiokkahldhmhlaaRows
namespace Go.Proofs.Ytiokkahldhmhlaa
open Go.RowKit
namespace Bpd
open Oct Mac Eth Epl

theorem ne_self (b : Bp) (w : World) : (binOp .neq 26 (bp b) (bp b)).run Try.prog w = .ok (.bool false) w := by
  rw [run_neq_struct]
  simp [go_sem]

set_option maxHeartbeats 1000000 in
theorem back_big (b : Bp) (S : ByteArray) (w : World) (hS : 3000 < S.size) :
    Calls Try.prog 4 #[bp b, .string S] w fun e w' => e = .returned (.bool true) ∧ Below w.heap.size w w' := by
  have bel := Bx.bel_refl w
  have B0 := Lib.hid (Bx.Blk.new w (bpl b) 26)
  replace bel := Bx.bel_box bel (Obj.cells (bpl b).toArray 26)
  go_enter Try.func4, Try.ntmps4
  go_wp2_with (first | ((with_reducible refine load_at ?_ ?_ (w.heap.size) ?_ b ?_ ?_); (· rfl); (· rfl); (· rfl); (· exact B0.out)))
  refine (awake_any _).mono ?_; rintro e w1 ⟨rfl, hb1⟩
  replace bel := Bx.then_below bel hb1
  replace B0 := Lib.hid (B0.out.keep hb1)
  clear hb1
  go_wp2_with (first | ((with_reducible refine load_at ?_ ?_ (w.heap.size) ?_ b ?_ ?_); (· rfl); (· rfl); (· rfl); (· exact B0.out)))
  go_ret
  exact ⟨rfl, bel⟩

set_option maxRecDepth 100000 in
set_option maxHeartbeats 2000000 in
theorem back_wrong0 (b : Bp) (S : ByteArray) (y : Bp) (w : World) (hS : S.size ≤ 3000) 
    (HB : Hid (∀ w, Calls Try.prog 7 #[bp b] w fun e w' => e = .returned (.tuple #[.string ⟨#[]⟩, .int .i64 1]) ∧ Below w.heap.size w w'))
    (HS : Hid (∀ w, Calls Try.prog 9 #[.string S] w fun e w' => e = .returned (.tuple #[bp y, .int .i64 0]) ∧ Below w.heap.size w w'))
    (HR : Hid (∀ w, Calls Try.prog 15 #[bp y] w fun e w' => e = .returned (.bool true) ∧ Below w.heap.size w w')) :
    Calls Try.prog 4 #[bp b, .string S] w fun e w' => e = .returned (.bool true) ∧ Below w.heap.size w w' := by
  have bel := Bx.bel_refl w
  have B0 := Lib.hid (Bx.Blk.new w (bpl b) 26)
  replace bel := Bx.bel_box bel (Obj.cells (bpl b).toArray 26)
  have c0_0 := B0.out.at 0 rfl
  have c0_12 := B0.out.at 12 rfl
  have c0_13 := B0.out.at 13 rfl
  go_enter Try.func4, Try.ntmps4
  go_wp2_with (first | ((with_reducible refine load_at ?_ ?_ (w.heap.size) ?_ b ?_ ?_); (· rfl); (· rfl); (· rfl); (· exact B0.out)))
  refine (HB.out _).mono ?_; rintro e w1 ⟨rfl, hb1⟩
  replace bel := Bx.then_below bel hb1
  replace B0 := Lib.hid (B0.out.keep hb1)
  clear hb1
  clear c0_0 c0_12 c0_13
  have c0_0 := B0.out.at 0 rfl
  have c0_12 := B0.out.at 12 rfl
  have c0_13 := B0.out.at 13 rfl
  go_wp2_with (first | ((with_reducible refine load_at ?_ ?_ (w.heap.size) ?_ b ?_ ?_); (· rfl); (· rfl); (· rfl); (· exact B0.out)))
  refine (HS.out _).mono ?_; rintro e w2 ⟨rfl, hb2⟩
  replace bel := Bx.then_below bel hb2
  replace B0 := Lib.hid (B0.out.keep hb2)
  clear hb2
  replace B0 := Lib.hid (B0.out.more (Obj.cells (bpl y).toArray 26))
  have B1 := Lib.hid (Bx.Blk.new w2 (bpl y) 26)
  replace bel := Bx.bel_box bel (Obj.cells (bpl y).toArray 26)
  clear c0_0 c0_12 c0_13
  have c0_0 := B0.out.at 0 rfl
  have c0_12 := B0.out.at 12 rfl
  have c0_13 := B0.out.at 13 rfl
  go_wp2_with (first | ((with_reducible refine load_at ?_ ?_ (w.heap.size) ?_ b ?_ ?_); (· rfl); (· rfl); (· rfl); (· exact B0.out)) | ((with_reducible refine load_at ?_ ?_ (w2.heap.size) ?_ y ?_ ?_); (· rfl); (· rfl); (· rfl); (· exact B1.out)) | ((with_reducible refine new_at ?_ ?_ (w2.heap.size) zeroB y ?_ ?_ w2 ?_ ?_ ?_); (· rfl); (· rfl); (· rfl); (· rfl); (· rfl); (· simp)))
  refine (HR.out _).mono ?_; rintro e w3 ⟨rfl, hb3⟩
  replace bel := Bx.then_below bel hb3
  replace B0 := Lib.hid (B0.out.keep hb3)
  replace B1 := Lib.hid (B1.out.keep hb3)
  clear hb3
  go_wp2_with (first | ((with_reducible refine load_at ?_ ?_ (w.heap.size) ?_ b ?_ ?_); (· rfl); (· rfl); (· rfl); (· exact B0.out)) | ((with_reducible refine load_at ?_ ?_ (w2.heap.size) ?_ y ?_ ?_); (· rfl); (· rfl); (· rfl); (· exact B1.out)))
  refine (awake_any _).mono ?_; rintro e w4 ⟨rfl, hb4⟩
  replace bel := Bx.then_below bel hb4
  replace B0 := Lib.hid (B0.out.keep hb4)
  replace B1 := Lib.hid (B1.out.keep hb4)
  clear hb4
  go_wp2_with (first | ((with_reducible refine load_at ?_ ?_ (w.heap.size) ?_ b ?_ ?_); (· rfl); (· rfl); (· rfl); (· exact B0.out)) | ((with_reducible refine load_at ?_ ?_ (w2.heap.size) ?_ y ?_ ?_); (· rfl); (· rfl); (· rfl); (· exact B1.out)))
  go_ret
  exact ⟨rfl, bel⟩

set_option maxRecDepth 100000 in
set_option maxHeartbeats 2000000 in
theorem back_wrongE (b : Bp) (S : ByteArray) (y : Bp) (E : Int) (w : World) (hS : S.size ≤ 3000) (hE : (E != 0) = true) 
    (HB : Hid (∀ w, Calls Try.prog 7 #[bp b] w fun e w' => e = .returned (.tuple #[.string ⟨#[]⟩, .int .i64 1]) ∧ Below w.heap.size w w'))
    (HS : Hid (∀ w, Calls Try.prog 9 #[.string S] w fun e w' => e = .returned (.tuple #[bp y, .int .i64 E]) ∧ Below w.heap.size w w')) :
    Calls Try.prog 4 #[bp b, .string S] w fun e w' => e = .returned (.bool true) ∧ Below w.heap.size w w' := by
  have bel := Bx.bel_refl w
  have B0 := Lib.hid (Bx.Blk.new w (bpl b) 26)
  replace bel := Bx.bel_box bel (Obj.cells (bpl b).toArray 26)
  have c0_0 := B0.out.at 0 rfl
  have c0_12 := B0.out.at 12 rfl
  have c0_13 := B0.out.at 13 rfl
  go_enter Try.func4, Try.ntmps4
  go_wp2_with (first | ((with_reducible refine load_at ?_ ?_ (w.heap.size) ?_ b ?_ ?_); (· rfl); (· rfl); (· rfl); (· exact B0.out)))
  refine (HB.out _).mono ?_; rintro e w1 ⟨rfl, hb1⟩
  replace bel := Bx.then_below bel hb1
  replace B0 := Lib.hid (B0.out.keep hb1)
  clear hb1
  clear c0_0 c0_12 c0_13
  have c0_0 := B0.out.at 0 rfl
  have c0_12 := B0.out.at 12 rfl
  have c0_13 := B0.out.at 13 rfl
  go_wp2_with (first | ((with_reducible refine load_at ?_ ?_ (w.heap.size) ?_ b ?_ ?_); (· rfl); (· rfl); (· rfl); (· exact B0.out)))
  refine (HS.out _).mono ?_; rintro e w2 ⟨rfl, hb2⟩
  replace bel := Bx.then_below bel hb2
  replace B0 := Lib.hid (B0.out.keep hb2)
  clear hb2
  replace B0 := Lib.hid (B0.out.more (Obj.cells (bpl y).toArray 26))
  have B1 := Lib.hid (Bx.Blk.new w2 (bpl y) 26)
  replace bel := Bx.bel_box bel (Obj.cells (bpl y).toArray 26)
  clear c0_0 c0_12 c0_13
  have c0_0 := B0.out.at 0 rfl
  have c0_12 := B0.out.at 12 rfl
  have c0_13 := B0.out.at 13 rfl
  go_wp2_with (first | ((with_reducible refine load_at ?_ ?_ (w.heap.size) ?_ b ?_ ?_); (· rfl); (· rfl); (· rfl); (· exact B0.out)) | ((with_reducible refine load_at ?_ ?_ (w2.heap.size) ?_ y ?_ ?_); (· rfl); (· rfl); (· rfl); (· exact B1.out)) | ((with_reducible refine new_at ?_ ?_ (w2.heap.size) zeroB y ?_ ?_ w2 ?_ ?_ ?_); (· rfl); (· rfl); (· rfl); (· rfl); (· rfl); (· simp)))
  refine (awake_any _).mono ?_; rintro e w3 ⟨rfl, hb3⟩
  replace bel := Bx.then_below bel hb3
  replace B0 := Lib.hid (B0.out.keep hb3)
  replace B1 := Lib.hid (B1.out.keep hb3)
  clear hb3
  go_wp2_with (first | ((with_reducible refine load_at ?_ ?_ (w.heap.size) ?_ b ?_ ?_); (· rfl); (· rfl); (· rfl); (· exact B0.out)) | ((with_reducible refine load_at ?_ ?_ (w2.heap.size) ?_ y ?_ ?_); (· rfl); (· rfl); (· rfl); (· exact B1.out)))
  go_ret
  exact ⟨rfl, bel⟩

set_option maxRecDepth 100000 in
set_option maxHeartbeats 2000000 in
theorem back_old0 (b : Bp) (S : ByteArray) (A X : ByteArray) (t : Int) (y : Bp) (w : World) (hS : S.size ≤ 3000) (e1 : (b.k != 128) = true) (e2 : b.m ≤ b.a) 
    (HB : Hid (∀ w, Calls Try.prog 7 #[bp b] w fun e w' => e = .returned (.tuple #[.string A, .int .i64 0]) ∧ Below w.heap.size w w'))
    (HX : Hid (∀ w, Calls Try.prog 9 #[.string A] w fun e w' => e = .returned (.tuple #[bp zeroB, .int .i64 3]) ∧ Below w.heap.size w w'))
    (HW : Hid (∀ w, Calls Try.prog 11 #[.int .u64 1, bp b] w fun e w' => e = .returned (.tuple #[fr 1652522221568 1 false 0 0 t X, .int .i64 0]) ∧ Below w.heap.size w w'))
    (HO : Hid (∀ w, Calls Try.prog 13 #[fr 1652522221568 1 false 0 0 t X] w fun e w' => e = .returned (.tuple #[bp zeroB, .int .i64 3]) ∧ Below w.heap.size w w'))
    (HS : Hid (∀ w, Calls Try.prog 9 #[.string S] w fun e w' => e = .returned (.tuple #[bp y, .int .i64 0]) ∧ Below w.heap.size w w'))
    (HR : Hid (∀ w, Calls Try.prog 15 #[bp y] w fun e w' => e = .returned (.bool true) ∧ Below w.heap.size w w')) :
    Calls Try.prog 4 #[bp b, .string S] w fun e w' => e = .returned (.bool true) ∧ Below w.heap.size w w' := by
  have bel := Bx.bel_refl w
  have B0 := Lib.hid (Bx.Blk.new w (bpl b) 26)
  replace bel := Bx.bel_box bel (Obj.cells (bpl b).toArray 26)
  have c0_0 := B0.out.at 0 rfl
  have c0_12 := B0.out.at 12 rfl
  have c0_13 := B0.out.at 13 rfl
  go_enter Try.func4, Try.ntmps4
  go_wp2_with (first | ((with_reducible refine load_at ?_ ?_ (w.heap.size) ?_ b ?_ ?_); (· rfl); (· rfl); (· rfl); (· exact B0.out)))
  refine (HB.out _).mono ?_; rintro e w1 ⟨rfl, hb1⟩
  replace bel := Bx.then_below bel hb1
  replace B0 := Lib.hid (B0.out.keep hb1)
  clear hb1
  clear c0_0 c0_12 c0_13
  have c0_0 := B0.out.at 0 rfl
  have c0_12 := B0.out.at 12 rfl
  have c0_13 := B0.out.at 13 rfl
  go_wp2_with (first | ((with_reducible refine load_at ?_ ?_ (w.heap.size) ?_ b ?_ ?_); (· rfl); (· rfl); (· rfl); (· exact B0.out)))
  refine (HX.out _).mono ?_; rintro e w2 ⟨rfl, hb2⟩
  replace bel := Bx.then_below bel hb2
  replace B0 := Lib.hid (B0.out.keep hb2)
  clear hb2
  replace B0 := Lib.hid (B0.out.more (Obj.cells (bpl zeroB).toArray 26))
  have B1 := Lib.hid (Bx.Blk.new w2 (bpl zeroB) 26)
  replace bel := Bx.bel_box bel (Obj.cells (bpl zeroB).toArray 26)
  clear c0_0 c0_12 c0_13
  have c0_0 := B0.out.at 0 rfl
  have c0_12 := B0.out.at 12 rfl
  have c0_13 := B0.out.at 13 rfl
  go_wp2_with (first | ((with_reducible refine load_at ?_ ?_ (w.heap.size) ?_ b ?_ ?_); (· rfl); (· rfl); (· rfl); (· exact B0.out)) | ((with_reducible refine load_at ?_ ?_ (w2.heap.size) ?_ zeroB ?_ ?_); (· rfl); (· rfl); (· rfl); (· exact B1.out)) | ((with_reducible refine new_at ?_ ?_ (w2.heap.size) zeroB zeroB ?_ ?_ w2 ?_ ?_ ?_); (· rfl); (· rfl); (· rfl); (· rfl); (· rfl); (· simp)))
  refine (HW.out _).mono ?_; rintro e w3 ⟨rfl, hb3⟩
  replace bel := Bx.then_below bel hb3
  replace B0 := Lib.hid (B0.out.keep hb3)
  replace B1 := Lib.hid (B1.out.keep hb3)
  clear hb3
  replace B0 := Lib.hid (B0.out.more (Obj.cells #[.int .u64 1652522221568, .int .u64 1, .bool false, .int .i64 0, .int .i64 0, .int .i64 t, .string X] 29))
  replace B1 := Lib.hid (B1.out.more (Obj.cells #[.int .u64 1652522221568, .int .u64 1, .bool false, .int .i64 0, .int .i64 0, .int .i64 t, .string X] 29))
  have B2 := Lib.hid (Bx.Blk.new w3 [.int .u64 1652522221568, .int .u64 1, .bool false, .int .i64 0, .int .i64 0, .int .i64 t, .string X] 29)
  replace bel := Bx.bel_box bel (Obj.cells #[.int .u64 1652522221568, .int .u64 1, .bool false, .int .i64 0, .int .i64 0, .int .i64 t, .string X] 29)
  clear c0_0 c0_12 c0_13
  have c0_0 := B0.out.at 0 rfl
  have c0_12 := B0.out.at 12 rfl
  have c0_13 := B0.out.at 13 rfl
  obtain ⟨c2_0, c2_1, c2_2, c2_3, c2_4, c2_5, c2_6⟩ := B2.out.all7
  go_wp2_with (first | ((with_reducible refine load_at ?_ ?_ (w.heap.size) ?_ b ?_ ?_); (· rfl); (· rfl); (· rfl); (· exact B0.out)) | ((with_reducible refine load_at ?_ ?_ (w2.heap.size) ?_ zeroB ?_ ?_); (· rfl); (· rfl); (· rfl); (· exact B1.out)))
  refine (HO.out _).mono ?_; rintro e w4 ⟨rfl, hb4⟩
  replace bel := Bx.then_below bel hb4
  replace B0 := Lib.hid (B0.out.keep hb4)
  replace B1 := Lib.hid (B1.out.keep hb4)
  replace B2 := Lib.hid (B2.out.keep hb4)
  clear hb4
  replace B0 := Lib.hid (B0.out.more (Obj.cells (bpl zeroB).toArray 26))
  replace B1 := Lib.hid (B1.out.more (Obj.cells (bpl zeroB).toArray 26))
  replace B2 := Lib.hid (B2.out.more (Obj.cells (bpl zeroB).toArray 26))
  have B3 := Lib.hid (Bx.Blk.new w4 (bpl zeroB) 26)
  replace bel := Bx.bel_box bel (Obj.cells (bpl zeroB).toArray 26)
  clear c0_0 c0_12 c0_13 c2_0 c2_1 c2_2 c2_3 c2_4 c2_5 c2_6
  have c0_0 := B0.out.at 0 rfl
  have c0_12 := B0.out.at 12 rfl
  have c0_13 := B0.out.at 13 rfl
  obtain ⟨c2_0, c2_1, c2_2, c2_3, c2_4, c2_5, c2_6⟩ := B2.out.all7
  go_wp2_with (first | ((with_reducible refine load_at ?_ ?_ (w.heap.size) ?_ b ?_ ?_); (· rfl); (· rfl); (· rfl); (· exact B0.out)) | ((with_reducible refine load_at ?_ ?_ (w2.heap.size) ?_ zeroB ?_ ?_); (· rfl); (· rfl); (· rfl); (· exact B1.out)) | ((with_reducible refine load_at ?_ ?_ (w4.heap.size) ?_ zeroB ?_ ?_); (· rfl); (· rfl); (· rfl); (· exact B3.out)) | ((with_reducible refine new_at ?_ ?_ (w4.heap.size) zeroB zeroB ?_ ?_ w4 ?_ ?_ ?_); (· rfl); (· rfl); (· rfl); (· rfl); (· rfl); (· simp)))
  refine (HS.out _).mono ?_; rintro e w5 ⟨rfl, hb5⟩
  replace bel := Bx.then_below bel hb5
  replace B0 := Lib.hid (B0.out.keep hb5)
  replace B1 := Lib.hid (B1.out.keep hb5)
  replace B2 := Lib.hid (B2.out.keep hb5)
  replace B3 := Lib.hid (B3.out.keep hb5)
  clear hb5
  replace B0 := Lib.hid (B0.out.more (Obj.cells (bpl y).toArray 26))
  replace B1 := Lib.hid (B1.out.more (Obj.cells (bpl y).toArray 26))
  replace B2 := Lib.hid (B2.out.more (Obj.cells (bpl y).toArray 26))
  replace B3 := Lib.hid (B3.out.more (Obj.cells (bpl y).toArray 26))
  have B4 := Lib.hid (Bx.Blk.new w5 (bpl y) 26)
  replace bel := Bx.bel_box bel (Obj.cells (bpl y).toArray 26)
  clear c0_0 c0_12 c0_13 c2_0 c2_1 c2_2 c2_3 c2_4 c2_5 c2_6
  have c0_0 := B0.out.at 0 rfl
  have c0_12 := B0.out.at 12 rfl
  have c0_13 := B0.out.at 13 rfl
  obtain ⟨c2_0, c2_1, c2_2, c2_3, c2_4, c2_5, c2_6⟩ := B2.out.all7
  go_wp2_with (first | ((with_reducible refine load_at ?_ ?_ (w.heap.size) ?_ b ?_ ?_); (· rfl); (· rfl); (· rfl); (· exact B0.out)) | ((with_reducible refine load_at ?_ ?_ (w2.heap.size) ?_ zeroB ?_ ?_); (· rfl); (· rfl); (· rfl); (· exact B1.out)) | ((with_reducible refine load_at ?_ ?_ (w4.heap.size) ?_ zeroB ?_ ?_); (· rfl); (· rfl); (· rfl); (· exact B3.out)) | ((with_reducible refine load_at ?_ ?_ (w5.heap.size) ?_ y ?_ ?_); (· rfl); (· rfl); (· rfl); (· exact B4.out)) | ((with_reducible refine new_at ?_ ?_ (w5.heap.size) zeroB y ?_ ?_ w5 ?_ ?_ ?_); (· rfl); (· rfl); (· rfl); (· rfl); (· rfl); (· simp)))
  refine (HR.out _).mono ?_; rintro e w6 ⟨rfl, hb6⟩
  replace bel := Bx.then_below bel hb6
  replace B0 := Lib.hid (B0.out.keep hb6)
  replace B1 := Lib.hid (B1.out.keep hb6)
  replace B2 := Lib.hid (B2.out.keep hb6)
  replace B3 := Lib.hid (B3.out.keep hb6)
  replace B4 := Lib.hid (B4.out.keep hb6)
  clear hb6
  go_wp2_with (first | ((with_reducible refine load_at ?_ ?_ (w.heap.size) ?_ b ?_ ?_); (· rfl); (· rfl); (· rfl); (· exact B0.out)) | ((with_reducible refine load_at ?_ ?_ (w2.heap.size) ?_ zeroB ?_ ?_); (· rfl); (· rfl); (· rfl); (· exact B1.out)) | ((with_reducible refine load_at ?_ ?_ (w4.heap.size) ?_ zeroB ?_ ?_); (· rfl); (· rfl); (· rfl); (· exact B3.out)) | ((with_reducible refine load_at ?_ ?_ (w5.heap.size) ?_ y ?_ ?_); (· rfl); (· rfl); (· rfl); (· exact B4.out)))
  refine (awake_any _).mono ?_; rintro e w7 ⟨rfl, hb7⟩
  replace bel := Bx.then_below bel hb7
  replace B0 := Lib.hid (B0.out.keep hb7)
  replace B1 := Lib.hid (B1.out.keep hb7)
  replace B2 := Lib.hid (B2.out.keep hb7)
  replace B3 := Lib.hid (B3.out.keep hb7)
  replace B4 := Lib.hid (B4.out.keep hb7)
  clear hb7
  go_wp2_with (first | ((with_reducible refine load_at ?_ ?_ (w.heap.size) ?_ b ?_ ?_); (· rfl); (· rfl); (· rfl); (· exact B0.out)) | ((with_reducible refine load_at ?_ ?_ (w2.heap.size) ?_ zeroB ?_ ?_); (· rfl); (· rfl); (· rfl); (· exact B1.out)) | ((with_reducible refine load_at ?_ ?_ (w4.heap.size) ?_ zeroB ?_ ?_); (· rfl); (· rfl); (· rfl); (· exact B3.out)) | ((with_reducible refine load_at ?_ ?_ (w5.heap.size) ?_ y ?_ ?_); (· rfl); (· rfl); (· rfl); (· exact B4.out)))
  go_ret
  exact ⟨rfl, bel⟩

set_option maxRecDepth 100000 in
set_option maxHeartbeats 2000000 in
theorem back_oldE (b : Bp) (S : ByteArray) (A X : ByteArray) (t : Int) (y : Bp) (E : Int) (w : World) (hS : S.size ≤ 3000) (e1 : (b.k != 128) = true) (e2 : b.m ≤ b.a) (hE : (E != 0) = true) 
    (HB : Hid (∀ w, Calls Try.prog 7 #[bp b] w fun e w' => e = .returned (.tuple #[.string A, .int .i64 0]) ∧ Below w.heap.size w w'))
    (HX : Hid (∀ w, Calls Try.prog 9 #[.string A] w fun e w' => e = .returned (.tuple #[bp zeroB, .int .i64 3]) ∧ Below w.heap.size w w'))
    (HW : Hid (∀ w, Calls Try.prog 11 #[.int .u64 1, bp b] w fun e w' => e = .returned (.tuple #[fr 1652522221568 1 false 0 0 t X, .int .i64 0]) ∧ Below w.heap.size w w'))
    (HO : Hid (∀ w, Calls Try.prog 13 #[fr 1652522221568 1 false 0 0 t X] w fun e w' => e = .returned (.tuple #[bp zeroB, .int .i64 3]) ∧ Below w.heap.size w w'))
    (HS : Hid (∀ w, Calls Try.prog 9 #[.string S] w fun e w' => e = .returned (.tuple #[bp y, .int .i64 E]) ∧ Below w.heap.size w w')) :
    Calls Try.prog 4 #[bp b, .string S] w fun e w' => e = .returned (.bool true) ∧ Below w.heap.size w w' := by
  have bel := Bx.bel_refl w
  have B0 := Lib.hid (Bx.Blk.new w (bpl b) 26)
  replace bel := Bx.bel_box bel (Obj.cells (bpl b).toArray 26)
  have c0_0 := B0.out.at 0 rfl
  have c0_12 := B0.out.at 12 rfl
  have c0_13 := B0.out.at 13 rfl
  go_enter Try.func4, Try.ntmps4
  go_wp2_with (first | ((with_reducible refine load_at ?_ ?_ (w.heap.size) ?_ b ?_ ?_); (· rfl); (· rfl); (· rfl); (· exact B0.out)))
  refine (HB.out _).mono ?_; rintro e w1 ⟨rfl, hb1⟩
  replace bel := Bx.then_below bel hb1
  replace B0 := Lib.hid (B0.out.keep hb1)
  clear hb1
  clear c0_0 c0_12 c0_13
  have c0_0 := B0.out.at 0 rfl
  have c0_12 := B0.out.at 12 rfl
  have c0_13 := B0.out.at 13 rfl
  go_wp2_with (first | ((with_reducible refine load_at ?_ ?_ (w.heap.size) ?_ b ?_ ?_); (· rfl); (· rfl); (· rfl); (· exact B0.out)))
  refine (HX.out _).mono ?_; rintro e w2 ⟨rfl, hb2⟩
  replace bel := Bx.then_below bel hb2
  replace B0 := Lib.hid (B0.out.keep hb2)
  clear hb2
  replace B0 := Lib.hid (B0.out.more (Obj.cells (bpl zeroB).toArray 26))
  have B1 := Lib.hid (Bx.Blk.new w2 (bpl zeroB) 26)
  replace bel := Bx.bel_box bel (Obj.cells (bpl zeroB).toArray 26)
  clear c0_0 c0_12 c0_13
  have c0_0 := B0.out.at 0 rfl
  have c0_12 := B0.out.at 12 rfl
  have c0_13 := B0.out.at 13 rfl
  go_wp2_with (first | ((with_reducible refine load_at ?_ ?_ (w.heap.size) ?_ b ?_ ?_); (· rfl); (· rfl); (· rfl); (· exact B0.out)) | ((with_reducible refine load_at ?_ ?_ (w2.heap.size) ?_ zeroB ?_ ?_); (· rfl); (· rfl); (· rfl); (· exact B1.out)) | ((with_reducible refine new_at ?_ ?_ (w2.heap.size) zeroB zeroB ?_ ?_ w2 ?_ ?_ ?_); (· rfl); (· rfl); (· rfl); (· rfl); (· rfl); (· simp)))
  refine (HW.out _).mono ?_; rintro e w3 ⟨rfl, hb3⟩
  replace bel := Bx.then_below bel hb3
  replace B0 := Lib.hid (B0.out.keep hb3)
  replace B1 := Lib.hid (B1.out.keep hb3)
  clear hb3
  replace B0 := Lib.hid (B0.out.more (Obj.cells #[.int .u64 1652522221568, .int .u64 1, .bool false, .int .i64 0, .int .i64 0, .int .i64 t, .string X] 29))
  replace B1 := Lib.hid (B1.out.more (Obj.cells #[.int .u64 1652522221568, .int .u64 1, .bool false, .int .i64 0, .int .i64 0, .int .i64 t, .string X] 29))
  have B2 := Lib.hid (Bx.Blk.new w3 [.int .u64 1652522221568, .int .u64 1, .bool false, .int .i64 0, .int .i64 0, .int .i64 t, .string X] 29)
  replace bel := Bx.bel_box bel (Obj.cells #[.int .u64 1652522221568, .int .u64 1, .bool false, .int .i64 0, .int .i64 0, .int .i64 t, .string X] 29)
  clear c0_0 c0_12 c0_13
  have c0_0 := B0.out.at 0 rfl
  have c0_12 := B0.out.at 12 rfl
  have c0_13 := B0.out.at 13 rfl
  obtain ⟨c2_0, c2_1, c2_2, c2_3, c2_4, c2_5, c2_6⟩ := B2.out.all7
  go_wp2_with (first | ((with_reducible refine load_at ?_ ?_ (w.heap.size) ?_ b ?_ ?_); (· rfl); (· rfl); (· rfl); (· exact B0.out)) | ((with_reducible refine load_at ?_ ?_ (w2.heap.size) ?_ zeroB ?_ ?_); (· rfl); (· rfl); (· rfl); (· exact B1.out)))
  refine (HO.out _).mono ?_; rintro e w4 ⟨rfl, hb4⟩
  replace bel := Bx.then_below bel hb4
  replace B0 := Lib.hid (B0.out.keep hb4)
  replace B1 := Lib.hid (B1.out.keep hb4)
  replace B2 := Lib.hid (B2.out.keep hb4)
  clear hb4
  replace B0 := Lib.hid (B0.out.more (Obj.cells (bpl zeroB).toArray 26))
  replace B1 := Lib.hid (B1.out.more (Obj.cells (bpl zeroB).toArray 26))
  replace B2 := Lib.hid (B2.out.more (Obj.cells (bpl zeroB).toArray 26))
  have B3 := Lib.hid (Bx.Blk.new w4 (bpl zeroB) 26)
  replace bel := Bx.bel_box bel (Obj.cells (bpl zeroB).toArray 26)
  clear c0_0 c0_12 c0_13 c2_0 c2_1 c2_2 c2_3 c2_4 c2_5 c2_6
  have c0_0 := B0.out.at 0 rfl
  have c0_12 := B0.out.at 12 rfl
  have c0_13 := B0.out.at 13 rfl
  obtain ⟨c2_0, c2_1, c2_2, c2_3, c2_4, c2_5, c2_6⟩ := B2.out.all7
  go_wp2_with (first | ((with_reducible refine load_at ?_ ?_ (w.heap.size) ?_ b ?_ ?_); (· rfl); (· rfl); (· rfl); (· exact B0.out)) | ((with_reducible refine load_at ?_ ?_ (w2.heap.size) ?_ zeroB ?_ ?_); (· rfl); (· rfl); (· rfl); (· exact B1.out)) | ((with_reducible refine load_at ?_ ?_ (w4.heap.size) ?_ zeroB ?_ ?_); (· rfl); (· rfl); (· rfl); (· exact B3.out)) | ((with_reducible refine new_at ?_ ?_ (w4.heap.size) zeroB zeroB ?_ ?_ w4 ?_ ?_ ?_); (· rfl); (· rfl); (· rfl); (· rfl); (· rfl); (· simp)))
  refine (HS.out _).mono ?_; rintro e w5 ⟨rfl, hb5⟩
  replace bel := Bx.then_below bel hb5
  replace B0 := Lib.hid (B0.out.keep hb5)
  replace B1 := Lib.hid (B1.out.keep hb5)
  replace B2 := Lib.hid (B2.out.keep hb5)
  replace B3 := Lib.hid (B3.out.keep hb5)
  clear hb5
  replace B0 := Lib.hid (B0.out.more (Obj.cells (bpl y).toArray 26))
  replace B1 := Lib.hid (B1.out.more (Obj.cells (bpl y).toArray 26))
  replace B2 := Lib.hid (B2.out.more (Obj.cells (bpl y).toArray 26))
  replace B3 := Lib.hid (B3.out.more (Obj.cells (bpl y).toArray 26))
  have B4 := Lib.hid (Bx.Blk.new w5 (bpl y) 26)
  replace bel := Bx.bel_box bel (Obj.cells (bpl y).toArray 26)
  clear c0_0 c0_12 c0_13 c2_0 c2_1 c2_2 c2_3 c2_4 c2_5 c2_6
  have c0_0 := B0.out.at 0 rfl
  have c0_12 := B0.out.at 12 rfl
  have c0_13 := B0.out.at 13 rfl
  obtain ⟨c2_0, c2_1, c2_2, c2_3, c2_4, c2_5, c2_6⟩ := B2.out.all7
  go_wp2_with (first | ((with_reducible refine load_at ?_ ?_ (w.heap.size) ?_ b ?_ ?_); (· rfl); (· rfl); (· rfl); (· exact B0.out)) | ((with_reducible refine load_at ?_ ?_ (w2.heap.size) ?_ zeroB ?_ ?_); (· rfl); (· rfl); (· rfl); (· exact B1.out)) | ((with_reducible refine load_at ?_ ?_ (w4.heap.size) ?_ zeroB ?_ ?_); (· rfl); (· rfl); (· rfl); (· exact B3.out)) | ((with_reducible refine load_at ?_ ?_ (w5.heap.size) ?_ y ?_ ?_); (· rfl); (· rfl); (· rfl); (· exact B4.out)) | ((with_reducible refine new_at ?_ ?_ (w5.heap.size) zeroB y ?_ ?_ w5 ?_ ?_ ?_); (· rfl); (· rfl); (· rfl); (· rfl); (· rfl); (· simp)))
  refine (awake_any _).mono ?_; rintro e w6 ⟨rfl, hb6⟩
  replace bel := Bx.then_below bel hb6
  replace B0 := Lib.hid (B0.out.keep hb6)
  replace B1 := Lib.hid (B1.out.keep hb6)
  replace B2 := Lib.hid (B2.out.keep hb6)
  replace B3 := Lib.hid (B3.out.keep hb6)
  replace B4 := Lib.hid (B4.out.keep hb6)
  clear hb6
  go_wp2_with (first | ((with_reducible refine load_at ?_ ?_ (w.heap.size) ?_ b ?_ ?_); (· rfl); (· rfl); (· rfl); (· exact B0.out)) | ((with_reducible refine load_at ?_ ?_ (w2.heap.size) ?_ zeroB ?_ ?_); (· rfl); (· rfl); (· rfl); (· exact B1.out)) | ((with_reducible refine load_at ?_ ?_ (w4.heap.size) ?_ zeroB ?_ ?_); (· rfl); (· rfl); (· rfl); (· exact B3.out)) | ((with_reducible refine load_at ?_ ?_ (w5.heap.size) ?_ y ?_ ?_); (· rfl); (· rfl); (· rfl); (· exact B4.out)))
  go_ret
  exact ⟨rfl, bel⟩

set_option maxRecDepth 100000 in
set_option maxHeartbeats 2000000 in
theorem back_chg0 (b : Bp) (S : ByteArray) (A X : ByteArray) (t : Int) (y : Bp) (w : World) (hS : S.size ≤ 3000) (e1 : (b.k != 128) = false) 
    (HB : Hid (∀ w, Calls Try.prog 7 #[bp b] w fun e w' => e = .returned (.tuple #[.string A, .int .i64 0]) ∧ Below w.heap.size w w'))
    (HX : Hid (∀ w, Calls Try.prog 9 #[.string A] w fun e w' => e = .returned (.tuple #[bp b, .int .i64 0]) ∧ Below w.heap.size w w'))
    (HW : Hid (∀ w, Calls Try.prog 11 #[.int .u64 1, bp b] w fun e w' => e = .returned (.tuple #[fr 1652522221568 1 false 0 0 t X, .int .i64 0]) ∧ Below w.heap.size w w'))
    (HO : Hid (∀ w, Calls Try.prog 13 #[fr 1652522221568 1 false 0 0 t X] w fun e w' => e = .returned (.tuple #[bp b, .int .i64 0]) ∧ Below w.heap.size w w'))
    (HS : Hid (∀ w, Calls Try.prog 9 #[.string S] w fun e w' => e = .returned (.tuple #[bp y, .int .i64 0]) ∧ Below w.heap.size w w'))
    (HR : Hid (∀ w, Calls Try.prog 15 #[bp y] w fun e w' => e = .returned (.bool true) ∧ Below w.heap.size w w')) :
    Calls Try.prog 4 #[bp b, .string S] w fun e w' => e = .returned (.bool true) ∧ Below w.heap.size w w' := by
  have HN := fun w => ne_self b w
  have bel := Bx.bel_refl w
  have B0 := Lib.hid (Bx.Blk.new w (bpl b) 26)
  replace bel := Bx.bel_box bel (Obj.cells (bpl b).toArray 26)
  have c0_0 := B0.out.at 0 rfl
  have c0_12 := B0.out.at 12 rfl
  have c0_13 := B0.out.at 13 rfl
  go_enter Try.func4, Try.ntmps4
  go_wp2_with (first | ((with_reducible refine load_at ?_ ?_ (w.heap.size) ?_ b ?_ ?_); (· rfl); (· rfl); (· rfl); (· exact B0.out)))
  refine (HB.out _).mono ?_; rintro e w1 ⟨rfl, hb1⟩
  replace bel := Bx.then_below bel hb1
  replace B0 := Lib.hid (B0.out.keep hb1)
  clear hb1
  clear c0_0 c0_12 c0_13
  have c0_0 := B0.out.at 0 rfl
  have c0_12 := B0.out.at 12 rfl
  have c0_13 := B0.out.at 13 rfl
  go_wp2_with (first | ((with_reducible refine load_at ?_ ?_ (w.heap.size) ?_ b ?_ ?_); (· rfl); (· rfl); (· rfl); (· exact B0.out)))
  refine (HX.out _).mono ?_; rintro e w2 ⟨rfl, hb2⟩
  replace bel := Bx.then_below bel hb2
  replace B0 := Lib.hid (B0.out.keep hb2)
  clear hb2
  replace B0 := Lib.hid (B0.out.more (Obj.cells (bpl b).toArray 26))
  have B1 := Lib.hid (Bx.Blk.new w2 (bpl b) 26)
  replace bel := Bx.bel_box bel (Obj.cells (bpl b).toArray 26)
  clear c0_0 c0_12 c0_13
  have c0_0 := B0.out.at 0 rfl
  have c0_12 := B0.out.at 12 rfl
  have c0_13 := B0.out.at 13 rfl
  go_wp2_with (first | ((with_reducible refine load_at ?_ ?_ (w.heap.size) ?_ b ?_ ?_); (· rfl); (· rfl); (· rfl); (· exact B0.out)) | ((with_reducible refine load_at ?_ ?_ (w2.heap.size) ?_ b ?_ ?_); (· rfl); (· rfl); (· rfl); (· exact B1.out)) | ((with_reducible refine new_at ?_ ?_ (w2.heap.size) zeroB b ?_ ?_ w2 ?_ ?_ ?_); (· rfl); (· rfl); (· rfl); (· rfl); (· rfl); (· simp)))
  refine (HW.out _).mono ?_; rintro e w3 ⟨rfl, hb3⟩
  replace bel := Bx.then_below bel hb3
  replace B0 := Lib.hid (B0.out.keep hb3)
  replace B1 := Lib.hid (B1.out.keep hb3)
  clear hb3
  replace B0 := Lib.hid (B0.out.more (Obj.cells #[.int .u64 1652522221568, .int .u64 1, .bool false, .int .i64 0, .int .i64 0, .int .i64 t, .string X] 29))
  replace B1 := Lib.hid (B1.out.more (Obj.cells #[.int .u64 1652522221568, .int .u64 1, .bool false, .int .i64 0, .int .i64 0, .int .i64 t, .string X] 29))
  have B2 := Lib.hid (Bx.Blk.new w3 [.int .u64 1652522221568, .int .u64 1, .bool false, .int .i64 0, .int .i64 0, .int .i64 t, .string X] 29)
  replace bel := Bx.bel_box bel (Obj.cells #[.int .u64 1652522221568, .int .u64 1, .bool false, .int .i64 0, .int .i64 0, .int .i64 t, .string X] 29)
  clear c0_0 c0_12 c0_13
  have c0_0 := B0.out.at 0 rfl
  have c0_12 := B0.out.at 12 rfl
  have c0_13 := B0.out.at 13 rfl
  obtain ⟨c2_0, c2_1, c2_2, c2_3, c2_4, c2_5, c2_6⟩ := B2.out.all7
  go_wp2_with (first | ((with_reducible refine load_at ?_ ?_ (w.heap.size) ?_ b ?_ ?_); (· rfl); (· rfl); (· rfl); (· exact B0.out)) | ((with_reducible refine load_at ?_ ?_ (w2.heap.size) ?_ b ?_ ?_); (· rfl); (· rfl); (· rfl); (· exact B1.out)))
  refine (HO.out _).mono ?_; rintro e w4 ⟨rfl, hb4⟩
  replace bel := Bx.then_below bel hb4
  replace B0 := Lib.hid (B0.out.keep hb4)
  replace B1 := Lib.hid (B1.out.keep hb4)
  replace B2 := Lib.hid (B2.out.keep hb4)
  clear hb4
  replace B0 := Lib.hid (B0.out.more (Obj.cells (bpl b).toArray 26))
  replace B1 := Lib.hid (B1.out.more (Obj.cells (bpl b).toArray 26))
  replace B2 := Lib.hid (B2.out.more (Obj.cells (bpl b).toArray 26))
  have B3 := Lib.hid (Bx.Blk.new w4 (bpl b) 26)
  replace bel := Bx.bel_box bel (Obj.cells (bpl b).toArray 26)
  clear c0_0 c0_12 c0_13 c2_0 c2_1 c2_2 c2_3 c2_4 c2_5 c2_6
  have c0_0 := B0.out.at 0 rfl
  have c0_12 := B0.out.at 12 rfl
  have c0_13 := B0.out.at 13 rfl
  obtain ⟨c2_0, c2_1, c2_2, c2_3, c2_4, c2_5, c2_6⟩ := B2.out.all7
  go_wp2_with (first | ((with_reducible refine load_at ?_ ?_ (w.heap.size) ?_ b ?_ ?_); (· rfl); (· rfl); (· rfl); (· exact B0.out)) | ((with_reducible refine load_at ?_ ?_ (w2.heap.size) ?_ b ?_ ?_); (· rfl); (· rfl); (· rfl); (· exact B1.out)) | ((with_reducible refine load_at ?_ ?_ (w4.heap.size) ?_ b ?_ ?_); (· rfl); (· rfl); (· rfl); (· exact B3.out)) | ((with_reducible refine new_at ?_ ?_ (w4.heap.size) zeroB b ?_ ?_ w4 ?_ ?_ ?_); (· rfl); (· rfl); (· rfl); (· rfl); (· rfl); (· simp)))
  refine (HS.out _).mono ?_; rintro e w5 ⟨rfl, hb5⟩
  replace bel := Bx.then_below bel hb5
  replace B0 := Lib.hid (B0.out.keep hb5)
  replace B1 := Lib.hid (B1.out.keep hb5)
  replace B2 := Lib.hid (B2.out.keep hb5)
  replace B3 := Lib.hid (B3.out.keep hb5)
  clear hb5
  replace B0 := Lib.hid (B0.out.more (Obj.cells (bpl y).toArray 26))
  replace B1 := Lib.hid (B1.out.more (Obj.cells (bpl y).toArray 26))
  replace B2 := Lib.hid (B2.out.more (Obj.cells (bpl y).toArray 26))
  replace B3 := Lib.hid (B3.out.more (Obj.cells (bpl y).toArray 26))
  have B4 := Lib.hid (Bx.Blk.new w5 (bpl y) 26)
  replace bel := Bx.bel_box bel (Obj.cells (bpl y).toArray 26)
  clear c0_0 c0_12 c0_13 c2_0 c2_1 c2_2 c2_3 c2_4 c2_5 c2_6
  have c0_0 := B0.out.at 0 rfl
  have c0_12 := B0.out.at 12 rfl
  have c0_13 := B0.out.at 13 rfl
  obtain ⟨c2_0, c2_1, c2_2, c2_3, c2_4, c2_5, c2_6⟩ := B2.out.all7
  go_wp2_with (first | ((with_reducible refine load_at ?_ ?_ (w.heap.size) ?_ b ?_ ?_); (· rfl); (· rfl); (· rfl); (· exact B0.out)) | ((with_reducible refine load_at ?_ ?_ (w2.heap.size) ?_ b ?_ ?_); (· rfl); (· rfl); (· rfl); (· exact B1.out)) | ((with_reducible refine load_at ?_ ?_ (w4.heap.size) ?_ b ?_ ?_); (· rfl); (· rfl); (· rfl); (· exact B3.out)) | ((with_reducible refine load_at ?_ ?_ (w5.heap.size) ?_ y ?_ ?_); (· rfl); (· rfl); (· rfl); (· exact B4.out)) | ((with_reducible refine new_at ?_ ?_ (w5.heap.size) zeroB y ?_ ?_ w5 ?_ ?_ ?_); (· rfl); (· rfl); (· rfl); (· rfl); (· rfl); (· simp)))
  refine (HR.out _).mono ?_; rintro e w6 ⟨rfl, hb6⟩
  replace bel := Bx.then_below bel hb6
  replace B0 := Lib.hid (B0.out.keep hb6)
  replace B1 := Lib.hid (B1.out.keep hb6)
  replace B2 := Lib.hid (B2.out.keep hb6)
  replace B3 := Lib.hid (B3.out.keep hb6)
  replace B4 := Lib.hid (B4.out.keep hb6)
  clear hb6
  go_wp2_with (first | ((with_reducible refine load_at ?_ ?_ (w.heap.size) ?_ b ?_ ?_); (· rfl); (· rfl); (· rfl); (· exact B0.out)) | ((with_reducible refine load_at ?_ ?_ (w2.heap.size) ?_ b ?_ ?_); (· rfl); (· rfl); (· rfl); (· exact B1.out)) | ((with_reducible refine load_at ?_ ?_ (w4.heap.size) ?_ b ?_ ?_); (· rfl); (· rfl); (· rfl); (· exact B3.out)) | ((with_reducible refine load_at ?_ ?_ (w5.heap.size) ?_ y ?_ ?_); (· rfl); (· rfl); (· rfl); (· exact B4.out)))
  refine (awake_any _).mono ?_; rintro e w7 ⟨rfl, hb7⟩
  replace bel := Bx.then_below bel hb7
  replace B0 := Lib.hid (B0.out.keep hb7)
  replace B1 := Lib.hid (B1.out.keep hb7)
  replace B2 := Lib.hid (B2.out.keep hb7)
  replace B3 := Lib.hid (B3.out.keep hb7)
  replace B4 := Lib.hid (B4.out.keep hb7)
  clear hb7
  go_wp2_with (first | ((with_reducible refine load_at ?_ ?_ (w.heap.size) ?_ b ?_ ?_); (· rfl); (· rfl); (· rfl); (· exact B0.out)) | ((with_reducible refine load_at ?_ ?_ (w2.heap.size) ?_ b ?_ ?_); (· rfl); (· rfl); (· rfl); (· exact B1.out)) | ((with_reducible refine load_at ?_ ?_ (w4.heap.size) ?_ b ?_ ?_); (· rfl); (· rfl); (· rfl); (· exact B3.out)) | ((with_reducible refine load_at ?_ ?_ (w5.heap.size) ?_ y ?_ ?_); (· rfl); (· rfl); (· rfl); (· exact B4.out)))
  go_ret
  exact ⟨rfl, bel⟩

set_option maxRecDepth 100000 in
set_option maxHeartbeats 2000000 in
theorem back_chgE (b : Bp) (S : ByteArray) (A X : ByteArray) (t : Int) (y : Bp) (E : Int) (w : World) (hS : S.size ≤ 3000) (e1 : (b.k != 128) = false) (hE : (E != 0) = true) 
    (HB : Hid (∀ w, Calls Try.prog 7 #[bp b] w fun e w' => e = .returned (.tuple #[.string A, .int .i64 0]) ∧ Below w.heap.size w w'))
    (HX : Hid (∀ w, Calls Try.prog 9 #[.string A] w fun e w' => e = .returned (.tuple #[bp b, .int .i64 0]) ∧ Below w.heap.size w w'))
    (HW : Hid (∀ w, Calls Try.prog 11 #[.int .u64 1, bp b] w fun e w' => e = .returned (.tuple #[fr 1652522221568 1 false 0 0 t X, .int .i64 0]) ∧ Below w.heap.size w w'))
    (HO : Hid (∀ w, Calls Try.prog 13 #[fr 1652522221568 1 false 0 0 t X] w fun e w' => e = .returned (.tuple #[bp b, .int .i64 0]) ∧ Below w.heap.size w w'))
    (HS : Hid (∀ w, Calls Try.prog 9 #[.string S] w fun e w' => e = .returned (.tuple #[bp y, .int .i64 E]) ∧ Below w.heap.size w w')) :
    Calls Try.prog 4 #[bp b, .string S] w fun e w' => e = .returned (.bool true) ∧ Below w.heap.size w w' := by
  have HN := fun w => ne_self b w
  have bel := Bx.bel_refl w
  have B0 := Lib.hid (Bx.Blk.new w (bpl b) 26)
  replace bel := Bx.bel_box bel (Obj.cells (bpl b).toArray 26)
  have c0_0 := B0.out.at 0 rfl
  have c0_12 := B0.out.at 12 rfl
  have c0_13 := B0.out.at 13 rfl
  go_enter Try.func4, Try.ntmps4
  go_wp2_with (first | ((with_reducible refine load_at ?_ ?_ (w.heap.size) ?_ b ?_ ?_); (· rfl); (· rfl); (· rfl); (· exact B0.out)))
  refine (HB.out _).mono ?_; rintro e w1 ⟨rfl, hb1⟩
  replace bel := Bx.then_below bel hb1
  replace B0 := Lib.hid (B0.out.keep hb1)
  clear hb1
  clear c0_0 c0_12 c0_13
  have c0_0 := B0.out.at 0 rfl
  have c0_12 := B0.out.at 12 rfl
  have c0_13 := B0.out.at 13 rfl
  go_wp2_with (first | ((with_reducible refine load_at ?_ ?_ (w.heap.size) ?_ b ?_ ?_); (· rfl); (· rfl); (· rfl); (· exact B0.out)))
  refine (HX.out _).mono ?_; rintro e w2 ⟨rfl, hb2⟩
  replace bel := Bx.then_below bel hb2
  replace B0 := Lib.hid (B0.out.keep hb2)
  clear hb2
  replace B0 := Lib.hid (B0.out.more (Obj.cells (bpl b).toArray 26))
  have B1 := Lib.hid (Bx.Blk.new w2 (bpl b) 26)
  replace bel := Bx.bel_box bel (Obj.cells (bpl b).toArray 26)
  clear c0_0 c0_12 c0_13
  have c0_0 := B0.out.at 0 rfl
  have c0_12 := B0.out.at 12 rfl
  have c0_13 := B0.out.at 13 rfl
  go_wp2_with (first | ((with_reducible refine load_at ?_ ?_ (w.heap.size) ?_ b ?_ ?_); (· rfl); (· rfl); (· rfl); (· exact B0.out)) | ((with_reducible refine load_at ?_ ?_ (w2.heap.size) ?_ b ?_ ?_); (· rfl); (· rfl); (· rfl); (· exact B1.out)) | ((with_reducible refine new_at ?_ ?_ (w2.heap.size) zeroB b ?_ ?_ w2 ?_ ?_ ?_); (· rfl); (· rfl); (· rfl); (· rfl); (· rfl); (· simp)))
  refine (HW.out _).mono ?_; rintro e w3 ⟨rfl, hb3⟩
  replace bel := Bx.then_below bel hb3
  replace B0 := Lib.hid (B0.out.keep hb3)
  replace B1 := Lib.hid (B1.out.keep hb3)
  clear hb3
  replace B0 := Lib.hid (B0.out.more (Obj.cells #[.int .u64 1652522221568, .int .u64 1, .bool false, .int .i64 0, .int .i64 0, .int .i64 t, .string X] 29))
  replace B1 := Lib.hid (B1.out.more (Obj.cells #[.int .u64 1652522221568, .int .u64 1, .bool false, .int .i64 0, .int .i64 0, .int .i64 t, .string X] 29))
  have B2 := Lib.hid (Bx.Blk.new w3 [.int .u64 1652522221568, .int .u64 1, .bool false, .int .i64 0, .int .i64 0, .int .i64 t, .string X] 29)
  replace bel := Bx.bel_box bel (Obj.cells #[.int .u64 1652522221568, .int .u64 1, .bool false, .int .i64 0, .int .i64 0, .int .i64 t, .string X] 29)
  clear c0_0 c0_12 c0_13
  have c0_0 := B0.out.at 0 rfl
  have c0_12 := B0.out.at 12 rfl
  have c0_13 := B0.out.at 13 rfl
  obtain ⟨c2_0, c2_1, c2_2, c2_3, c2_4, c2_5, c2_6⟩ := B2.out.all7
  go_wp2_with (first | ((with_reducible refine load_at ?_ ?_ (w.heap.size) ?_ b ?_ ?_); (· rfl); (· rfl); (· rfl); (· exact B0.out)) | ((with_reducible refine load_at ?_ ?_ (w2.heap.size) ?_ b ?_ ?_); (· rfl); (· rfl); (· rfl); (· exact B1.out)))
  refine (HO.out _).mono ?_; rintro e w4 ⟨rfl, hb4⟩
  replace bel := Bx.then_below bel hb4
  replace B0 := Lib.hid (B0.out.keep hb4)
  replace B1 := Lib.hid (B1.out.keep hb4)
  replace B2 := Lib.hid (B2.out.keep hb4)
  clear hb4
  replace B0 := Lib.hid (B0.out.more (Obj.cells (bpl b).toArray 26))
  replace B1 := Lib.hid (B1.out.more (Obj.cells (bpl b).toArray 26))
  replace B2 := Lib.hid (B2.out.more (Obj.cells (bpl b).toArray 26))
  have B3 := Lib.hid (Bx.Blk.new w4 (bpl b) 26)
  replace bel := Bx.bel_box bel (Obj.cells (bpl b).toArray 26)
  clear c0_0 c0_12 c0_13 c2_0 c2_1 c2_2 c2_3 c2_4 c2_5 c2_6
  have c0_0 := B0.out.at 0 rfl
  have c0_12 := B0.out.at 12 rfl
  have c0_13 := B0.out.at 13 rfl
  obtain ⟨c2_0, c2_1, c2_2, c2_3, c2_4, c2_5, c2_6⟩ := B2.out.all7
  go_wp2_with (first | ((with_reducible refine load_at ?_ ?_ (w.heap.size) ?_ b ?_ ?_); (· rfl); (· rfl); (· rfl); (· exact B0.out)) | ((with_reducible refine load_at ?_ ?_ (w2.heap.size) ?_ b ?_ ?_); (· rfl); (· rfl); (· rfl); (· exact B1.out)) | ((with_reducible refine load_at ?_ ?_ (w4.heap.size) ?_ b ?_ ?_); (· rfl); (· rfl); (· rfl); (· exact B3.out)) | ((with_reducible refine new_at ?_ ?_ (w4.heap.size) zeroB b ?_ ?_ w4 ?_ ?_ ?_); (· rfl); (· rfl); (· rfl); (· rfl); (· rfl); (· simp)))
  refine (HS.out _).mono ?_; rintro e w5 ⟨rfl, hb5⟩
  replace bel := Bx.then_below bel hb5
  replace B0 := Lib.hid (B0.out.keep hb5)
  replace B1 := Lib.hid (B1.out.keep hb5)
  replace B2 := Lib.hid (B2.out.keep hb5)
  replace B3 := Lib.hid (B3.out.keep hb5)
  clear hb5
  replace B0 := Lib.hid (B0.out.more (Obj.cells (bpl y).toArray 26))
  replace B1 := Lib.hid (B1.out.more (Obj.cells (bpl y).toArray 26))
  replace B2 := Lib.hid (B2.out.more (Obj.cells (bpl y).toArray 26))
  replace B3 := Lib.hid (B3.out.more (Obj.cells (bpl y).toArray 26))
  have B4 := Lib.hid (Bx.Blk.new w5 (bpl y) 26)
  replace bel := Bx.bel_box bel (Obj.cells (bpl y).toArray 26)
  clear c0_0 c0_12 c0_13 c2_0 c2_1 c2_2 c2_3 c2_4 c2_5 c2_6
  have c0_0 := B0.out.at 0 rfl
  have c0_12 := B0.out.at 12 rfl
  have c0_13 := B0.out.at 13 rfl
  obtain ⟨c2_0, c2_1, c2_2, c2_3, c2_4, c2_5, c2_6⟩ := B2.out.all7
  go_wp2_with (first | ((with_reducible refine load_at ?_ ?_ (w.heap.size) ?_ b ?_ ?_); (· rfl); (· rfl); (· rfl); (· exact B0.out)) | ((with_reducible refine load_at ?_ ?_ (w2.heap.size) ?_ b ?_ ?_); (· rfl); (· rfl); (· rfl); (· exact B1.out)) | ((with_reducible refine load_at ?_ ?_ (w4.heap.size) ?_ b ?_ ?_); (· rfl); (· rfl); (· rfl); (· exact B3.out)) | ((with_reducible refine load_at ?_ ?_ (w5.heap.size) ?_ y ?_ ?_); (· rfl); (· rfl); (· rfl); (· exact B4.out)) | ((with_reducible refine new_at ?_ ?_ (w5.heap.size) zeroB y ?_ ?_ w5 ?_ ?_ ?_); (· rfl); (· rfl); (· rfl); (· rfl); (· rfl); (· simp)))
  refine (awake_any _).mono ?_; rintro e w6 ⟨rfl, hb6⟩
  replace bel := Bx.then_below bel hb6
  replace B0 := Lib.hid (B0.out.keep hb6)
  replace B1 := Lib.hid (B1.out.keep hb6)
  replace B2 := Lib.hid (B2.out.keep hb6)
  replace B3 := Lib.hid (B3.out.keep hb6)
  replace B4 := Lib.hid (B4.out.keep hb6)
  clear hb6
  go_wp2_with (first | ((with_reducible refine load_at ?_ ?_ (w.heap.size) ?_ b ?_ ?_); (· rfl); (· rfl); (· rfl); (· exact B0.out)) | ((with_reducible refine load_at ?_ ?_ (w2.heap.size) ?_ b ?_ ?_); (· rfl); (· rfl); (· rfl); (· exact B1.out)) | ((with_reducible refine load_at ?_ ?_ (w4.heap.size) ?_ b ?_ ?_); (· rfl); (· rfl); (· rfl); (· exact B3.out)) | ((with_reducible refine load_at ?_ ?_ (w5.heap.size) ?_ y ?_ ?_); (· rfl); (· rfl); (· rfl); (· exact B4.out)))
  go_ret
  exact ⟨rfl, bel⟩

set_option maxRecDepth 100000 in
set_option maxHeartbeats 2000000 in
theorem back_new0 (b : Bp) (S : ByteArray) (A X : ByteArray) (t : Int) (y : Bp) (w : World) (hS : S.size ≤ 3000) (e1 : (b.k != 128) = true) (e2 : b.a < b.m) 
    (HB : Hid (∀ w, Calls Try.prog 7 #[bp b] w fun e w' => e = .returned (.tuple #[.string A, .int .i64 0]) ∧ Below w.heap.size w w'))
    (HX : Hid (∀ w, Calls Try.prog 9 #[.string A] w fun e w' => e = .returned (.tuple #[bp b, .int .i64 0]) ∧ Below w.heap.size w w'))
    (HW : Hid (∀ w, Calls Try.prog 11 #[.int .u64 1, bp b] w fun e w' => e = .returned (.tuple #[fr 1652522221568 1 false 0 0 t X, .int .i64 0]) ∧ Below w.heap.size w w'))
    (HO : Hid (∀ w, Calls Try.prog 13 #[fr 1652522221568 1 false 0 0 t X] w fun e w' => e = .returned (.tuple #[bp b, .int .i64 0]) ∧ Below w.heap.size w w'))
    (HS : Hid (∀ w, Calls Try.prog 9 #[.string S] w fun e w' => e = .returned (.tuple #[bp y, .int .i64 0]) ∧ Below w.heap.size w w'))
    (HR : Hid (∀ w, Calls Try.prog 15 #[bp y] w fun e w' => e = .returned (.bool true) ∧ Below w.heap.size w w')) :
    Calls Try.prog 4 #[bp b, .string S] w fun e w' => e = .returned (.bool true) ∧ Below w.heap.size w w' := by
  have HN := fun w => ne_self b w
  have bel := Bx.bel_refl w
  have B0 := Lib.hid (Bx.Blk.new w (bpl b) 26)
  replace bel := Bx.bel_box bel (Obj.cells (bpl b).toArray 26)
  have c0_0 := B0.out.at 0 rfl
  have c0_12 := B0.out.at 12 rfl
  have c0_13 := B0.out.at 13 rfl
  go_enter Try.func4, Try.ntmps4
  go_wp2_with (first | ((with_reducible refine load_at ?_ ?_ (w.heap.size) ?_ b ?_ ?_); (· rfl); (· rfl); (· rfl); (· exact B0.out)))
  refine (HB.out _).mono ?_; rintro e w1 ⟨rfl, hb1⟩
  replace bel := Bx.then_below bel hb1
  replace B0 := Lib.hid (B0.out.keep hb1)
  clear hb1
  clear c0_0 c0_12 c0_13
  have c0_0 := B0.out.at 0 rfl
  have c0_12 := B0.out.at 12 rfl
  have c0_13 := B0.out.at 13 rfl
  go_wp2_with (first | ((with_reducible refine load_at ?_ ?_ (w.heap.size) ?_ b ?_ ?_); (· rfl); (· rfl); (· rfl); (· exact B0.out)))
  refine (HX.out _).mono ?_; rintro e w2 ⟨rfl, hb2⟩
  replace bel := Bx.then_below bel hb2
  replace B0 := Lib.hid (B0.out.keep hb2)
  clear hb2
  replace B0 := Lib.hid (B0.out.more (Obj.cells (bpl b).toArray 26))
  have B1 := Lib.hid (Bx.Blk.new w2 (bpl b) 26)
  replace bel := Bx.bel_box bel (Obj.cells (bpl b).toArray 26)
  clear c0_0 c0_12 c0_13
  have c0_0 := B0.out.at 0 rfl
  have c0_12 := B0.out.at 12 rfl
  have c0_13 := B0.out.at 13 rfl
  go_wp2_with (first | ((with_reducible refine load_at ?_ ?_ (w.heap.size) ?_ b ?_ ?_); (· rfl); (· rfl); (· rfl); (· exact B0.out)) | ((with_reducible refine load_at ?_ ?_ (w2.heap.size) ?_ b ?_ ?_); (· rfl); (· rfl); (· rfl); (· exact B1.out)) | ((with_reducible refine new_at ?_ ?_ (w2.heap.size) zeroB b ?_ ?_ w2 ?_ ?_ ?_); (· rfl); (· rfl); (· rfl); (· rfl); (· rfl); (· simp)))
  refine (HW.out _).mono ?_; rintro e w3 ⟨rfl, hb3⟩
  replace bel := Bx.then_below bel hb3
  replace B0 := Lib.hid (B0.out.keep hb3)
  replace B1 := Lib.hid (B1.out.keep hb3)
  clear hb3
  replace B0 := Lib.hid (B0.out.more (Obj.cells #[.int .u64 1652522221568, .int .u64 1, .bool false, .int .i64 0, .int .i64 0, .int .i64 t, .string X] 29))
  replace B1 := Lib.hid (B1.out.more (Obj.cells #[.int .u64 1652522221568, .int .u64 1, .bool false, .int .i64 0, .int .i64 0, .int .i64 t, .string X] 29))
  have B2 := Lib.hid (Bx.Blk.new w3 [.int .u64 1652522221568, .int .u64 1, .bool false, .int .i64 0, .int .i64 0, .int .i64 t, .string X] 29)
  replace bel := Bx.bel_box bel (Obj.cells #[.int .u64 1652522221568, .int .u64 1, .bool false, .int .i64 0, .int .i64 0, .int .i64 t, .string X] 29)
  clear c0_0 c0_12 c0_13
  have c0_0 := B0.out.at 0 rfl
  have c0_12 := B0.out.at 12 rfl
  have c0_13 := B0.out.at 13 rfl
  obtain ⟨c2_0, c2_1, c2_2, c2_3, c2_4, c2_5, c2_6⟩ := B2.out.all7
  go_wp2_with (first | ((with_reducible refine load_at ?_ ?_ (w.heap.size) ?_ b ?_ ?_); (· rfl); (· rfl); (· rfl); (· exact B0.out)) | ((with_reducible refine load_at ?_ ?_ (w2.heap.size) ?_ b ?_ ?_); (· rfl); (· rfl); (· rfl); (· exact B1.out)))
  refine (HO.out _).mono ?_; rintro e w4 ⟨rfl, hb4⟩
  replace bel := Bx.then_below bel hb4
  replace B0 := Lib.hid (B0.out.keep hb4)
  replace B1 := Lib.hid (B1.out.keep hb4)
  replace B2 := Lib.hid (B2.out.keep hb4)
  clear hb4
  replace B0 := Lib.hid (B0.out.more (Obj.cells (bpl b).toArray 26))
  replace B1 := Lib.hid (B1.out.more (Obj.cells (bpl b).toArray 26))
  replace B2 := Lib.hid (B2.out.more (Obj.cells (bpl b).toArray 26))
  have B3 := Lib.hid (Bx.Blk.new w4 (bpl b) 26)
  replace bel := Bx.bel_box bel (Obj.cells (bpl b).toArray 26)
  clear c0_0 c0_12 c0_13 c2_0 c2_1 c2_2 c2_3 c2_4 c2_5 c2_6
  have c0_0 := B0.out.at 0 rfl
  have c0_12 := B0.out.at 12 rfl
  have c0_13 := B0.out.at 13 rfl
  obtain ⟨c2_0, c2_1, c2_2, c2_3, c2_4, c2_5, c2_6⟩ := B2.out.all7
  go_wp2_with (first | ((with_reducible refine load_at ?_ ?_ (w.heap.size) ?_ b ?_ ?_); (· rfl); (· rfl); (· rfl); (· exact B0.out)) | ((with_reducible refine load_at ?_ ?_ (w2.heap.size) ?_ b ?_ ?_); (· rfl); (· rfl); (· rfl); (· exact B1.out)) | ((with_reducible refine load_at ?_ ?_ (w4.heap.size) ?_ b ?_ ?_); (· rfl); (· rfl); (· rfl); (· exact B3.out)) | ((with_reducible refine new_at ?_ ?_ (w4.heap.size) zeroB b ?_ ?_ w4 ?_ ?_ ?_); (· rfl); (· rfl); (· rfl); (· rfl); (· rfl); (· simp)))
  refine (HS.out _).mono ?_; rintro e w5 ⟨rfl, hb5⟩
  replace bel := Bx.then_below bel hb5
  replace B0 := Lib.hid (B0.out.keep hb5)
  replace B1 := Lib.hid (B1.out.keep hb5)
  replace B2 := Lib.hid (B2.out.keep hb5)
  replace B3 := Lib.hid (B3.out.keep hb5)
  clear hb5
  replace B0 := Lib.hid (B0.out.more (Obj.cells (bpl y).toArray 26))
  replace B1 := Lib.hid (B1.out.more (Obj.cells (bpl y).toArray 26))
  replace B2 := Lib.hid (B2.out.more (Obj.cells (bpl y).toArray 26))
  replace B3 := Lib.hid (B3.out.more (Obj.cells (bpl y).toArray 26))
  have B4 := Lib.hid (Bx.Blk.new w5 (bpl y) 26)
  replace bel := Bx.bel_box bel (Obj.cells (bpl y).toArray 26)
  clear c0_0 c0_12 c0_13 c2_0 c2_1 c2_2 c2_3 c2_4 c2_5 c2_6
  have c0_0 := B0.out.at 0 rfl
  have c0_12 := B0.out.at 12 rfl
  have c0_13 := B0.out.at 13 rfl
  obtain ⟨c2_0, c2_1, c2_2, c2_3, c2_4, c2_5, c2_6⟩ := B2.out.all7
  go_wp2_with (first | ((with_reducible refine load_at ?_ ?_ (w.heap.size) ?_ b ?_ ?_); (· rfl); (· rfl); (· rfl); (· exact B0.out)) | ((with_reducible refine load_at ?_ ?_ (w2.heap.size) ?_ b ?_ ?_); (· rfl); (· rfl); (· rfl); (· exact B1.out)) | ((with_reducible refine load_at ?_ ?_ (w4.heap.size) ?_ b ?_ ?_); (· rfl); (· rfl); (· rfl); (· exact B3.out)) | ((with_reducible refine load_at ?_ ?_ (w5.heap.size) ?_ y ?_ ?_); (· rfl); (· rfl); (· rfl); (· exact B4.out)) | ((with_reducible refine new_at ?_ ?_ (w5.heap.size) zeroB y ?_ ?_ w5 ?_ ?_ ?_); (· rfl); (· rfl); (· rfl); (· rfl); (· rfl); (· simp)))
  refine (HR.out _).mono ?_; rintro e w6 ⟨rfl, hb6⟩
  replace bel := Bx.then_below bel hb6
  replace B0 := Lib.hid (B0.out.keep hb6)
  replace B1 := Lib.hid (B1.out.keep hb6)
  replace B2 := Lib.hid (B2.out.keep hb6)
  replace B3 := Lib.hid (B3.out.keep hb6)
  replace B4 := Lib.hid (B4.out.keep hb6)
  clear hb6
  go_wp2_with (first | ((with_reducible refine load_at ?_ ?_ (w.heap.size) ?_ b ?_ ?_); (· rfl); (· rfl); (· rfl); (· exact B0.out)) | ((with_reducible refine load_at ?_ ?_ (w2.heap.size) ?_ b ?_ ?_); (· rfl); (· rfl); (· rfl); (· exact B1.out)) | ((with_reducible refine load_at ?_ ?_ (w4.heap.size) ?_ b ?_ ?_); (· rfl); (· rfl); (· rfl); (· exact B3.out)) | ((with_reducible refine load_at ?_ ?_ (w5.heap.size) ?_ y ?_ ?_); (· rfl); (· rfl); (· rfl); (· exact B4.out)))
  refine (awake_any _).mono ?_; rintro e w7 ⟨rfl, hb7⟩
  replace bel := Bx.then_below bel hb7
  replace B0 := Lib.hid (B0.out.keep hb7)
  replace B1 := Lib.hid (B1.out.keep hb7)
  replace B2 := Lib.hid (B2.out.keep hb7)
  replace B3 := Lib.hid (B3.out.keep hb7)
  replace B4 := Lib.hid (B4.out.keep hb7)
  clear hb7
  go_wp2_with (first | ((with_reducible refine load_at ?_ ?_ (w.heap.size) ?_ b ?_ ?_); (· rfl); (· rfl); (· rfl); (· exact B0.out)) | ((with_reducible refine load_at ?_ ?_ (w2.heap.size) ?_ b ?_ ?_); (· rfl); (· rfl); (· rfl); (· exact B1.out)) | ((with_reducible refine load_at ?_ ?_ (w4.heap.size) ?_ b ?_ ?_); (· rfl); (· rfl); (· rfl); (· exact B3.out)) | ((with_reducible refine load_at ?_ ?_ (w5.heap.size) ?_ y ?_ ?_); (· rfl); (· rfl); (· rfl); (· exact B4.out)))
  go_ret
  exact ⟨rfl, bel⟩

set_option maxRecDepth 100000 in
set_option maxHeartbeats 2000000 in
theorem back_newE (b : Bp) (S : ByteArray) (A X : ByteArray) (t : Int) (y : Bp) (E : Int) (w : World) (hS : S.size ≤ 3000) (e1 : (b.k != 128) = true) (e2 : b.a < b.m) (hE : (E != 0) = true) 
    (HB : Hid (∀ w, Calls Try.prog 7 #[bp b] w fun e w' => e = .returned (.tuple #[.string A, .int .i64 0]) ∧ Below w.heap.size w w'))
    (HX : Hid (∀ w, Calls Try.prog 9 #[.string A] w fun e w' => e = .returned (.tuple #[bp b, .int .i64 0]) ∧ Below w.heap.size w w'))
    (HW : Hid (∀ w, Calls Try.prog 11 #[.int .u64 1, bp b] w fun e w' => e = .returned (.tuple #[fr 1652522221568 1 false 0 0 t X, .int .i64 0]) ∧ Below w.heap.size w w'))
    (HO : Hid (∀ w, Calls Try.prog 13 #[fr 1652522221568 1 false 0 0 t X] w fun e w' => e = .returned (.tuple #[bp b, .int .i64 0]) ∧ Below w.heap.size w w'))
    (HS : Hid (∀ w, Calls Try.prog 9 #[.string S] w fun e w' => e = .returned (.tuple #[bp y, .int .i64 E]) ∧ Below w.heap.size w w')) :
    Calls Try.prog 4 #[bp b, .string S] w fun e w' => e = .returned (.bool true) ∧ Below w.heap.size w w' := by
  have HN := fun w => ne_self b w
  have bel := Bx.bel_refl w
  have B0 := Lib.hid (Bx.Blk.new w (bpl b) 26)
  replace bel := Bx.bel_box bel (Obj.cells (bpl b).toArray 26)
  have c0_0 := B0.out.at 0 rfl
  have c0_12 := B0.out.at 12 rfl
  have c0_13 := B0.out.at 13 rfl
  go_enter Try.func4, Try.ntmps4
  go_wp2_with (first | ((with_reducible refine load_at ?_ ?_ (w.heap.size) ?_ b ?_ ?_); (· rfl); (· rfl); (· rfl); (· exact B0.out)))
  refine (HB.out _).mono ?_; rintro e w1 ⟨rfl, hb1⟩
  replace bel := Bx.then_below bel hb1
  replace B0 := Lib.hid (B0.out.keep hb1)
  clear hb1
  clear c0_0 c0_12 c0_13
  have c0_0 := B0.out.at 0 rfl
  have c0_12 := B0.out.at 12 rfl
  have c0_13 := B0.out.at 13 rfl
  go_wp2_with (first | ((with_reducible refine load_at ?_ ?_ (w.heap.size) ?_ b ?_ ?_); (· rfl); (· rfl); (· rfl); (· exact B0.out)))
  refine (HX.out _).mono ?_; rintro e w2 ⟨rfl, hb2⟩
  replace bel := Bx.then_below bel hb2
  replace B0 := Lib.hid (B0.out.keep hb2)
  clear hb2
  replace B0 := Lib.hid (B0.out.more (Obj.cells (bpl b).toArray 26))
  have B1 := Lib.hid (Bx.Blk.new w2 (bpl b) 26)
  replace bel := Bx.bel_box bel (Obj.cells (bpl b).toArray 26)
  clear c0_0 c0_12 c0_13
  have c0_0 := B0.out.at 0 rfl
  have c0_12 := B0.out.at 12 rfl
  have c0_13 := B0.out.at 13 rfl
  go_wp2_with (first | ((with_reducible refine load_at ?_ ?_ (w.heap.size) ?_ b ?_ ?_); (· rfl); (· rfl); (· rfl); (· exact B0.out)) | ((with_reducible refine load_at ?_ ?_ (w2.heap.size) ?_ b ?_ ?_); (· rfl); (· rfl); (· rfl); (· exact B1.out)) | ((with_reducible refine new_at ?_ ?_ (w2.heap.size) zeroB b ?_ ?_ w2 ?_ ?_ ?_); (· rfl); (· rfl); (· rfl); (· rfl); (· rfl); (· simp)))
  refine (HW.out _).mono ?_; rintro e w3 ⟨rfl, hb3⟩
  replace bel := Bx.then_below bel hb3
  replace B0 := Lib.hid (B0.out.keep hb3)
  replace B1 := Lib.hid (B1.out.keep hb3)
  clear hb3
  replace B0 := Lib.hid (B0.out.more (Obj.cells #[.int .u64 1652522221568, .int .u64 1, .bool false, .int .i64 0, .int .i64 0, .int .i64 t, .string X] 29))
  replace B1 := Lib.hid (B1.out.more (Obj.cells #[.int .u64 1652522221568, .int .u64 1, .bool false, .int .i64 0, .int .i64 0, .int .i64 t, .string X] 29))
  have B2 := Lib.hid (Bx.Blk.new w3 [.int .u64 1652522221568, .int .u64 1, .bool false, .int .i64 0, .int .i64 0, .int .i64 t, .string X] 29)
  replace bel := Bx.bel_box bel (Obj.cells #[.int .u64 1652522221568, .int .u64 1, .bool false, .int .i64 0, .int .i64 0, .int .i64 t, .string X] 29)
  clear c0_0 c0_12 c0_13
  have c0_0 := B0.out.at 0 rfl
  have c0_12 := B0.out.at 12 rfl
  have c0_13 := B0.out.at 13 rfl
  obtain ⟨c2_0, c2_1, c2_2, c2_3, c2_4, c2_5, c2_6⟩ := B2.out.all7
  go_wp2_with (first | ((with_reducible refine load_at ?_ ?_ (w.heap.size) ?_ b ?_ ?_); (· rfl); (· rfl); (· rfl); (· exact B0.out)) | ((with_reducible refine load_at ?_ ?_ (w2.heap.size) ?_ b ?_ ?_); (· rfl); (· rfl); (· rfl); (· exact B1.out)))
  refine (HO.out _).mono ?_; rintro e w4 ⟨rfl, hb4⟩
  replace bel := Bx.then_below bel hb4
  replace B0 := Lib.hid (B0.out.keep hb4)
  replace B1 := Lib.hid (B1.out.keep hb4)
  replace B2 := Lib.hid (B2.out.keep hb4)
  clear hb4
  replace B0 := Lib.hid (B0.out.more (Obj.cells (bpl b).toArray 26))
  replace B1 := Lib.hid (B1.out.more (Obj.cells (bpl b).toArray 26))
  replace B2 := Lib.hid (B2.out.more (Obj.cells (bpl b).toArray 26))
  have B3 := Lib.hid (Bx.Blk.new w4 (bpl b) 26)
  replace bel := Bx.bel_box bel (Obj.cells (bpl b).toArray 26)
  clear c0_0 c0_12 c0_13 c2_0 c2_1 c2_2 c2_3 c2_4 c2_5 c2_6
  have c0_0 := B0.out.at 0 rfl
  have c0_12 := B0.out.at 12 rfl
  have c0_13 := B0.out.at 13 rfl
  obtain ⟨c2_0, c2_1, c2_2, c2_3, c2_4, c2_5, c2_6⟩ := B2.out.all7
  go_wp2_with (first | ((with_reducible refine load_at ?_ ?_ (w.heap.size) ?_ b ?_ ?_); (· rfl); (· rfl); (· rfl); (· exact B0.out)) | ((with_reducible refine load_at ?_ ?_ (w2.heap.size) ?_ b ?_ ?_); (· rfl); (· rfl); (· rfl); (· exact B1.out)) | ((with_reducible refine load_at ?_ ?_ (w4.heap.size) ?_ b ?_ ?_); (· rfl); (· rfl); (· rfl); (· exact B3.out)) | ((with_reducible refine new_at ?_ ?_ (w4.heap.size) zeroB b ?_ ?_ w4 ?_ ?_ ?_); (· rfl); (· rfl); (· rfl); (· rfl); (· rfl); (· simp)))
  refine (HS.out _).mono ?_; rintro e w5 ⟨rfl, hb5⟩
  replace bel := Bx.then_below bel hb5
  replace B0 := Lib.hid (B0.out.keep hb5)
  replace B1 := Lib.hid (B1.out.keep hb5)
  replace B2 := Lib.hid (B2.out.keep hb5)
  replace B3 := Lib.hid (B3.out.keep hb5)
  clear hb5
  replace B0 := Lib.hid (B0.out.more (Obj.cells (bpl y).toArray 26))
  replace B1 := Lib.hid (B1.out.more (Obj.cells (bpl y).toArray 26))
  replace B2 := Lib.hid (B2.out.more (Obj.cells (bpl y).toArray 26))
  replace B3 := Lib.hid (B3.out.more (Obj.cells (bpl y).toArray 26))
  have B4 := Lib.hid (Bx.Blk.new w5 (bpl y) 26)
  replace bel := Bx.bel_box bel (Obj.cells (bpl y).toArray 26)
  clear c0_0 c0_12 c0_13 c2_0 c2_1 c2_2 c2_3 c2_4 c2_5 c2_6
  have c0_0 := B0.out.at 0 rfl
  have c0_12 := B0.out.at 12 rfl
  have c0_13 := B0.out.at 13 rfl
  obtain ⟨c2_0, c2_1, c2_2, c2_3, c2_4, c2_5, c2_6⟩ := B2.out.all7
  go_wp2_with (first | ((with_reducible refine load_at ?_ ?_ (w.heap.size) ?_ b ?_ ?_); (· rfl); (· rfl); (· rfl); (· exact B0.out)) | ((with_reducible refine load_at ?_ ?_ (w2.heap.size) ?_ b ?_ ?_); (· rfl); (· rfl); (· rfl); (· exact B1.out)) | ((with_reducible refine load_at ?_ ?_ (w4.heap.size) ?_ b ?_ ?_); (· rfl); (· rfl); (· rfl); (· exact B3.out)) | ((with_reducible refine load_at ?_ ?_ (w5.heap.size) ?_ y ?_ ?_); (· rfl); (· rfl); (· rfl); (· exact B4.out)) | ((with_reducible refine new_at ?_ ?_ (w5.heap.size) zeroB y ?_ ?_ w5 ?_ ?_ ?_); (· rfl); (· rfl); (· rfl); (· rfl); (· rfl); (· simp)))
  refine (awake_any _).mono ?_; rintro e w6 ⟨rfl, hb6⟩
  replace bel := Bx.then_below bel hb6
  replace B0 := Lib.hid (B0.out.keep hb6)
  replace B1 := Lib.hid (B1.out.keep hb6)
  replace B2 := Lib.hid (B2.out.keep hb6)
  replace B3 := Lib.hid (B3.out.keep hb6)
  replace B4 := Lib.hid (B4.out.keep hb6)
  clear hb6
  go_wp2_with (first | ((with_reducible refine load_at ?_ ?_ (w.heap.size) ?_ b ?_ ?_); (· rfl); (· rfl); (· rfl); (· exact B0.out)) | ((with_reducible refine load_at ?_ ?_ (w2.heap.size) ?_ b ?_ ?_); (· rfl); (· rfl); (· rfl); (· exact B1.out)) | ((with_reducible refine load_at ?_ ?_ (w4.heap.size) ?_ b ?_ ?_); (· rfl); (· rfl); (· rfl); (· exact B3.out)) | ((with_reducible refine load_at ?_ ?_ (w5.heap.size) ?_ y ?_ ?_); (· rfl); (· rfl); (· rfl); (· exact B4.out)))
  go_ret
  exact ⟨rfl, bel⟩

end Bpd
end Go.Proofs.Ytiokkahldhmhlaa
