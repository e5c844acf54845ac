/-
  The law BpduSays, way by way.
-/
import Derived.Test.YtiokkahldhmhlaaBpL
import Derived.Test.YtiokkahldhmhlaaBpOpen
import Derived.Test.YtiokkahldhmhlaaBpM
import Derived.Test.YtiokkahldhmhlaaRows
namespace Go.Proofs.Ytiokkahldhmhlaa
open Go.RowKit
namespace Bpd
open Oct Mac Eth Epl

set_option maxHeartbeats 1000000 in
theorem says_big1 (b : Bp) (S : ByteArray) (D s : Int) (g : Bool) (p v t : Int) (X : ByteArray) (w : World) (hS : 3000 < S.size) :
    Calls Try.prog 3 #[bp b, .string S, fr D s g p v t X] w fun e w' => e = .returned (.bool true) ∧ Below w.heap.size w w' := by
  have bel := Bx.bel_refl w
  have B0 := Lib.hid (Bx.Blk.new w (bpl b) 26)
  replace bel := Bx.bel_box bel (Obj.cells (bpl b).toArray 26)
  replace B0 := Lib.hid (B0.out.more (Obj.cells #[.int .u64 D, .int .u64 s, .bool g, .int .i64 p, .int .i64 v, .int .i64 t, .string X] 29))
  have B1 := Lib.hid (Bx.Blk.new_at (W := (w.alloc (Obj.cells (bpl b).toArray 26))) (k := w.heap.size + 1) [.int .u64 D, .int .u64 s, .bool g, .int .i64 p, .int .i64 v, .int .i64 t, .string X] 29 (by simp))
  replace bel := Bx.bel_box bel (Obj.cells #[.int .u64 D, .int .u64 s, .bool g, .int .i64 p, .int .i64 v, .int .i64 t, .string X] 29)
  obtain ⟨c1_0, c1_1, c1_2, c1_3, c1_4, c1_5, c1_6⟩ := B1.out.all7
  go_enter Try.func3, Try.ntmps3
  go_wp2_with (first | ((with_reducible refine load_at ?_ ?_ (w.heap.size) ?_ b ?_ ?_); (· rfl); (· rfl); (· rfl); (· exact B0.out)))
  refine (awake_any _).mono ?_; rintro e w1 ⟨rfl, hb1⟩
  replace bel := Bx.then_below bel hb1
  replace B0 := Lib.hid (B0.out.keep hb1)
  replace B1 := Lib.hid (B1.out.keep hb1)
  clear hb1
  go_wp2_with (first | ((with_reducible refine load_at ?_ ?_ (w.heap.size) ?_ b ?_ ?_); (· rfl); (· rfl); (· rfl); (· exact B0.out)))
  go_ret
  exact ⟨rfl, bel⟩

set_option maxHeartbeats 1000000 in
theorem says_big2 (b : Bp) (S : ByteArray) (D s : Int) (g : Bool) (p v t : Int) (X : ByteArray) (w : World) (hS : S.size ≤ 3000) (hX : 12000 < X.size) :
    Calls Try.prog 3 #[bp b, .string S, fr D s g p v t X] w fun e w' => e = .returned (.bool true) ∧ Below w.heap.size w w' := by
  have bel := Bx.bel_refl w
  have B0 := Lib.hid (Bx.Blk.new w (bpl b) 26)
  replace bel := Bx.bel_box bel (Obj.cells (bpl b).toArray 26)
  replace B0 := Lib.hid (B0.out.more (Obj.cells #[.int .u64 D, .int .u64 s, .bool g, .int .i64 p, .int .i64 v, .int .i64 t, .string X] 29))
  have B1 := Lib.hid (Bx.Blk.new_at (W := (w.alloc (Obj.cells (bpl b).toArray 26))) (k := w.heap.size + 1) [.int .u64 D, .int .u64 s, .bool g, .int .i64 p, .int .i64 v, .int .i64 t, .string X] 29 (by simp))
  replace bel := Bx.bel_box bel (Obj.cells #[.int .u64 D, .int .u64 s, .bool g, .int .i64 p, .int .i64 v, .int .i64 t, .string X] 29)
  obtain ⟨c1_0, c1_1, c1_2, c1_3, c1_4, c1_5, c1_6⟩ := B1.out.all7
  go_enter Try.func3, Try.ntmps3
  go_wp2_with (first | ((with_reducible refine load_at ?_ ?_ (w.heap.size) ?_ b ?_ ?_); (· rfl); (· rfl); (· rfl); (· exact B0.out)))
  refine (awake_any _).mono ?_; rintro e w1 ⟨rfl, hb1⟩
  replace bel := Bx.then_below bel hb1
  replace B0 := Lib.hid (B0.out.keep hb1)
  replace B1 := Lib.hid (B1.out.keep hb1)
  clear hb1
  go_wp2_with (first | ((with_reducible refine load_at ?_ ?_ (w.heap.size) ?_ b ?_ ?_); (· rfl); (· rfl); (· rfl); (· exact B0.out)))
  go_ret
  exact ⟨rfl, bel⟩

set_option maxRecDepth 100000 in
set_option maxHeartbeats 8000000 in
theorem says_all (b : Bp) (S : ByteArray) (D s : Int) (g : Bool) (p v t : Int) (X : ByteArray) (A X2 : ByteArray) (x y : Bp) (D2 s2 t2 E1 E2 E3 E4 F : Int) (r : Bool) (w : World) (hS : S.size ≤ 3000) (hX : X.size ≤ 12000)
    (HB : Hid (∀ w, Calls Try.prog 7 #[bp b] w fun e w' => e = .returned (.tuple #[.string A, .int .i64 E1]) ∧ Below w.heap.size w w'))
    (HB2 : Hid (∀ w, Calls Try.prog 8 #[bp b] w fun e w' => e = .returned (.tuple #[.string A, .int .i64 E1]) ∧ Below w.heap.size w w'))
    (HS : Hid (∀ w, Calls Try.prog 9 #[.string S] w fun e w' => e = .returned (.tuple #[bp x, .int .i64 E2]) ∧ Below w.heap.size w w'))
    (HS2 : Hid (∀ w, Calls Try.prog 10 #[.string S] w fun e w' => e = .returned (.tuple #[bp x, .int .i64 E2]) ∧ Below w.heap.size w w'))
    (HW : Hid (∀ w, Calls Try.prog 11 #[.int .u64 s, bp b] w fun e w' => e = .returned (.tuple #[fr D2 s2 false 0 0 t2 X2, .int .i64 E3]) ∧ Below w.heap.size w w'))
    (HW2 : Hid (∀ w, Calls Try.prog 12 #[.int .u64 s, bp b] w fun e w' => e = .returned (.tuple #[fr D2 s2 false 0 0 t2 X2, .int .i64 E3]) ∧ Below w.heap.size w w'))
    (HO : Hid (∀ w, Calls Try.prog 13 #[fr D s g p v t X] w fun e w' => e = .returned (.tuple #[bp y, .int .i64 E4]) ∧ Below w.heap.size w w'))
    (HO2 : Hid (∀ w, Calls Try.prog 14 #[fr D s g p v t X] w fun e w' => e = .returned (.tuple #[bp y, .int .i64 E4]) ∧ Below w.heap.size w w'))
    (HR : Hid (∀ w, Calls Try.prog 15 #[bp b] w fun e w' => e = .returned (.bool r) ∧ Below w.heap.size w w'))
    (HR2 : Hid (∀ w, Calls Try.prog 16 #[bp b] w fun e w' => e = .returned (.bool r) ∧ Below w.heap.size w w'))
    (HF : Hid (∀ w, Calls Try.prog 17 #[bp b] w fun e w' => e = .returned (.int .i64 F) ∧ Below w.heap.size w w'))
    (HF2 : Hid (∀ w, Calls Try.prog 18 #[bp b] w fun e w' => e = .returned (.int .i64 F) ∧ Below w.heap.size w w')) :
    Calls Try.prog 3 #[bp b, .string S, fr D s g p v t X] w fun e w' => e = .returned (.bool true) ∧ Below w.heap.size w w' := by
  have HX0 := fun w => eq_bp x x w
  have HY0 := fun w => eq_bp y y w
  rw [eqB_self] at HX0 HY0
  have t0 : (A.toList == A.toList) = true := by simp
  have t1 : (E1 == E1) = true := by simp
  have t2' : (E2 == E2) = true := by simp
  have t3 : (E3 == E3) = true := by simp
  have t4 : (E4 == E4) = true := by simp
  have t5 : (r == r) = true := by simp
  have t6 : (F == F) = true := by simp
  have t7 : (D2 == D2) = true := by simp
  have t8 : (s2 == s2) = true := by simp
  have t9 : (t2 == t2) = true := by simp
  have t10 : (X2.toList == X2.toList) = true := by simp
  have bel := Bx.bel_refl w
  have B0 := Lib.hid (Bx.Blk.new w (bpl b) 26)
  replace bel := Bx.bel_box bel (Obj.cells (bpl b).toArray 26)
  replace B0 := Lib.hid (B0.out.more (Obj.cells #[.int .u64 D, .int .u64 s, .bool g, .int .i64 p, .int .i64 v, .int .i64 t, .string X] 29))
  have B1 := Lib.hid (Bx.Blk.new_at (W := (w.alloc (Obj.cells (bpl b).toArray 26))) (k := w.heap.size + 1) [.int .u64 D, .int .u64 s, .bool g, .int .i64 p, .int .i64 v, .int .i64 t, .string X] 29 (by simp))
  replace bel := Bx.bel_box bel (Obj.cells #[.int .u64 D, .int .u64 s, .bool g, .int .i64 p, .int .i64 v, .int .i64 t, .string X] 29)
  obtain ⟨c1_0, c1_1, c1_2, c1_3, c1_4, c1_5, c1_6⟩ := B1.out.all7
  go_enter Try.func3, Try.ntmps3
  go_wp2_with (first | ((with_reducible refine load_at ?_ ?_ (w.heap.size) ?_ b ?_ ?_); (· rfl); (· rfl); (· rfl); (· exact B0.out)))
  refine (HB.out _).mono ?_; rintro e w1 ⟨rfl, hb1⟩
  replace bel := Bx.then_below bel hb1
  replace B0 := Lib.hid (B0.out.keep hb1)
  replace B1 := Lib.hid (B1.out.keep hb1)
  clear hb1
  clear c1_0 c1_1 c1_2 c1_3 c1_4 c1_5 c1_6
  obtain ⟨c1_0, c1_1, c1_2, c1_3, c1_4, c1_5, c1_6⟩ := B1.out.all7
  go_wp2_with (first | ((with_reducible refine load_at ?_ ?_ (w.heap.size) ?_ b ?_ ?_); (· rfl); (· rfl); (· rfl); (· exact B0.out)))
  refine (HB2.out _).mono ?_; rintro e w2 ⟨rfl, hb2⟩
  replace bel := Bx.then_below bel hb2
  replace B0 := Lib.hid (B0.out.keep hb2)
  replace B1 := Lib.hid (B1.out.keep hb2)
  clear hb2
  clear c1_0 c1_1 c1_2 c1_3 c1_4 c1_5 c1_6
  obtain ⟨c1_0, c1_1, c1_2, c1_3, c1_4, c1_5, c1_6⟩ := B1.out.all7
  go_wp2_with (first | ((with_reducible refine load_at ?_ ?_ (w.heap.size) ?_ b ?_ ?_); (· rfl); (· rfl); (· rfl); (· exact B0.out)))
  refine (HS.out _).mono ?_; rintro e w3 ⟨rfl, hb3⟩
  replace bel := Bx.then_below bel hb3
  replace B0 := Lib.hid (B0.out.keep hb3)
  replace B1 := Lib.hid (B1.out.keep hb3)
  clear hb3
  replace B0 := Lib.hid (B0.out.more (Obj.cells (bpl x).toArray 26))
  replace B1 := Lib.hid (B1.out.more (Obj.cells (bpl x).toArray 26))
  have B2 := Lib.hid (Bx.Blk.new w3 (bpl x) 26)
  replace bel := Bx.bel_box bel (Obj.cells (bpl x).toArray 26)
  clear c1_0 c1_1 c1_2 c1_3 c1_4 c1_5 c1_6
  obtain ⟨c1_0, c1_1, c1_2, c1_3, c1_4, c1_5, c1_6⟩ := B1.out.all7
  go_wp2_with (first | ((with_reducible refine load_at ?_ ?_ (w.heap.size) ?_ b ?_ ?_); (· rfl); (· rfl); (· rfl); (· exact B0.out)) | ((with_reducible refine load_at ?_ ?_ (w3.heap.size) ?_ x ?_ ?_); (· rfl); (· rfl); (· rfl); (· exact B2.out)) | ((with_reducible refine new_at ?_ ?_ (w3.heap.size) zeroB x ?_ ?_ w3 ?_ ?_ ?_); (· rfl); (· rfl); (· rfl); (· rfl); (· rfl); (· simp)))
  refine (HS2.out _).mono ?_; rintro e w4 ⟨rfl, hb4⟩
  replace bel := Bx.then_below bel hb4
  replace B0 := Lib.hid (B0.out.keep hb4)
  replace B1 := Lib.hid (B1.out.keep hb4)
  replace B2 := Lib.hid (B2.out.keep hb4)
  clear hb4
  replace B0 := Lib.hid (B0.out.more (Obj.cells (bpl x).toArray 26))
  replace B1 := Lib.hid (B1.out.more (Obj.cells (bpl x).toArray 26))
  replace B2 := Lib.hid (B2.out.more (Obj.cells (bpl x).toArray 26))
  have B3 := Lib.hid (Bx.Blk.new w4 (bpl x) 26)
  replace bel := Bx.bel_box bel (Obj.cells (bpl x).toArray 26)
  clear c1_0 c1_1 c1_2 c1_3 c1_4 c1_5 c1_6
  obtain ⟨c1_0, c1_1, c1_2, c1_3, c1_4, c1_5, c1_6⟩ := B1.out.all7
  go_wp2_with (first | ((with_reducible refine load_at ?_ ?_ (w.heap.size) ?_ b ?_ ?_); (· rfl); (· rfl); (· rfl); (· exact B0.out)) | ((with_reducible refine load_at ?_ ?_ (w3.heap.size) ?_ x ?_ ?_); (· rfl); (· rfl); (· rfl); (· exact B2.out)) | ((with_reducible refine load_at ?_ ?_ (w4.heap.size) ?_ x ?_ ?_); (· rfl); (· rfl); (· rfl); (· exact B3.out)) | ((with_reducible refine new_at ?_ ?_ (w4.heap.size) zeroB x ?_ ?_ w4 ?_ ?_ ?_); (· rfl); (· rfl); (· rfl); (· rfl); (· rfl); (· simp)))
  refine (HW.out _).mono ?_; rintro e w5 ⟨rfl, hb5⟩
  replace bel := Bx.then_below bel hb5
  replace B0 := Lib.hid (B0.out.keep hb5)
  replace B1 := Lib.hid (B1.out.keep hb5)
  replace B2 := Lib.hid (B2.out.keep hb5)
  replace B3 := Lib.hid (B3.out.keep hb5)
  clear hb5
  replace B0 := Lib.hid (B0.out.more (Obj.cells #[.int .u64 D2, .int .u64 s2, .bool false, .int .i64 0, .int .i64 0, .int .i64 t2, .string X2] 29))
  replace B1 := Lib.hid (B1.out.more (Obj.cells #[.int .u64 D2, .int .u64 s2, .bool false, .int .i64 0, .int .i64 0, .int .i64 t2, .string X2] 29))
  replace B2 := Lib.hid (B2.out.more (Obj.cells #[.int .u64 D2, .int .u64 s2, .bool false, .int .i64 0, .int .i64 0, .int .i64 t2, .string X2] 29))
  replace B3 := Lib.hid (B3.out.more (Obj.cells #[.int .u64 D2, .int .u64 s2, .bool false, .int .i64 0, .int .i64 0, .int .i64 t2, .string X2] 29))
  have B4 := Lib.hid (Bx.Blk.new w5 [.int .u64 D2, .int .u64 s2, .bool false, .int .i64 0, .int .i64 0, .int .i64 t2, .string X2] 29)
  replace bel := Bx.bel_box bel (Obj.cells #[.int .u64 D2, .int .u64 s2, .bool false, .int .i64 0, .int .i64 0, .int .i64 t2, .string X2] 29)
  clear c1_0 c1_1 c1_2 c1_3 c1_4 c1_5 c1_6
  obtain ⟨c1_0, c1_1, c1_2, c1_3, c1_4, c1_5, c1_6⟩ := B1.out.all7
  obtain ⟨c4_0, c4_1, c4_2, c4_3, c4_4, c4_5, c4_6⟩ := B4.out.all7
  go_wp2_with (first | ((with_reducible refine load_at ?_ ?_ (w.heap.size) ?_ b ?_ ?_); (· rfl); (· rfl); (· rfl); (· exact B0.out)) | ((with_reducible refine load_at ?_ ?_ (w3.heap.size) ?_ x ?_ ?_); (· rfl); (· rfl); (· rfl); (· exact B2.out)) | ((with_reducible refine load_at ?_ ?_ (w4.heap.size) ?_ x ?_ ?_); (· rfl); (· rfl); (· rfl); (· exact B3.out)))
  refine (HW2.out _).mono ?_; rintro e w6 ⟨rfl, hb6⟩
  replace bel := Bx.then_below bel hb6
  replace B0 := Lib.hid (B0.out.keep hb6)
  replace B1 := Lib.hid (B1.out.keep hb6)
  replace B2 := Lib.hid (B2.out.keep hb6)
  replace B3 := Lib.hid (B3.out.keep hb6)
  replace B4 := Lib.hid (B4.out.keep hb6)
  clear hb6
  replace B0 := Lib.hid (B0.out.more (Obj.cells #[.int .u64 D2, .int .u64 s2, .bool false, .int .i64 0, .int .i64 0, .int .i64 t2, .string X2] 29))
  replace B1 := Lib.hid (B1.out.more (Obj.cells #[.int .u64 D2, .int .u64 s2, .bool false, .int .i64 0, .int .i64 0, .int .i64 t2, .string X2] 29))
  replace B2 := Lib.hid (B2.out.more (Obj.cells #[.int .u64 D2, .int .u64 s2, .bool false, .int .i64 0, .int .i64 0, .int .i64 t2, .string X2] 29))
  replace B3 := Lib.hid (B3.out.more (Obj.cells #[.int .u64 D2, .int .u64 s2, .bool false, .int .i64 0, .int .i64 0, .int .i64 t2, .string X2] 29))
  replace B4 := Lib.hid (B4.out.more (Obj.cells #[.int .u64 D2, .int .u64 s2, .bool false, .int .i64 0, .int .i64 0, .int .i64 t2, .string X2] 29))
  have B5 := Lib.hid (Bx.Blk.new w6 [.int .u64 D2, .int .u64 s2, .bool false, .int .i64 0, .int .i64 0, .int .i64 t2, .string X2] 29)
  replace bel := Bx.bel_box bel (Obj.cells #[.int .u64 D2, .int .u64 s2, .bool false, .int .i64 0, .int .i64 0, .int .i64 t2, .string X2] 29)
  clear c1_0 c1_1 c1_2 c1_3 c1_4 c1_5 c1_6 c4_0 c4_1 c4_2 c4_3 c4_4 c4_5 c4_6
  obtain ⟨c1_0, c1_1, c1_2, c1_3, c1_4, c1_5, c1_6⟩ := B1.out.all7
  obtain ⟨c4_0, c4_1, c4_2, c4_3, c4_4, c4_5, c4_6⟩ := B4.out.all7
  obtain ⟨c5_0, c5_1, c5_2, c5_3, c5_4, c5_5, c5_6⟩ := B5.out.all7
  go_wp2_with (first | ((with_reducible refine load_at ?_ ?_ (w.heap.size) ?_ b ?_ ?_); (· rfl); (· rfl); (· rfl); (· exact B0.out)) | ((with_reducible refine load_at ?_ ?_ (w3.heap.size) ?_ x ?_ ?_); (· rfl); (· rfl); (· rfl); (· exact B2.out)) | ((with_reducible refine load_at ?_ ?_ (w4.heap.size) ?_ x ?_ ?_); (· rfl); (· rfl); (· rfl); (· exact B3.out)))
  refine (HO.out _).mono ?_; rintro e w7 ⟨rfl, hb7⟩
  replace bel := Bx.then_below bel hb7
  replace B0 := Lib.hid (B0.out.keep hb7)
  replace B1 := Lib.hid (B1.out.keep hb7)
  replace B2 := Lib.hid (B2.out.keep hb7)
  replace B3 := Lib.hid (B3.out.keep hb7)
  replace B4 := Lib.hid (B4.out.keep hb7)
  replace B5 := Lib.hid (B5.out.keep hb7)
  clear hb7
  replace B0 := Lib.hid (B0.out.more (Obj.cells (bpl y).toArray 26))
  replace B1 := Lib.hid (B1.out.more (Obj.cells (bpl y).toArray 26))
  replace B2 := Lib.hid (B2.out.more (Obj.cells (bpl y).toArray 26))
  replace B3 := Lib.hid (B3.out.more (Obj.cells (bpl y).toArray 26))
  replace B4 := Lib.hid (B4.out.more (Obj.cells (bpl y).toArray 26))
  replace B5 := Lib.hid (B5.out.more (Obj.cells (bpl y).toArray 26))
  have B6 := Lib.hid (Bx.Blk.new w7 (bpl y) 26)
  replace bel := Bx.bel_box bel (Obj.cells (bpl y).toArray 26)
  clear c1_0 c1_1 c1_2 c1_3 c1_4 c1_5 c1_6 c4_0 c4_1 c4_2 c4_3 c4_4 c4_5 c4_6 c5_0 c5_1 c5_2 c5_3 c5_4 c5_5 c5_6
  obtain ⟨c1_0, c1_1, c1_2, c1_3, c1_4, c1_5, c1_6⟩ := B1.out.all7
  obtain ⟨c4_0, c4_1, c4_2, c4_3, c4_4, c4_5, c4_6⟩ := B4.out.all7
  obtain ⟨c5_0, c5_1, c5_2, c5_3, c5_4, c5_5, c5_6⟩ := B5.out.all7
  go_wp2_with (first | ((with_reducible refine load_at ?_ ?_ (w.heap.size) ?_ b ?_ ?_); (· rfl); (· rfl); (· rfl); (· exact B0.out)) | ((with_reducible refine load_at ?_ ?_ (w3.heap.size) ?_ x ?_ ?_); (· rfl); (· rfl); (· rfl); (· exact B2.out)) | ((with_reducible refine load_at ?_ ?_ (w4.heap.size) ?_ x ?_ ?_); (· rfl); (· rfl); (· rfl); (· exact B3.out)) | ((with_reducible refine load_at ?_ ?_ (w7.heap.size) ?_ y ?_ ?_); (· rfl); (· rfl); (· rfl); (· exact B6.out)) | ((with_reducible refine new_at ?_ ?_ (w7.heap.size) zeroB y ?_ ?_ w7 ?_ ?_ ?_); (· rfl); (· rfl); (· rfl); (· rfl); (· rfl); (· simp)))
  refine (HO2.out _).mono ?_; rintro e w8 ⟨rfl, hb8⟩
  replace bel := Bx.then_below bel hb8
  replace B0 := Lib.hid (B0.out.keep hb8)
  replace B1 := Lib.hid (B1.out.keep hb8)
  replace B2 := Lib.hid (B2.out.keep hb8)
  replace B3 := Lib.hid (B3.out.keep hb8)
  replace B4 := Lib.hid (B4.out.keep hb8)
  replace B5 := Lib.hid (B5.out.keep hb8)
  replace B6 := Lib.hid (B6.out.keep hb8)
  clear hb8
  replace B0 := Lib.hid (B0.out.more (Obj.cells (bpl y).toArray 26))
  replace B1 := Lib.hid (B1.out.more (Obj.cells (bpl y).toArray 26))
  replace B2 := Lib.hid (B2.out.more (Obj.cells (bpl y).toArray 26))
  replace B3 := Lib.hid (B3.out.more (Obj.cells (bpl y).toArray 26))
  replace B4 := Lib.hid (B4.out.more (Obj.cells (bpl y).toArray 26))
  replace B5 := Lib.hid (B5.out.more (Obj.cells (bpl y).toArray 26))
  replace B6 := Lib.hid (B6.out.more (Obj.cells (bpl y).toArray 26))
  have B7 := Lib.hid (Bx.Blk.new w8 (bpl y) 26)
  replace bel := Bx.bel_box bel (Obj.cells (bpl y).toArray 26)
  clear c1_0 c1_1 c1_2 c1_3 c1_4 c1_5 c1_6 c4_0 c4_1 c4_2 c4_3 c4_4 c4_5 c4_6 c5_0 c5_1 c5_2 c5_3 c5_4 c5_5 c5_6
  obtain ⟨c1_0, c1_1, c1_2, c1_3, c1_4, c1_5, c1_6⟩ := B1.out.all7
  obtain ⟨c4_0, c4_1, c4_2, c4_3, c4_4, c4_5, c4_6⟩ := B4.out.all7
  obtain ⟨c5_0, c5_1, c5_2, c5_3, c5_4, c5_5, c5_6⟩ := B5.out.all7
  go_wp2_with (first | ((with_reducible refine load_at ?_ ?_ (w.heap.size) ?_ b ?_ ?_); (· rfl); (· rfl); (· rfl); (· exact B0.out)) | ((with_reducible refine load_at ?_ ?_ (w3.heap.size) ?_ x ?_ ?_); (· rfl); (· rfl); (· rfl); (· exact B2.out)) | ((with_reducible refine load_at ?_ ?_ (w4.heap.size) ?_ x ?_ ?_); (· rfl); (· rfl); (· rfl); (· exact B3.out)) | ((with_reducible refine load_at ?_ ?_ (w7.heap.size) ?_ y ?_ ?_); (· rfl); (· rfl); (· rfl); (· exact B6.out)) | ((with_reducible refine load_at ?_ ?_ (w8.heap.size) ?_ y ?_ ?_); (· rfl); (· rfl); (· rfl); (· exact B7.out)) | ((with_reducible refine new_at ?_ ?_ (w8.heap.size) zeroB y ?_ ?_ w8 ?_ ?_ ?_); (· rfl); (· rfl); (· rfl); (· rfl); (· rfl); (· simp)))
  generalize w3.heap.size = m2 at *
  generalize w4.heap.size = m3 at *
  generalize w5.heap.size = m4 at *
  generalize w6.heap.size = m5 at *
  generalize w7.heap.size = m6 at *
  generalize w8.heap.size = m7 at *
  generalize w8.alloc (Obj.cells (bpl y).toArray 26) = W0 at *
  refine wp_region_noPanic ?_
  refine wp_region_held_drew (S := fun w' => Bx.Blk w' (w.heap.size) (bpl b) ∧ Bx.Blk w' m2 (bpl x) ∧ Bx.Blk w' m3 (bpl x) ∧ Bx.Blk w' m6 (bpl y) ∧ Bx.Blk w' m7 (bpl y) ∧ w'.cell? ⟨m4, 0, none⟩ = some (.int .u64 D2) ∧ w'.cell? ⟨m4, 1, none⟩ = some (.int .u64 s2) ∧ w'.cell? ⟨m4, 2, none⟩ = some (.bool false) ∧ w'.cell? ⟨m4, 3, none⟩ = some (.int .i64 0) ∧ w'.cell? ⟨m4, 4, none⟩ = some (.int .i64 0) ∧ w'.cell? ⟨m4, 5, none⟩ = some (.int .i64 t2) ∧ w'.cell? ⟨m4, 6, none⟩ = some (.string X2) ∧ w'.cell? ⟨m5, 0, none⟩ = some (.int .u64 D2) ∧ w'.cell? ⟨m5, 1, none⟩ = some (.int .u64 s2) ∧ w'.cell? ⟨m5, 2, none⟩ = some (.bool false) ∧ w'.cell? ⟨m5, 3, none⟩ = some (.int .i64 0) ∧ w'.cell? ⟨m5, 4, none⟩ = some (.int .i64 0) ∧ w'.cell? ⟨m5, 5, none⟩ = some (.int .i64 t2) ∧ w'.cell? ⟨m5, 6, none⟩ = some (.string X2)) (by kernel_rfl) (by exact ⟨B0.out, B2.out, B3.out, B6.out, B7.out, c4_0, c4_1, c4_2, c4_3, c4_4, c4_5, c4_6, c5_0, c5_1, c5_2, c5_3, c5_4, c5_5, c5_6⟩) (fun hHeld => ?_)
  replace bel := Bx.bel_drewn bel
  refine wpAnyH_take (i := 0) (oi := ?o0_1) (v := bp b) ?hi0_1 (by kernel_rfl) (by kernel_rfl) (by kernel_rfl) (fun _ _ _ h => h) ?y0_1 (by assumption) ?r0_1
  case hi0_1 => (simp only [List.getElem?_toArray]; rfl)
  case y0_1 => (refine yields_bp rfl _ rfl (w.heap.size) rfl b ?_; intro w' hS; exact hS.1)
  try simp only [Act.put, List.setIfInBounds_toArray, List.set_cons_zero, List.set_cons_succ]
  refine wpAnyH_take (i := 2) (oi := ?o2_2) (v := bp b) ?hi2_2 (by kernel_rfl) (by kernel_rfl) (by kernel_rfl) (fun _ _ _ h => h) ?y2_2 (by assumption) ?r2_2
  case hi2_2 => (simp only [List.getElem?_toArray, List.getElem?_cons_succ]; rfl)
  case y2_2 => (refine yields_bp rfl _ rfl (w.heap.size) rfl b ?_; intro w' hS; exact hS.1)
  try simp only [Act.put, List.setIfInBounds_toArray, List.set_cons_zero, List.set_cons_succ]
  refine wpAnyH_ready (rs := [1]) (by kernel_rfl) (by simp) ?_
  refine AllReadyH.cons (o := ?o1_3) ?hi1_3 ?hst1_3 AllReadyH.nil
  case hi1_3 => (simp only [List.getElem?_toArray, List.getElem?_cons_succ]; rfl)
  intro K hK
  go_simp
  (go_at_call 15; (with_reducible refine (HR.out _).mono ?_); rintro e w9 ⟨rfl, hb9⟩)
  go_wp2_with fail
  refine hK.out _ _ ⟨Bx.Blk.keep hHeld.1 hb9, Bx.Blk.keep hHeld.2.1 hb9, Bx.Blk.keep hHeld.2.2.1 hb9, Bx.Blk.keep hHeld.2.2.2.1 hb9, Bx.Blk.keep hHeld.2.2.2.2.1 hb9, Bx.keep_cell hb9 hHeld.2.2.2.2.2.1, Bx.keep_cell hb9 hHeld.2.2.2.2.2.2.1, Bx.keep_cell hb9 hHeld.2.2.2.2.2.2.2.1, Bx.keep_cell hb9 hHeld.2.2.2.2.2.2.2.2.1, Bx.keep_cell hb9 hHeld.2.2.2.2.2.2.2.2.2.1, Bx.keep_cell hb9 hHeld.2.2.2.2.2.2.2.2.2.2.1, Bx.keep_cell hb9 hHeld.2.2.2.2.2.2.2.2.2.2.2.1, Bx.keep_cell hb9 hHeld.2.2.2.2.2.2.2.2.2.2.2.2.1, Bx.keep_cell hb9 hHeld.2.2.2.2.2.2.2.2.2.2.2.2.2.1, Bx.keep_cell hb9 hHeld.2.2.2.2.2.2.2.2.2.2.2.2.2.2.1, Bx.keep_cell hb9 hHeld.2.2.2.2.2.2.2.2.2.2.2.2.2.2.2.1, Bx.keep_cell hb9 hHeld.2.2.2.2.2.2.2.2.2.2.2.2.2.2.2.2.1, Bx.keep_cell hb9 hHeld.2.2.2.2.2.2.2.2.2.2.2.2.2.2.2.2.2.1, Bx.keep_cell hb9 hHeld.2.2.2.2.2.2.2.2.2.2.2.2.2.2.2.2.2.2⟩ (fun hNew => ?_)
  clear hHeld
  have hHeld := hNew
  clear hNew hK K
  replace bel := Bx.then_below bel hb9
  refine wpAnyH_ready (rs := [3]) (by kernel_rfl) (by simp) ?_
  refine AllReadyH.cons (o := ?o3_4) ?hi3_4 ?hst3_4 AllReadyH.nil
  case hi3_4 => (simp only [List.getElem?_toArray, List.getElem?_cons_succ]; rfl)
  intro K hK
  go_simp
  (go_at_call 16; (with_reducible refine (HR2.out _).mono ?_); rintro e w10 ⟨rfl, hb10⟩)
  go_wp2_with fail
  refine hK.out _ _ ⟨Bx.Blk.keep hHeld.1 hb10, Bx.Blk.keep hHeld.2.1 hb10, Bx.Blk.keep hHeld.2.2.1 hb10, Bx.Blk.keep hHeld.2.2.2.1 hb10, Bx.Blk.keep hHeld.2.2.2.2.1 hb10, Bx.keep_cell hb10 hHeld.2.2.2.2.2.1, Bx.keep_cell hb10 hHeld.2.2.2.2.2.2.1, Bx.keep_cell hb10 hHeld.2.2.2.2.2.2.2.1, Bx.keep_cell hb10 hHeld.2.2.2.2.2.2.2.2.1, Bx.keep_cell hb10 hHeld.2.2.2.2.2.2.2.2.2.1, Bx.keep_cell hb10 hHeld.2.2.2.2.2.2.2.2.2.2.1, Bx.keep_cell hb10 hHeld.2.2.2.2.2.2.2.2.2.2.2.1, Bx.keep_cell hb10 hHeld.2.2.2.2.2.2.2.2.2.2.2.2.1, Bx.keep_cell hb10 hHeld.2.2.2.2.2.2.2.2.2.2.2.2.2.1, Bx.keep_cell hb10 hHeld.2.2.2.2.2.2.2.2.2.2.2.2.2.2.1, Bx.keep_cell hb10 hHeld.2.2.2.2.2.2.2.2.2.2.2.2.2.2.2.1, Bx.keep_cell hb10 hHeld.2.2.2.2.2.2.2.2.2.2.2.2.2.2.2.2.1, Bx.keep_cell hb10 hHeld.2.2.2.2.2.2.2.2.2.2.2.2.2.2.2.2.2.1, Bx.keep_cell hb10 hHeld.2.2.2.2.2.2.2.2.2.2.2.2.2.2.2.2.2.2⟩ (fun hNew => ?_)
  clear hHeld
  have hHeld := hNew
  clear hNew hK K
  replace bel := Bx.then_below bel hb10
  refine wpAnyH_take (i := 4) (oi := ?o4_5) (v := ?v4_5) ?hi4_5 (by kernel_rfl) (by kernel_rfl) (by kernel_rfl) (fun _ _ _ h => h) ?y4_5 (by assumption) ?r4_5
  case hi4_5 => (simp only [List.getElem?_toArray, List.getElem?_cons_succ]; rfl)
  case y4_5 => (refine Or.inl ⟨by rfl, ?_⟩; intro w' hSw; (try dsimp only at hSw); go_simp; (try with_reducible rfl))
  try simp only [Act.put, List.setIfInBounds_toArray, List.set_cons_zero, List.set_cons_succ]
  refine wpAnyH_take (i := 5) (oi := ?o5_6) (v := ?v5_6) ?hi5_6 (by kernel_rfl) (by kernel_rfl) (by kernel_rfl) (fun _ _ _ h => h) ?y5_6 (by assumption) ?r5_6
  case hi5_6 => (simp only [List.getElem?_toArray, List.getElem?_cons_succ]; rfl)
  case y5_6 => (refine Or.inl ⟨by rfl, ?_⟩; intro w' hSw; (try dsimp only at hSw); go_simp; (try with_reducible rfl))
  try simp only [Act.put, List.setIfInBounds_toArray, List.set_cons_zero, List.set_cons_succ]
  refine wpAnyH_take (i := 6) (oi := ?o6_7) (v := bp b) ?hi6_7 (by kernel_rfl) (by kernel_rfl) (by kernel_rfl) (fun _ _ _ h => h) ?y6_7 (by assumption) ?r6_7
  case hi6_7 => (simp only [List.getElem?_toArray, List.getElem?_cons_succ]; rfl)
  case y6_7 => (refine yields_bp rfl _ rfl (w.heap.size) rfl b ?_; intro w' hS; exact hS.1)
  try simp only [Act.put, List.setIfInBounds_toArray, List.set_cons_zero, List.set_cons_succ]
  refine wpAnyH_take (i := 8) (oi := ?o8_8) (v := bp b) ?hi8_8 (by kernel_rfl) (by kernel_rfl) (by kernel_rfl) (fun _ _ _ h => h) ?y8_8 (by assumption) ?r8_8
  case hi8_8 => (simp only [List.getElem?_toArray, List.getElem?_cons_succ]; rfl)
  case y8_8 => (refine yields_bp rfl _ rfl (w.heap.size) rfl b ?_; intro w' hS; exact hS.1)
  try simp only [Act.put, List.setIfInBounds_toArray, List.set_cons_zero, List.set_cons_succ]
  refine wpAnyH_ready (rs := [7]) (by kernel_rfl) (by simp) ?_
  refine AllReadyH.cons (o := ?o7_9) ?hi7_9 ?hst7_9 AllReadyH.nil
  case hi7_9 => (simp only [List.getElem?_toArray, List.getElem?_cons_succ]; rfl)
  intro K hK
  go_simp
  (go_at_call 17; (with_reducible refine (HF.out _).mono ?_); rintro e w11 ⟨rfl, hb11⟩)
  go_wp2_with fail
  refine hK.out _ _ ⟨Bx.Blk.keep hHeld.1 hb11, Bx.Blk.keep hHeld.2.1 hb11, Bx.Blk.keep hHeld.2.2.1 hb11, Bx.Blk.keep hHeld.2.2.2.1 hb11, Bx.Blk.keep hHeld.2.2.2.2.1 hb11, Bx.keep_cell hb11 hHeld.2.2.2.2.2.1, Bx.keep_cell hb11 hHeld.2.2.2.2.2.2.1, Bx.keep_cell hb11 hHeld.2.2.2.2.2.2.2.1, Bx.keep_cell hb11 hHeld.2.2.2.2.2.2.2.2.1, Bx.keep_cell hb11 hHeld.2.2.2.2.2.2.2.2.2.1, Bx.keep_cell hb11 hHeld.2.2.2.2.2.2.2.2.2.2.1, Bx.keep_cell hb11 hHeld.2.2.2.2.2.2.2.2.2.2.2.1, Bx.keep_cell hb11 hHeld.2.2.2.2.2.2.2.2.2.2.2.2.1, Bx.keep_cell hb11 hHeld.2.2.2.2.2.2.2.2.2.2.2.2.2.1, Bx.keep_cell hb11 hHeld.2.2.2.2.2.2.2.2.2.2.2.2.2.2.1, Bx.keep_cell hb11 hHeld.2.2.2.2.2.2.2.2.2.2.2.2.2.2.2.1, Bx.keep_cell hb11 hHeld.2.2.2.2.2.2.2.2.2.2.2.2.2.2.2.2.1, Bx.keep_cell hb11 hHeld.2.2.2.2.2.2.2.2.2.2.2.2.2.2.2.2.2.1, Bx.keep_cell hb11 hHeld.2.2.2.2.2.2.2.2.2.2.2.2.2.2.2.2.2.2⟩ (fun hNew => ?_)
  clear hHeld
  have hHeld := hNew
  clear hNew hK K
  replace bel := Bx.then_below bel hb11
  refine wpAnyH_ready (rs := [9]) (by kernel_rfl) (by simp) ?_
  refine AllReadyH.cons (o := ?o9_10) ?hi9_10 ?hst9_10 AllReadyH.nil
  case hi9_10 => (simp only [List.getElem?_toArray, List.getElem?_cons_succ]; rfl)
  intro K hK
  go_simp
  (go_at_call 18; (with_reducible refine (HF2.out _).mono ?_); rintro e w12 ⟨rfl, hb12⟩)
  go_wp2_with fail
  refine hK.out _ _ ⟨Bx.Blk.keep hHeld.1 hb12, Bx.Blk.keep hHeld.2.1 hb12, Bx.Blk.keep hHeld.2.2.1 hb12, Bx.Blk.keep hHeld.2.2.2.1 hb12, Bx.Blk.keep hHeld.2.2.2.2.1 hb12, Bx.keep_cell hb12 hHeld.2.2.2.2.2.1, Bx.keep_cell hb12 hHeld.2.2.2.2.2.2.1, Bx.keep_cell hb12 hHeld.2.2.2.2.2.2.2.1, Bx.keep_cell hb12 hHeld.2.2.2.2.2.2.2.2.1, Bx.keep_cell hb12 hHeld.2.2.2.2.2.2.2.2.2.1, Bx.keep_cell hb12 hHeld.2.2.2.2.2.2.2.2.2.2.1, Bx.keep_cell hb12 hHeld.2.2.2.2.2.2.2.2.2.2.2.1, Bx.keep_cell hb12 hHeld.2.2.2.2.2.2.2.2.2.2.2.2.1, Bx.keep_cell hb12 hHeld.2.2.2.2.2.2.2.2.2.2.2.2.2.1, Bx.keep_cell hb12 hHeld.2.2.2.2.2.2.2.2.2.2.2.2.2.2.1, Bx.keep_cell hb12 hHeld.2.2.2.2.2.2.2.2.2.2.2.2.2.2.2.1, Bx.keep_cell hb12 hHeld.2.2.2.2.2.2.2.2.2.2.2.2.2.2.2.2.1, Bx.keep_cell hb12 hHeld.2.2.2.2.2.2.2.2.2.2.2.2.2.2.2.2.2.1, Bx.keep_cell hb12 hHeld.2.2.2.2.2.2.2.2.2.2.2.2.2.2.2.2.2.2⟩ (fun hNew => ?_)
  clear hHeld
  have hHeld := hNew
  clear hNew hK K
  replace bel := Bx.then_below bel hb12
  refine wpAnyH_take (i := 10) (oi := ?o10_11) (v := ?v10_11) ?hi10_11 (by kernel_rfl) (by kernel_rfl) (by kernel_rfl) (fun _ _ _ h => h) ?y10_11 (by assumption) ?r10_11
  case hi10_11 => (simp only [List.getElem?_toArray, List.getElem?_cons_succ]; rfl)
  case y10_11 => (refine Or.inl ⟨by rfl, ?_⟩; intro w' hSw; (try dsimp only at hSw); go_simp; (try with_reducible rfl))
  try simp only [Act.put, List.setIfInBounds_toArray, List.set_cons_zero, List.set_cons_succ]
  refine wpAnyH_take (i := 11) (oi := ?o11_12) (v := ?v11_12) ?hi11_12 (by kernel_rfl) (by kernel_rfl) (by kernel_rfl) (fun _ _ _ h => h) ?y11_12 (by assumption) ?r11_12
  case hi11_12 => (simp only [List.getElem?_toArray, List.getElem?_cons_succ]; rfl)
  case y11_12 => (refine Or.inl ⟨by rfl, ?_⟩; intro w' hSw; (try dsimp only at hSw); go_simp; (try with_reducible rfl))
  try simp only [Act.put, List.setIfInBounds_toArray, List.set_cons_zero, List.set_cons_succ]
  refine wpAnyH_take (i := 12) (oi := ?o12_13) (v := ?v12_13) ?hi12_13 (by kernel_rfl) (by kernel_rfl) (by kernel_rfl) (fun _ _ _ h => h) ?y12_13 (by assumption) ?r12_13
  case hi12_13 => (simp only [List.getElem?_toArray, List.getElem?_cons_succ]; rfl)
  case y12_13 => (refine Or.inl ⟨by rfl, ?_⟩; intro w' hSw; (try dsimp only at hSw); go_simp; (try with_reducible rfl))
  try simp only [Act.put, List.setIfInBounds_toArray, List.set_cons_zero, List.set_cons_succ]
  refine wpAnyH_take (i := 13) (oi := ?o13_14) (v := ?v13_14) ?hi13_14 (by kernel_rfl) (by kernel_rfl) (by kernel_rfl) (fun _ _ _ h => h) ?y13_14 (by assumption) ?r13_14
  case hi13_14 => (simp only [List.getElem?_toArray, List.getElem?_cons_succ]; rfl)
  case y13_14 => (refine Or.inl ⟨by rfl, ?_⟩; intro w' hSw; (try dsimp only at hSw); go_simp; (try with_reducible rfl))
  try simp only [Act.put, List.setIfInBounds_toArray, List.set_cons_zero, List.set_cons_succ]
  refine wpAnyH_take (i := 14) (oi := ?o14_15) (v := ?v14_15) ?hi14_15 (by kernel_rfl) (by kernel_rfl) (by kernel_rfl) (fun _ _ _ h => h) ?y14_15 (by assumption) ?r14_15
  case hi14_15 => (simp only [List.getElem?_toArray, List.getElem?_cons_succ]; rfl)
  case y14_15 => (refine Or.inl ⟨by rfl, ?_⟩; intro w' hSw; (try dsimp only at hSw); go_simp; (try with_reducible rfl))
  try simp only [Act.put, List.setIfInBounds_toArray, List.set_cons_zero, List.set_cons_succ]
  refine wpAnyH_take (i := 15) (oi := ?o15_16) (v := ?v15_16) ?hi15_16 (by kernel_rfl) (by kernel_rfl) (by kernel_rfl) (fun _ _ _ h => h) ?y15_16 (by assumption) ?r15_16
  case hi15_16 => (simp only [List.getElem?_toArray, List.getElem?_cons_succ]; rfl)
  case y15_16 => (refine Or.inl ⟨by rfl, ?_⟩; intro w' hSw; (try dsimp only at hSw); go_simp; (try with_reducible rfl))
  try simp only [Act.put, List.setIfInBounds_toArray, List.set_cons_zero, List.set_cons_succ]
  refine wpAnyH_take (i := 16) (oi := ?o16_17) (v := ?v16_17) ?hi16_17 (by kernel_rfl) (by kernel_rfl) (by kernel_rfl) (fun _ _ _ h => h) ?y16_17 (by assumption) ?r16_17
  case hi16_17 => (simp only [List.getElem?_toArray, List.getElem?_cons_succ]; rfl)
  case y16_17 => (refine Or.inl ⟨by rfl, ?_⟩; intro w' hSw; (try dsimp only at hSw); go_simp; (try with_reducible rfl))
  try simp only [Act.put, List.setIfInBounds_toArray, List.set_cons_zero, List.set_cons_succ]
  refine wpAnyH_take (i := 17) (oi := ?o17_18) (v := ?v17_18) ?hi17_18 (by kernel_rfl) (by kernel_rfl) (by kernel_rfl) (fun _ _ _ h => h) ?y17_18 (by assumption) ?r17_18
  case hi17_18 => (simp only [List.getElem?_toArray, List.getElem?_cons_succ]; rfl)
  case y17_18 => (refine Or.inl ⟨by rfl, ?_⟩; intro w' hSw; (try dsimp only at hSw); go_simp; (try with_reducible rfl))
  try simp only [Act.put, List.setIfInBounds_toArray, List.set_cons_zero, List.set_cons_succ]
  refine wpAnyH_take (i := 18) (oi := ?o18_19) (v := ?v18_19) ?hi18_19 (by kernel_rfl) (by kernel_rfl) (by kernel_rfl) (fun _ _ _ h => h) ?y18_19 (by assumption) ?r18_19
  case hi18_19 => (simp only [List.getElem?_toArray, List.getElem?_cons_succ]; rfl)
  case y18_19 => (refine Or.inl ⟨by rfl, ?_⟩; intro w' hSw; (try dsimp only at hSw); go_simp; (try with_reducible rfl))
  try simp only [Act.put, List.setIfInBounds_toArray, List.set_cons_zero, List.set_cons_succ]
  refine wpAnyH_take (i := 19) (oi := ?o19_20) (v := ?v19_20) ?hi19_20 (by kernel_rfl) (by kernel_rfl) (by kernel_rfl) (fun _ _ _ h => h) ?y19_20 (by assumption) ?r19_20
  case hi19_20 => (simp only [List.getElem?_toArray, List.getElem?_cons_succ]; rfl)
  case y19_20 => (refine Or.inl ⟨by rfl, ?_⟩; intro w' hSw; (try dsimp only at hSw); go_simp; (try with_reducible rfl))
  try simp only [Act.put, List.setIfInBounds_toArray, List.set_cons_zero, List.set_cons_succ]
  refine wpAnyH_take (i := 20) (oi := ?o20_21) (v := ?v20_21) ?hi20_21 (by kernel_rfl) (by kernel_rfl) (by kernel_rfl) (fun _ _ _ h => h) ?y20_21 (by assumption) ?r20_21
  case hi20_21 => (simp only [List.getElem?_toArray, List.getElem?_cons_succ]; rfl)
  case y20_21 => (refine Or.inl ⟨by rfl, ?_⟩; intro w' hSw; (try dsimp only at hSw); go_simp; (try with_reducible rfl))
  try simp only [Act.put, List.setIfInBounds_toArray, List.set_cons_zero, List.set_cons_succ]
  refine wpAnyH_take (i := 21) (oi := ?o21_22) (v := ?v21_22) ?hi21_22 (by kernel_rfl) (by kernel_rfl) (by kernel_rfl) (fun _ _ _ h => h) ?y21_22 (by assumption) ?r21_22
  case hi21_22 => (simp only [List.getElem?_toArray, List.getElem?_cons_succ]; rfl)
  case y21_22 => (refine Or.inl ⟨by rfl, ?_⟩; intro w' hSw; (try dsimp only at hSw); go_simp; (try with_reducible rfl))
  try simp only [Act.put, List.setIfInBounds_toArray, List.set_cons_zero, List.set_cons_succ]
  refine wpAnyH_take (i := 22) (oi := ?o22_23) (v := ?v22_23) ?hi22_23 (by kernel_rfl) (by kernel_rfl) (by kernel_rfl) (fun _ _ _ h => h) ?y22_23 (by assumption) ?r22_23
  case hi22_23 => (simp only [List.getElem?_toArray, List.getElem?_cons_succ]; rfl)
  case y22_23 => (refine Or.inl ⟨by rfl, ?_⟩; intro w' hSw; (try dsimp only at hSw); go_simp; (try with_reducible rfl))
  try simp only [Act.put, List.setIfInBounds_toArray, List.set_cons_zero, List.set_cons_succ]
  refine wpAnyH_take (i := 23) (oi := ?o23_24) (v := bp x) ?hi23_24 (by kernel_rfl) (by kernel_rfl) (by kernel_rfl) (fun _ _ _ h => h) ?y23_24 (by assumption) ?r23_24
  case hi23_24 => (simp only [List.getElem?_toArray, List.getElem?_cons_succ]; rfl)
  case y23_24 => (refine yields_bp rfl _ rfl (m2) rfl x ?_; intro w' hS; exact hS.2.1)
  try simp only [Act.put, List.setIfInBounds_toArray, List.set_cons_zero, List.set_cons_succ]
  refine wpAnyH_take (i := 24) (oi := ?o24_25) (v := bp x) ?hi24_25 (by kernel_rfl) (by kernel_rfl) (by kernel_rfl) (fun _ _ _ h => h) ?y24_25 (by assumption) ?r24_25
  case hi24_25 => (simp only [List.getElem?_toArray, List.getElem?_cons_succ]; rfl)
  case y24_25 => (refine yields_bp rfl _ rfl (m3) rfl x ?_; intro w' hS; exact hS.2.2.1)
  try simp only [Act.put, List.setIfInBounds_toArray, List.set_cons_zero, List.set_cons_succ]
  refine wpAnyH_take (i := 25) (oi := ?o25_26) (v := ?v25_26) ?hi25_26 (by kernel_rfl) (by kernel_rfl) (by kernel_rfl) (fun _ _ _ h => h) ?y25_26 (by assumption) ?r25_26
  case hi25_26 => (simp only [List.getElem?_toArray, List.getElem?_cons_succ]; rfl)
  case y25_26 => (refine Or.inl ⟨by rfl, ?_⟩; intro w' hSw; (try dsimp only at hSw); go_simp; (try with_reducible rfl))
  try simp only [Act.put, List.setIfInBounds_toArray, List.set_cons_zero, List.set_cons_succ]
  refine wpAnyH_take (i := 26) (oi := ?o26_27) (v := ?v26_27) ?hi26_27 (by kernel_rfl) (by kernel_rfl) (by kernel_rfl) (fun _ _ _ h => h) ?y26_27 (by assumption) ?r26_27
  case hi26_27 => (simp only [List.getElem?_toArray, List.getElem?_cons_succ]; rfl)
  case y26_27 => (refine Or.inl ⟨by rfl, ?_⟩; intro w' hSw; (try dsimp only at hSw); go_simp; (try with_reducible rfl))
  try simp only [Act.put, List.setIfInBounds_toArray, List.set_cons_zero, List.set_cons_succ]
  refine wpAnyH_take (i := 27) (oi := ?o27_28) (v := ?v27_28) ?hi27_28 (by kernel_rfl) (by kernel_rfl) (by kernel_rfl) (fun _ _ _ h => h) ?y27_28 (by assumption) ?r27_28
  case hi27_28 => (simp only [List.getElem?_toArray, List.getElem?_cons_succ]; rfl)
  case y27_28 => (refine Or.inl ⟨by rfl, ?_⟩; intro w' hSw; (try dsimp only at hSw); go_simp; (try with_reducible rfl))
  try simp only [Act.put, List.setIfInBounds_toArray, List.set_cons_zero, List.set_cons_succ]
  refine wpAnyH_take (i := 28) (oi := ?o28_29) (v := ?v28_29) ?hi28_29 (by kernel_rfl) (by kernel_rfl) (by kernel_rfl) (fun _ _ _ h => h) ?y28_29 (by assumption) ?r28_29
  case hi28_29 => (simp only [List.getElem?_toArray, List.getElem?_cons_succ]; rfl)
  case y28_29 => (refine Or.inl ⟨by rfl, ?_⟩; intro w' hSw; (try dsimp only at hSw); go_simp; (try with_reducible rfl))
  try simp only [Act.put, List.setIfInBounds_toArray, List.set_cons_zero, List.set_cons_succ]
  refine wpAnyH_take (i := 29) (oi := ?o29_30) (v := ?v29_30) ?hi29_30 (by kernel_rfl) (by kernel_rfl) (by kernel_rfl) (fun _ _ _ h => h) ?y29_30 (by assumption) ?r29_30
  case hi29_30 => (simp only [List.getElem?_toArray, List.getElem?_cons_succ]; rfl)
  case y29_30 => (refine Or.inl ⟨by rfl, ?_⟩; intro w' hSw; (try dsimp only at hSw); go_simp; (try with_reducible rfl))
  try simp only [Act.put, List.setIfInBounds_toArray, List.set_cons_zero, List.set_cons_succ]
  refine wpAnyH_take (i := 30) (oi := ?o30_31) (v := ?v30_31) ?hi30_31 (by kernel_rfl) (by kernel_rfl) (by kernel_rfl) (fun _ _ _ h => h) ?y30_31 (by assumption) ?r30_31
  case hi30_31 => (simp only [List.getElem?_toArray, List.getElem?_cons_succ]; rfl)
  case y30_31 => (refine Or.inl ⟨by rfl, ?_⟩; intro w' hSw; (try dsimp only at hSw); go_simp; (try with_reducible rfl))
  try simp only [Act.put, List.setIfInBounds_toArray, List.set_cons_zero, List.set_cons_succ]
  refine wpAnyH_take (i := 31) (oi := ?o31_32) (v := ?v31_32) ?hi31_32 (by kernel_rfl) (by kernel_rfl) (by kernel_rfl) (fun _ _ _ h => h) ?y31_32 (by assumption) ?r31_32
  case hi31_32 => (simp only [List.getElem?_toArray, List.getElem?_cons_succ]; rfl)
  case y31_32 => (refine Or.inl ⟨by rfl, ?_⟩; intro w' hSw; (try dsimp only at hSw); go_simp; (try with_reducible rfl))
  try simp only [Act.put, List.setIfInBounds_toArray, List.set_cons_zero, List.set_cons_succ]
  refine wpAnyH_take (i := 32) (oi := ?o32_33) (v := ?v32_33) ?hi32_33 (by kernel_rfl) (by kernel_rfl) (by kernel_rfl) (fun _ _ _ h => h) ?y32_33 (by assumption) ?r32_33
  case hi32_33 => (simp only [List.getElem?_toArray, List.getElem?_cons_succ]; rfl)
  case y32_33 => (refine Or.inl ⟨by rfl, ?_⟩; intro w' hSw; (try dsimp only at hSw); go_simp; (try with_reducible rfl))
  try simp only [Act.put, List.setIfInBounds_toArray, List.set_cons_zero, List.set_cons_succ]
  refine wpAnyH_take (i := 33) (oi := ?o33_34) (v := ?v33_34) ?hi33_34 (by kernel_rfl) (by kernel_rfl) (by kernel_rfl) (fun _ _ _ h => h) ?y33_34 (by assumption) ?r33_34
  case hi33_34 => (simp only [List.getElem?_toArray, List.getElem?_cons_succ]; rfl)
  case y33_34 => (refine Or.inl ⟨by rfl, ?_⟩; intro w' hSw; (try dsimp only at hSw); go_simp; (try with_reducible rfl))
  try simp only [Act.put, List.setIfInBounds_toArray, List.set_cons_zero, List.set_cons_succ]
  refine wpAnyH_take (i := 34) (oi := ?o34_35) (v := ?v34_35) ?hi34_35 (by kernel_rfl) (by kernel_rfl) (by kernel_rfl) (fun _ _ _ h => h) ?y34_35 (by assumption) ?r34_35
  case hi34_35 => (simp only [List.getElem?_toArray, List.getElem?_cons_succ]; rfl)
  case y34_35 => (refine Or.inl ⟨by rfl, ?_⟩; intro w' hSw; (try dsimp only at hSw); go_simp; (try with_reducible rfl))
  try simp only [Act.put, List.setIfInBounds_toArray, List.set_cons_zero, List.set_cons_succ]
  refine wpAnyH_take (i := 35) (oi := ?o35_36) (v := ?v35_36) ?hi35_36 (by kernel_rfl) (by kernel_rfl) (by kernel_rfl) (fun _ _ _ h => h) ?y35_36 (by assumption) ?r35_36
  case hi35_36 => (simp only [List.getElem?_toArray, List.getElem?_cons_succ]; rfl)
  case y35_36 => (refine Or.inl ⟨by rfl, ?_⟩; intro w' hSw; (try dsimp only at hSw); go_simp; (try with_reducible rfl))
  try simp only [Act.put, List.setIfInBounds_toArray, List.set_cons_zero, List.set_cons_succ]
  refine wpAnyH_take (i := 36) (oi := ?o36_37) (v := ?v36_37) ?hi36_37 (by kernel_rfl) (by kernel_rfl) (by kernel_rfl) (fun _ _ _ h => h) ?y36_37 (by assumption) ?r36_37
  case hi36_37 => (simp only [List.getElem?_toArray, List.getElem?_cons_succ]; rfl)
  case y36_37 => (refine Or.inl ⟨by rfl, ?_⟩; intro w' hSw; (try dsimp only at hSw); go_simp; (try with_reducible rfl))
  try simp only [Act.put, List.setIfInBounds_toArray, List.set_cons_zero, List.set_cons_succ]
  refine wpAnyH_take (i := 37) (oi := ?o37_38) (v := ?v37_38) ?hi37_38 (by kernel_rfl) (by kernel_rfl) (by kernel_rfl) (fun _ _ _ h => h) ?y37_38 (by assumption) ?r37_38
  case hi37_38 => (simp only [List.getElem?_toArray, List.getElem?_cons_succ]; rfl)
  case y37_38 => (refine Or.inl ⟨by rfl, ?_⟩; intro w' hSw; (try dsimp only at hSw); go_simp; (try with_reducible rfl))
  try simp only [Act.put, List.setIfInBounds_toArray, List.set_cons_zero, List.set_cons_succ]
  refine wpAnyH_take (i := 38) (oi := ?o38_39) (v := ?v38_39) ?hi38_39 (by kernel_rfl) (by kernel_rfl) (by kernel_rfl) (fun _ _ _ h => h) ?y38_39 (by assumption) ?r38_39
  case hi38_39 => (simp only [List.getElem?_toArray, List.getElem?_cons_succ]; rfl)
  case y38_39 => (refine Or.inl ⟨by rfl, ?_⟩; intro w' hSw; (try dsimp only at hSw); go_simp; (try with_reducible rfl))
  try simp only [Act.put, List.setIfInBounds_toArray, List.set_cons_zero, List.set_cons_succ]
  refine wpAnyH_take (i := 39) (oi := ?o39_40) (v := ?v39_40) ?hi39_40 (by kernel_rfl) (by kernel_rfl) (by kernel_rfl) (fun _ _ _ h => h) ?y39_40 (by assumption) ?r39_40
  case hi39_40 => (simp only [List.getElem?_toArray, List.getElem?_cons_succ]; rfl)
  case y39_40 => (refine Or.inl ⟨by rfl, ?_⟩; intro w' hSw; (try dsimp only at hSw); go_simp; (try with_reducible rfl))
  try simp only [Act.put, List.setIfInBounds_toArray, List.set_cons_zero, List.set_cons_succ]
  refine wpAnyH_take (i := 40) (oi := ?o40_41) (v := ?v40_41) ?hi40_41 (by kernel_rfl) (by kernel_rfl) (by kernel_rfl) (fun _ _ _ h => h) ?y40_41 (by assumption) ?r40_41
  case hi40_41 => (simp only [List.getElem?_toArray, List.getElem?_cons_succ]; rfl)
  case y40_41 => (refine Or.inl ⟨by rfl, ?_⟩; intro w' hSw; (try dsimp only at hSw); go_simp; (try with_reducible rfl))
  try simp only [Act.put, List.setIfInBounds_toArray, List.set_cons_zero, List.set_cons_succ]
  refine wpAnyH_take (i := 41) (oi := ?o41_42) (v := ?v41_42) ?hi41_42 (by kernel_rfl) (by kernel_rfl) (by kernel_rfl) (fun _ _ _ h => h) ?y41_42 (by assumption) ?r41_42
  case hi41_42 => (simp only [List.getElem?_toArray, List.getElem?_cons_succ]; rfl)
  case y41_42 => (refine Or.inl ⟨by rfl, ?_⟩; intro w' hSw; (try dsimp only at hSw); go_simp; (try with_reducible rfl))
  try simp only [Act.put, List.setIfInBounds_toArray, List.set_cons_zero, List.set_cons_succ]
  refine wpAnyH_take (i := 42) (oi := ?o42_43) (v := ?v42_43) ?hi42_43 (by kernel_rfl) (by kernel_rfl) (by kernel_rfl) (fun _ _ _ h => h) ?y42_43 (by assumption) ?r42_43
  case hi42_43 => (simp only [List.getElem?_toArray, List.getElem?_cons_succ]; rfl)
  case y42_43 => (refine Or.inl ⟨by rfl, ?_⟩; intro w' hSw; (try dsimp only at hSw); go_simp; (try with_reducible rfl))
  try simp only [Act.put, List.setIfInBounds_toArray, List.set_cons_zero, List.set_cons_succ]
  refine wpAnyH_take (i := 43) (oi := ?o43_44) (v := bp y) ?hi43_44 (by kernel_rfl) (by kernel_rfl) (by kernel_rfl) (fun _ _ _ h => h) ?y43_44 (by assumption) ?r43_44
  case hi43_44 => (simp only [List.getElem?_toArray, List.getElem?_cons_succ]; rfl)
  case y43_44 => (refine yields_bp rfl _ rfl (m6) rfl y ?_; intro w' hS; exact hS.2.2.2.1)
  try simp only [Act.put, List.setIfInBounds_toArray, List.set_cons_zero, List.set_cons_succ]
  refine wpAnyH_take (i := 44) (oi := ?o44_45) (v := bp y) ?hi44_45 (by kernel_rfl) (by kernel_rfl) (by kernel_rfl) (fun _ _ _ h => h) ?y44_45 (by assumption) ?r44_45
  case hi44_45 => (simp only [List.getElem?_toArray, List.getElem?_cons_succ]; rfl)
  case y44_45 => (refine yields_bp rfl _ rfl (m7) rfl y ?_; intro w' hS; exact hS.2.2.2.2.1)
  try simp only [Act.put, List.setIfInBounds_toArray, List.set_cons_zero, List.set_cons_succ]
  refine wpAnyH_take (i := 45) (oi := ?o45_46) (v := ?v45_46) ?hi45_46 (by kernel_rfl) (by kernel_rfl) (by kernel_rfl) (fun _ _ _ h => h) ?y45_46 (by assumption) ?r45_46
  case hi45_46 => (simp only [List.getElem?_toArray, List.getElem?_cons_succ]; rfl)
  case y45_46 => (refine Or.inl ⟨by rfl, ?_⟩; intro w' hSw; (try dsimp only at hSw); go_simp; (try with_reducible rfl))
  try simp only [Act.put, List.setIfInBounds_toArray, List.set_cons_zero, List.set_cons_succ]
  refine wpAnyH_take (i := 46) (oi := ?o46_47) (v := ?v46_47) ?hi46_47 (by kernel_rfl) (by kernel_rfl) (by kernel_rfl) (fun _ _ _ h => h) ?y46_47 (by assumption) ?r46_47
  case hi46_47 => (simp only [List.getElem?_toArray, List.getElem?_cons_succ]; rfl)
  case y46_47 => (refine Or.inl ⟨by rfl, ?_⟩; intro w' hSw; (try dsimp only at hSw); go_simp; (try with_reducible rfl))
  try simp only [Act.put, List.setIfInBounds_toArray, List.set_cons_zero, List.set_cons_succ]
  refine wpAnyH_take (i := 47) (oi := ?o47_48) (v := ?v47_48) ?hi47_48 (by kernel_rfl) (by kernel_rfl) (by kernel_rfl) (fun _ _ _ h => h) ?y47_48 (by assumption) ?r47_48
  case hi47_48 => (simp only [List.getElem?_toArray, List.getElem?_cons_succ]; rfl)
  case y47_48 => (refine Or.inl ⟨by rfl, ?_⟩; intro w' hSw; (try dsimp only at hSw); go_simp; (try with_reducible rfl))
  try simp only [Act.put, List.setIfInBounds_toArray, List.set_cons_zero, List.set_cons_succ]
  refine wpAnyH_take (i := 48) (oi := ?o48_49) (v := ?v48_49) ?hi48_49 (by kernel_rfl) (by kernel_rfl) (by kernel_rfl) (fun _ _ _ h => h) ?y48_49 (by assumption) ?r48_49
  case hi48_49 => (simp only [List.getElem?_toArray, List.getElem?_cons_succ]; rfl)
  case y48_49 => (refine Or.inl ⟨by rfl, ?_⟩; intro w' hSw; (try dsimp only at hSw); go_simp; (try with_reducible rfl))
  try simp only [Act.put, List.setIfInBounds_toArray, List.set_cons_zero, List.set_cons_succ]
  refine wpAnyH_take (i := 49) (oi := ?o49_50) (v := ?v49_50) ?hi49_50 (by kernel_rfl) (by kernel_rfl) (by kernel_rfl) (fun _ _ _ h => h) ?y49_50 (by assumption) ?r49_50
  case hi49_50 => (simp only [List.getElem?_toArray, List.getElem?_cons_succ]; rfl)
  case y49_50 => (refine Or.inl ⟨by rfl, ?_⟩; intro w' hSw; (try dsimp only at hSw); go_simp; (try with_reducible rfl))
  try simp only [Act.put, List.setIfInBounds_toArray, List.set_cons_zero, List.set_cons_succ]
  refine wpAnyH_take (i := 50) (oi := ?o50_51) (v := ?v50_51) ?hi50_51 (by kernel_rfl) (by kernel_rfl) (by kernel_rfl) (fun _ _ _ h => h) ?y50_51 (by assumption) ?r50_51
  case hi50_51 => (simp only [List.getElem?_toArray, List.getElem?_cons_succ]; rfl)
  case y50_51 => (refine Or.inl ⟨by rfl, ?_⟩; intro w' hSw; (try dsimp only at hSw); go_simp; (try with_reducible rfl))
  try simp only [Act.put, List.setIfInBounds_toArray, List.set_cons_zero, List.set_cons_succ]
  refine wpAnyH_take (i := 51) (oi := ?o51_52) (v := ?v51_52) ?hi51_52 (by kernel_rfl) (by kernel_rfl) (by kernel_rfl) (fun _ _ _ h => h) ?y51_52 (by assumption) ?r51_52
  case hi51_52 => (simp only [List.getElem?_toArray, List.getElem?_cons_succ]; rfl)
  case y51_52 => (refine Or.inl ⟨by rfl, ?_⟩; intro w' hSw; (try dsimp only at hSw); go_simp; (try with_reducible rfl))
  try simp only [Act.put, List.setIfInBounds_toArray, List.set_cons_zero, List.set_cons_succ]
  refine wpAnyH_take (i := 52) (oi := ?o52_53) (v := ?v52_53) ?hi52_53 (by kernel_rfl) (by kernel_rfl) (by kernel_rfl) (fun _ _ _ h => h) ?y52_53 (by assumption) ?r52_53
  case hi52_53 => (simp only [List.getElem?_toArray, List.getElem?_cons_succ]; rfl)
  case y52_53 => (refine Or.inl ⟨by rfl, ?_⟩; intro w' hSw; (try dsimp only at hSw); go_simp; (try with_reducible rfl))
  try simp only [Act.put, List.setIfInBounds_toArray, List.set_cons_zero, List.set_cons_succ]
  refine wpAnyH_ready (rs := [53]) (by kernel_rfl) (by simp) ?_
  refine AllReadyH.cons (o := ?o53_54) ?hi53_54 ?hst53_54 AllReadyH.nil
  case hi53_54 => (simp only [List.getElem?_toArray, List.getElem?_cons_succ]; rfl)
  intro K hK
  go_simp
  (go_at_call 6; (with_reducible refine (awake_any _).mono ?_); rintro e w13 ⟨rfl, hb13⟩)
  go_wp2_with fail
  refine hK.out _ _ ⟨Bx.Blk.keep hHeld.1 hb13, Bx.Blk.keep hHeld.2.1 hb13, Bx.Blk.keep hHeld.2.2.1 hb13, Bx.Blk.keep hHeld.2.2.2.1 hb13, Bx.Blk.keep hHeld.2.2.2.2.1 hb13, Bx.keep_cell hb13 hHeld.2.2.2.2.2.1, Bx.keep_cell hb13 hHeld.2.2.2.2.2.2.1, Bx.keep_cell hb13 hHeld.2.2.2.2.2.2.2.1, Bx.keep_cell hb13 hHeld.2.2.2.2.2.2.2.2.1, Bx.keep_cell hb13 hHeld.2.2.2.2.2.2.2.2.2.1, Bx.keep_cell hb13 hHeld.2.2.2.2.2.2.2.2.2.2.1, Bx.keep_cell hb13 hHeld.2.2.2.2.2.2.2.2.2.2.2.1, Bx.keep_cell hb13 hHeld.2.2.2.2.2.2.2.2.2.2.2.2.1, Bx.keep_cell hb13 hHeld.2.2.2.2.2.2.2.2.2.2.2.2.2.1, Bx.keep_cell hb13 hHeld.2.2.2.2.2.2.2.2.2.2.2.2.2.2.1, Bx.keep_cell hb13 hHeld.2.2.2.2.2.2.2.2.2.2.2.2.2.2.2.1, Bx.keep_cell hb13 hHeld.2.2.2.2.2.2.2.2.2.2.2.2.2.2.2.2.1, Bx.keep_cell hb13 hHeld.2.2.2.2.2.2.2.2.2.2.2.2.2.2.2.2.2.1, Bx.keep_cell hb13 hHeld.2.2.2.2.2.2.2.2.2.2.2.2.2.2.2.2.2.2⟩ (fun hNew => ?_)
  clear hHeld
  have hHeld := hNew
  clear hNew hK K
  replace bel := Bx.then_below bel hb13
  refine wpAnyH_take (i := 54) (oi := ?o54_55) (v := ?v54_55) ?hi54_55 (by kernel_rfl) (by kernel_rfl) (by kernel_rfl) (fun _ _ _ h => h) ?y54_55 (by assumption) ?r54_55
  case hi54_55 => (simp only [List.getElem?_toArray, List.getElem?_cons_succ]; rfl)
  case y54_55 => (refine Or.inl ⟨by rfl, ?_⟩; intro w' hSw; (try dsimp only at hSw); go_simp; (try with_reducible rfl))
  try simp only [Act.put, List.setIfInBounds_toArray, List.set_cons_zero, List.set_cons_succ]
  refine wpAnyH_take (i := 55) (oi := ?o55_56) (v := ?v55_56) ?hi55_56 (by kernel_rfl) (by kernel_rfl) (by kernel_rfl) (fun _ _ _ h => h) ?y55_56 (by assumption) ?r55_56
  case hi55_56 => (simp only [List.getElem?_toArray, List.getElem?_cons_succ]; rfl)
  case y55_56 => (refine Or.inl ⟨by rfl, ?_⟩; intro w' hSw; (try dsimp only at hSw); go_simp; (try with_reducible rfl))
  try simp only [Act.put, List.setIfInBounds_toArray, List.set_cons_zero, List.set_cons_succ]
  refine wpAnyH_done (by kernel_rfl) ?_ _
  refine NoPanic.normal ?_
  clear hHeld B0 B1 B2 B3 B4 B5 B6 B7 c1_0 c1_1 c1_2 c1_3 c1_4 c1_5 c1_6 c4_0 c4_1 c4_2 c4_3 c4_4 c4_5 c4_6 c5_0 c5_1 c5_2 c5_3 c5_4 c5_5 c5_6
  go_wp2_with fail
  go_ret
  exact ⟨rfl, bel⟩

end Bpd
end Go.Proofs.Ytiokkahldhmhlaa
