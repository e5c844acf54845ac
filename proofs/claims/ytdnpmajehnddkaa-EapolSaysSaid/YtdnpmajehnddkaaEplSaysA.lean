/-
  The law EapolSays, way by way.
-/
import Derived.Test.YtdnpmajehnddkaaEplAwake
import Derived.Test.YtdnpmajehnddkaaEplOpen
import Derived.Test.YtdnpmajehnddkaaRows
import Derived.Test.YtdnpmajehnddkaaBox
namespace Go.Proofs.Ytdnpmajehnddkaa
open Go.RowKit
namespace Epl
open Oct Mac Eth

set_option maxHeartbeats 1000000 in
theorem says_big1 (v t : Int) (b S : ByteArray) (x y : Int) (w : World) (hz : 3000 < b.size) :
    Calls Try.prog 3 #[ep v t b, .string S, .agg #[.int .u64 x, .int .u64 y]] w fun e w' => e = .returned (.bool true) ∧ Below w.heap.size w w' := by
  go_enter Try.func3, Try.ntmps3
  go_wp2_with fail
  have bel := Bx.bel_refl w
  have B0 := Lib.hid (Bx.Blk.new w [.int .i64 v, .int .i64 t, .string b] 23)
  replace bel := Bx.bel_box bel (Obj.cells #[.int .i64 v, .int .i64 t, .string b] 23)
  have c0_0 := B0.out.at 0 rfl
  have c0_1 := B0.out.at 1 rfl
  have c0_2 := B0.out.at 2 rfl
  replace B0 := Lib.hid (B0.out.more (Obj.cells #[.int .u64 x, .int .u64 y] 26))
  have B1 := Lib.hid (Bx.Blk.new_at (W := (w.alloc (Obj.cells #[.int .i64 v, .int .i64 t, .string b] 23))) (k := w.heap.size + 1) [.int .u64 x, .int .u64 y] 26 (by simp))
  replace bel := Bx.bel_box bel (Obj.cells #[.int .u64 x, .int .u64 y] 26)
  clear c0_0 c0_1 c0_2
  have c0_0 := B0.out.at 0 rfl
  have c0_1 := B0.out.at 1 rfl
  have c0_2 := B0.out.at 2 rfl
  have c1_0 := B1.out.at 0 rfl
  have c1_1 := B1.out.at 1 rfl
  refine (awake_any _).mono ?_; rintro e w1 ⟨rfl, hb1⟩
  replace bel := Bx.then_below bel hb1
  replace B0 := Lib.hid (B0.out.keep hb1)
  replace B1 := Lib.hid (B1.out.keep hb1)
  clear hb1
  clear c0_0 c0_1 c0_2 c1_0 c1_1
  have c0_0 := B0.out.at 0 rfl
  have c0_1 := B0.out.at 1 rfl
  have c0_2 := B0.out.at 2 rfl
  have c1_0 := B1.out.at 0 rfl
  have c1_1 := B1.out.at 1 rfl
  go_wp2_with fail
  go_ret
  exact ⟨rfl, bel⟩

set_option maxHeartbeats 1000000 in
theorem says_big2 (v t : Int) (b S : ByteArray) (x y : Int) (w : World) (hz : b.size ≤ 3000) (hS : 3000 < S.size) :
    Calls Try.prog 3 #[ep v t b, .string S, .agg #[.int .u64 x, .int .u64 y]] w fun e w' => e = .returned (.bool true) ∧ Below w.heap.size w w' := by
  go_enter Try.func3, Try.ntmps3
  go_wp2_with fail
  have bel := Bx.bel_refl w
  have B0 := Lib.hid (Bx.Blk.new w [.int .i64 v, .int .i64 t, .string b] 23)
  replace bel := Bx.bel_box bel (Obj.cells #[.int .i64 v, .int .i64 t, .string b] 23)
  have c0_0 := B0.out.at 0 rfl
  have c0_1 := B0.out.at 1 rfl
  have c0_2 := B0.out.at 2 rfl
  replace B0 := Lib.hid (B0.out.more (Obj.cells #[.int .u64 x, .int .u64 y] 26))
  have B1 := Lib.hid (Bx.Blk.new_at (W := (w.alloc (Obj.cells #[.int .i64 v, .int .i64 t, .string b] 23))) (k := w.heap.size + 1) [.int .u64 x, .int .u64 y] 26 (by simp))
  replace bel := Bx.bel_box bel (Obj.cells #[.int .u64 x, .int .u64 y] 26)
  clear c0_0 c0_1 c0_2
  have c0_0 := B0.out.at 0 rfl
  have c0_1 := B0.out.at 1 rfl
  have c0_2 := B0.out.at 2 rfl
  have c1_0 := B1.out.at 0 rfl
  have c1_1 := B1.out.at 1 rfl
  refine (awake_any _).mono ?_; rintro e w1 ⟨rfl, hb1⟩
  replace bel := Bx.then_below bel hb1
  replace B0 := Lib.hid (B0.out.keep hb1)
  replace B1 := Lib.hid (B1.out.keep hb1)
  clear hb1
  clear c0_0 c0_1 c0_2 c1_0 c1_1
  have c0_0 := B0.out.at 0 rfl
  have c0_1 := B0.out.at 1 rfl
  have c0_2 := B0.out.at 2 rfl
  have c1_0 := B1.out.at 0 rfl
  have c1_1 := B1.out.at 1 rfl
  go_wp2_with fail
  go_ret
  exact ⟨rfl, bel⟩

set_option maxRecDepth 100000 in
set_option maxHeartbeats 4000000 in
theorem says_all (v t : Int) (b S : ByteArray) (x y : Int) (A : ByteArray) (E : Int) (V T : Int) (B : ByteArray) (E2 : Int) (fd fs : Int) (fg : Bool) (fp fv ft : Int) (fb : ByteArray) (E3 : Int) (Q : Bool) (w : World) (hz : b.size ≤ 3000) (hS : S.size ≤ 3000)
    (HB1 : Hid (∀ w, Calls Try.prog 7 #[ep v t b] w fun e w' => e = .returned (.tuple #[.string A, .int .i64 E]) ∧ Below w.heap.size w w'))
    (HB2 : Hid (∀ w, Calls Try.prog 8 #[ep v t b] w fun e w' => e = .returned (.tuple #[.string A, .int .i64 E]) ∧ Below w.heap.size w w'))
    (HS1 : Hid (∀ w, Calls Try.prog 9 #[.string S] w fun e w' => e = .returned (.tuple #[ep V T B, .int .i64 E2]) ∧ Below w.heap.size w w'))
    (HS2 : Hid (∀ w, Calls Try.prog 10 #[.string S] w fun e w' => e = .returned (.tuple #[ep V T B, .int .i64 E2]) ∧ Below w.heap.size w w'))
    (HW1 : Hid (∀ w, Calls Try.prog 11 #[.int .u64 x, .int .u64 y, ep v t b] w fun e w' => e = .returned (.tuple #[fr fd fs fg fp fv ft fb, .int .i64 E3]) ∧ Below w.heap.size w w'))
    (HW2 : Hid (∀ w, Calls Try.prog 12 #[.int .u64 x, .int .u64 y, ep v t b] w fun e w' => e = .returned (.tuple #[fr fd fs fg fp fv ft fb, .int .i64 E3]) ∧ Below w.heap.size w w'))
    (HR1 : Hid (∀ w, Calls Try.prog 13 #[ep v t b] w fun e w' => e = .returned (.bool Q) ∧ Below w.heap.size w w'))
    (HR2 : Hid (∀ w, Calls Try.prog 14 #[ep v t b] w fun e w' => e = .returned (.bool Q) ∧ Below w.heap.size w w')) :
    Calls Try.prog 3 #[ep v t b, .string S, .agg #[.int .u64 x, .int .u64 y]] w fun e w' => e = .returned (.bool true) ∧ Below w.heap.size w w' := by
  have x0 : (E == E) = true := by simp
  have x1 : (E2 == E2) = true := by simp
  have x2 : (E3 == E3) = true := by simp
  have x3 : (V == V) = true := by simp
  have x4 : (T == T) = true := by simp
  have x5 : (fd == fd) = true := by simp
  have x6 : (fs == fs) = true := by simp
  have x7 : (fp == fp) = true := by simp
  have x8 : (fv == fv) = true := by simp
  have x9 : (ft == ft) = true := by simp
  have x10 : (Q == Q) = true := by simp
  have x11 : (fg == fg) = true := by simp
  have y0 : (A.toList == A.toList) = true := by simp
  have y1 : (B.toList == B.toList) = true := by simp
  have y2 : (fb.toList == fb.toList) = true := by simp
  go_enter Try.func3, Try.ntmps3
  go_wp2_with fail
  have bel := Bx.bel_refl w
  have B0 := Lib.hid (Bx.Blk.new w [.int .i64 v, .int .i64 t, .string b] 23)
  replace bel := Bx.bel_box bel (Obj.cells #[.int .i64 v, .int .i64 t, .string b] 23)
  have c0_0 := B0.out.at 0 rfl
  have c0_1 := B0.out.at 1 rfl
  have c0_2 := B0.out.at 2 rfl
  replace B0 := Lib.hid (B0.out.more (Obj.cells #[.int .u64 x, .int .u64 y] 26))
  have B1 := Lib.hid (Bx.Blk.new_at (W := (w.alloc (Obj.cells #[.int .i64 v, .int .i64 t, .string b] 23))) (k := w.heap.size + 1) [.int .u64 x, .int .u64 y] 26 (by simp))
  replace bel := Bx.bel_box bel (Obj.cells #[.int .u64 x, .int .u64 y] 26)
  clear c0_0 c0_1 c0_2
  have c0_0 := B0.out.at 0 rfl
  have c0_1 := B0.out.at 1 rfl
  have c0_2 := B0.out.at 2 rfl
  have c1_0 := B1.out.at 0 rfl
  have c1_1 := B1.out.at 1 rfl
  refine (HB1.out _).mono ?_; rintro e w1 ⟨rfl, hb1⟩
  replace bel := Bx.then_below bel hb1
  replace B0 := Lib.hid (B0.out.keep hb1)
  replace B1 := Lib.hid (B1.out.keep hb1)
  clear hb1
  clear c0_0 c0_1 c0_2 c1_0 c1_1
  have c0_0 := B0.out.at 0 rfl
  have c0_1 := B0.out.at 1 rfl
  have c0_2 := B0.out.at 2 rfl
  have c1_0 := B1.out.at 0 rfl
  have c1_1 := B1.out.at 1 rfl
  go_wp2_with fail
  refine (HB2.out _).mono ?_; rintro e w2 ⟨rfl, hb2⟩
  replace bel := Bx.then_below bel hb2
  replace B0 := Lib.hid (B0.out.keep hb2)
  replace B1 := Lib.hid (B1.out.keep hb2)
  clear hb2
  clear c0_0 c0_1 c0_2 c1_0 c1_1
  have c0_0 := B0.out.at 0 rfl
  have c0_1 := B0.out.at 1 rfl
  have c0_2 := B0.out.at 2 rfl
  have c1_0 := B1.out.at 0 rfl
  have c1_1 := B1.out.at 1 rfl
  go_wp2_with fail
  refine (HS1.out _).mono ?_; rintro e w3 ⟨rfl, hb3⟩
  replace bel := Bx.then_below bel hb3
  replace B0 := Lib.hid (B0.out.keep hb3)
  replace B1 := Lib.hid (B1.out.keep hb3)
  clear hb3
  replace B0 := Lib.hid (B0.out.more (Obj.cells #[.int .i64 V, .int .i64 T, .string B] 23))
  replace B1 := Lib.hid (B1.out.more (Obj.cells #[.int .i64 V, .int .i64 T, .string B] 23))
  have B2 := Lib.hid (Bx.Blk.new w3 [.int .i64 V, .int .i64 T, .string B] 23)
  replace bel := Bx.bel_box bel (Obj.cells #[.int .i64 V, .int .i64 T, .string B] 23)
  clear c0_0 c0_1 c0_2 c1_0 c1_1
  have c0_0 := B0.out.at 0 rfl
  have c0_1 := B0.out.at 1 rfl
  have c0_2 := B0.out.at 2 rfl
  have c1_0 := B1.out.at 0 rfl
  have c1_1 := B1.out.at 1 rfl
  have c2_0 := B2.out.at 0 rfl
  have c2_1 := B2.out.at 1 rfl
  have c2_2 := B2.out.at 2 rfl
  go_wp2_with fail
  refine (HS2.out _).mono ?_; rintro e w4 ⟨rfl, hb4⟩
  replace bel := Bx.then_below bel hb4
  replace B0 := Lib.hid (B0.out.keep hb4)
  replace B1 := Lib.hid (B1.out.keep hb4)
  replace B2 := Lib.hid (B2.out.keep hb4)
  clear hb4
  replace B0 := Lib.hid (B0.out.more (Obj.cells #[.int .i64 V, .int .i64 T, .string B] 23))
  replace B1 := Lib.hid (B1.out.more (Obj.cells #[.int .i64 V, .int .i64 T, .string B] 23))
  replace B2 := Lib.hid (B2.out.more (Obj.cells #[.int .i64 V, .int .i64 T, .string B] 23))
  have B3 := Lib.hid (Bx.Blk.new w4 [.int .i64 V, .int .i64 T, .string B] 23)
  replace bel := Bx.bel_box bel (Obj.cells #[.int .i64 V, .int .i64 T, .string B] 23)
  clear c0_0 c0_1 c0_2 c1_0 c1_1 c2_0 c2_1 c2_2
  have c0_0 := B0.out.at 0 rfl
  have c0_1 := B0.out.at 1 rfl
  have c0_2 := B0.out.at 2 rfl
  have c1_0 := B1.out.at 0 rfl
  have c1_1 := B1.out.at 1 rfl
  have c2_0 := B2.out.at 0 rfl
  have c2_1 := B2.out.at 1 rfl
  have c2_2 := B2.out.at 2 rfl
  have c3_0 := B3.out.at 0 rfl
  have c3_1 := B3.out.at 1 rfl
  have c3_2 := B3.out.at 2 rfl
  go_wp2_with fail
  refine (HW1.out _).mono ?_; rintro e w5 ⟨rfl, hb5⟩
  replace bel := Bx.then_below bel hb5
  replace B0 := Lib.hid (B0.out.keep hb5)
  replace B1 := Lib.hid (B1.out.keep hb5)
  replace B2 := Lib.hid (B2.out.keep hb5)
  replace B3 := Lib.hid (B3.out.keep hb5)
  clear hb5
  replace B0 := Lib.hid (B0.out.more (Obj.cells #[.int .u64 fd, .int .u64 fs, .bool fg, .int .i64 fp, .int .i64 fv, .int .i64 ft, .string fb] 34))
  replace B1 := Lib.hid (B1.out.more (Obj.cells #[.int .u64 fd, .int .u64 fs, .bool fg, .int .i64 fp, .int .i64 fv, .int .i64 ft, .string fb] 34))
  replace B2 := Lib.hid (B2.out.more (Obj.cells #[.int .u64 fd, .int .u64 fs, .bool fg, .int .i64 fp, .int .i64 fv, .int .i64 ft, .string fb] 34))
  replace B3 := Lib.hid (B3.out.more (Obj.cells #[.int .u64 fd, .int .u64 fs, .bool fg, .int .i64 fp, .int .i64 fv, .int .i64 ft, .string fb] 34))
  have B4 := Lib.hid (Bx.Blk.new w5 [.int .u64 fd, .int .u64 fs, .bool fg, .int .i64 fp, .int .i64 fv, .int .i64 ft, .string fb] 34)
  replace bel := Bx.bel_box bel (Obj.cells #[.int .u64 fd, .int .u64 fs, .bool fg, .int .i64 fp, .int .i64 fv, .int .i64 ft, .string fb] 34)
  clear c0_0 c0_1 c0_2 c1_0 c1_1 c2_0 c2_1 c2_2 c3_0 c3_1 c3_2
  have c0_0 := B0.out.at 0 rfl
  have c0_1 := B0.out.at 1 rfl
  have c0_2 := B0.out.at 2 rfl
  have c1_0 := B1.out.at 0 rfl
  have c1_1 := B1.out.at 1 rfl
  have c2_0 := B2.out.at 0 rfl
  have c2_1 := B2.out.at 1 rfl
  have c2_2 := B2.out.at 2 rfl
  have c3_0 := B3.out.at 0 rfl
  have c3_1 := B3.out.at 1 rfl
  have c3_2 := B3.out.at 2 rfl
  have c4_0 := B4.out.at 0 rfl
  have c4_1 := B4.out.at 1 rfl
  have c4_2 := B4.out.at 2 rfl
  have c4_3 := B4.out.at 3 rfl
  have c4_4 := B4.out.at 4 rfl
  have c4_5 := B4.out.at 5 rfl
  have c4_6 := B4.out.at 6 rfl
  go_wp2_with fail
  refine (HW2.out _).mono ?_; rintro e w6 ⟨rfl, hb6⟩
  replace bel := Bx.then_below bel hb6
  replace B0 := Lib.hid (B0.out.keep hb6)
  replace B1 := Lib.hid (B1.out.keep hb6)
  replace B2 := Lib.hid (B2.out.keep hb6)
  replace B3 := Lib.hid (B3.out.keep hb6)
  replace B4 := Lib.hid (B4.out.keep hb6)
  clear hb6
  replace B0 := Lib.hid (B0.out.more (Obj.cells #[.int .u64 fd, .int .u64 fs, .bool fg, .int .i64 fp, .int .i64 fv, .int .i64 ft, .string fb] 34))
  replace B1 := Lib.hid (B1.out.more (Obj.cells #[.int .u64 fd, .int .u64 fs, .bool fg, .int .i64 fp, .int .i64 fv, .int .i64 ft, .string fb] 34))
  replace B2 := Lib.hid (B2.out.more (Obj.cells #[.int .u64 fd, .int .u64 fs, .bool fg, .int .i64 fp, .int .i64 fv, .int .i64 ft, .string fb] 34))
  replace B3 := Lib.hid (B3.out.more (Obj.cells #[.int .u64 fd, .int .u64 fs, .bool fg, .int .i64 fp, .int .i64 fv, .int .i64 ft, .string fb] 34))
  replace B4 := Lib.hid (B4.out.more (Obj.cells #[.int .u64 fd, .int .u64 fs, .bool fg, .int .i64 fp, .int .i64 fv, .int .i64 ft, .string fb] 34))
  have B5 := Lib.hid (Bx.Blk.new w6 [.int .u64 fd, .int .u64 fs, .bool fg, .int .i64 fp, .int .i64 fv, .int .i64 ft, .string fb] 34)
  replace bel := Bx.bel_box bel (Obj.cells #[.int .u64 fd, .int .u64 fs, .bool fg, .int .i64 fp, .int .i64 fv, .int .i64 ft, .string fb] 34)
  clear c0_0 c0_1 c0_2 c1_0 c1_1 c2_0 c2_1 c2_2 c3_0 c3_1 c3_2 c4_0 c4_1 c4_2 c4_3 c4_4 c4_5 c4_6
  have c0_0 := B0.out.at 0 rfl
  have c0_1 := B0.out.at 1 rfl
  have c0_2 := B0.out.at 2 rfl
  have c1_0 := B1.out.at 0 rfl
  have c1_1 := B1.out.at 1 rfl
  have c2_0 := B2.out.at 0 rfl
  have c2_1 := B2.out.at 1 rfl
  have c2_2 := B2.out.at 2 rfl
  have c3_0 := B3.out.at 0 rfl
  have c3_1 := B3.out.at 1 rfl
  have c3_2 := B3.out.at 2 rfl
  have c4_0 := B4.out.at 0 rfl
  have c4_1 := B4.out.at 1 rfl
  have c4_2 := B4.out.at 2 rfl
  have c4_3 := B4.out.at 3 rfl
  have c4_4 := B4.out.at 4 rfl
  have c4_5 := B4.out.at 5 rfl
  have c4_6 := B4.out.at 6 rfl
  have c5_0 := B5.out.at 0 rfl
  have c5_1 := B5.out.at 1 rfl
  have c5_2 := B5.out.at 2 rfl
  have c5_3 := B5.out.at 3 rfl
  have c5_4 := B5.out.at 4 rfl
  have c5_5 := B5.out.at 5 rfl
  have c5_6 := B5.out.at 6 rfl
  go_wp2_with fail
  generalize w3.heap.size = m2 at *
  generalize w4.heap.size = m3 at *
  generalize w5.heap.size = m4 at *
  generalize w6.heap.size = m5 at *
  generalize w6.alloc (Obj.cells #[.int .u64 fd, .int .u64 fs, .bool fg, .int .i64 fp, .int .i64 fv, .int .i64 ft, .string fb] 34) = W0 at *
  go_region_held3 (fun w' => w'.cell? ⟨w.heap.size, 0, none⟩ = some (.int .i64 v) ∧ w'.cell? ⟨w.heap.size, 1, none⟩ = some (.int .i64 t) ∧ w'.cell? ⟨w.heap.size, 2, none⟩ = some (.string b) ∧ w'.cell? ⟨w.heap.size + 1, 0, none⟩ = some (.int .u64 x) ∧ w'.cell? ⟨w.heap.size + 1, 1, none⟩ = some (.int .u64 y) ∧ w'.cell? ⟨m2, 0, none⟩ = some (.int .i64 V) ∧ w'.cell? ⟨m2, 1, none⟩ = some (.int .i64 T) ∧ w'.cell? ⟨m2, 2, none⟩ = some (.string B) ∧ w'.cell? ⟨m3, 0, none⟩ = some (.int .i64 V) ∧ w'.cell? ⟨m3, 1, none⟩ = some (.int .i64 T) ∧ w'.cell? ⟨m3, 2, none⟩ = some (.string B) ∧ w'.cell? ⟨m4, 0, none⟩ = some (.int .u64 fd) ∧ w'.cell? ⟨m4, 1, none⟩ = some (.int .u64 fs) ∧ w'.cell? ⟨m4, 2, none⟩ = some (.bool fg) ∧ w'.cell? ⟨m4, 3, none⟩ = some (.int .i64 fp) ∧ w'.cell? ⟨m4, 4, none⟩ = some (.int .i64 fv) ∧ w'.cell? ⟨m4, 5, none⟩ = some (.int .i64 ft) ∧ w'.cell? ⟨m4, 6, none⟩ = some (.string fb) ∧ w'.cell? ⟨m5, 0, none⟩ = some (.int .u64 fd) ∧ w'.cell? ⟨m5, 1, none⟩ = some (.int .u64 fs) ∧ w'.cell? ⟨m5, 2, none⟩ = some (.bool fg) ∧ w'.cell? ⟨m5, 3, none⟩ = some (.int .i64 fp) ∧ w'.cell? ⟨m5, 4, none⟩ = some (.int .i64 fv) ∧ w'.cell? ⟨m5, 5, none⟩ = some (.int .i64 ft) ∧ w'.cell? ⟨m5, 6, none⟩ = some (.string fb))
    (first | go_keep | (go_split_ands; exact ⟨Bx.keep_cell (by assumption) (by assumption), Bx.keep_cell (by assumption) (by assumption), Bx.keep_cell (by assumption) (by assumption), Bx.keep_cell (by assumption) (by assumption), Bx.keep_cell (by assumption) (by assumption), Bx.keep_cell (by assumption) (by assumption), Bx.keep_cell (by assumption) (by assumption), Bx.keep_cell (by assumption) (by assumption), Bx.keep_cell (by assumption) (by assumption), Bx.keep_cell (by assumption) (by assumption), Bx.keep_cell (by assumption) (by assumption), Bx.keep_cell (by assumption) (by assumption), Bx.keep_cell (by assumption) (by assumption), Bx.keep_cell (by assumption) (by assumption), Bx.keep_cell (by assumption) (by assumption), Bx.keep_cell (by assumption) (by assumption), Bx.keep_cell (by assumption) (by assumption), Bx.keep_cell (by assumption) (by assumption), Bx.keep_cell (by assumption) (by assumption), Bx.keep_cell (by assumption) (by assumption), Bx.keep_cell (by assumption) (by assumption), Bx.keep_cell (by assumption) (by assumption), Bx.keep_cell (by assumption) (by assumption), Bx.keep_cell (by assumption) (by assumption), Bx.keep_cell (by assumption) (by assumption)⟩))
    (first | (go_at_call 13; with_reducible refine (HR1.out _).mono ?_; rintro e w7 ⟨rfl, hb7⟩) | (go_at_call 14; with_reducible refine (HR2.out _).mono ?_; rintro e w8 ⟨rfl, hb8⟩) | (go_at_call 15; with_reducible refine (start_any _).mono ?_; rintro e w9 ⟨rfl, hb9⟩) | (go_at_call 16; with_reducible refine (rstart_any _).mono ?_; rintro e w10 ⟨rfl, hb10⟩) | (go_at_call 6; with_reducible refine (awake_any _).mono ?_; rintro e w11 ⟨rfl, hb11⟩))
  replace bel := Bx.bel_drew bel hb7
  replace bel := Bx.then_below bel hb8
  replace bel := Bx.then_below bel hb9
  replace bel := Bx.then_below bel hb10
  replace bel := Bx.then_below bel hb11
  clear hb7 hb8 hb9 hb10 hb11
  go_wp2
  go_ret
  exact ⟨rfl, bel⟩

end Epl
end Go.Proofs.Ytdnpmajehnddkaa
