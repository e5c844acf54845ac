/-
  What the document's answer of Read reads of any text, way by way; and that it changes nothing that was there.
-/
import Derived.Test.YtiokkahldhmhlaaBpG
import Derived.Test.YtiokkahldhmhlaaOctRef
namespace Go.Proofs.Ytiokkahldhmhlaa
open Go.RowKit
namespace Bpd
open Oct Mac Eth Epl

theorem num_any (s : ByteArray) (a k : Int) (w : World) (hs : s.size ≤ 9223372036854775807) :
    Calls Try.prog 27 #[.string s, .int .i64 a, .int .i64 k] w fun e w' => e = .returned (.int .u64 (getR s a k).1) ∧ w = w' := by
  have HG := Lib.hid (fun w => rget_any s a k w hs)
  go_enter Try.func27, Try.ntmps27
  go_wp2_with fail
  refine (HG.out _).mono ?_; rintro e w' ⟨rfl, rfl⟩
  go_wp2_with fail
  go_ret
  exact ⟨rfl, rfl⟩

theorem pos_bit0 (F : Nat) (hF : F < 256) : decide (0 < bits BinOp.and IntKind.u64 (F : Int) 1) = bitB F 0 := by
  have h : ∀ m : Fin 256, decide (0 < bits BinOp.and IntKind.u64 (m.1 : Int) 1) = bitB m.1 0 := by decide +kernel
  exact h ⟨F, hF⟩

theorem pos_bit1 (F : Nat) (hF : F < 256) : decide (0 < bits BinOp.and IntKind.u64 (F : Int) 2) = bitB F 1 := by
  have h : ∀ m : Fin 256, decide (0 < bits BinOp.and IntKind.u64 (m.1 : Int) 2) = bitB m.1 1 := by decide +kernel
  exact h ⟨F, hF⟩

theorem pos_bit2 (F : Nat) (hF : F < 256) : decide (0 < bits BinOp.and IntKind.u64 (F : Int) 4) = bitB F 2 := by
  have h : ∀ m : Fin 256, decide (0 < bits BinOp.and IntKind.u64 (m.1 : Int) 4) = bitB m.1 2 := by decide +kernel
  exact h ⟨F, hF⟩

theorem pos_bit3 (F : Nat) (hF : F < 256) : decide (0 < bits BinOp.and IntKind.u64 (F : Int) 8) = bitB F 3 := by
  have h : ∀ m : Fin 256, decide (0 < bits BinOp.and IntKind.u64 (m.1 : Int) 8) = bitB m.1 3 := by decide +kernel
  exact h ⟨F, hF⟩

theorem pos_bit4 (F : Nat) (hF : F < 256) : decide (0 < bits BinOp.and IntKind.u64 (F : Int) 16) = bitB F 4 := by
  have h : ∀ m : Fin 256, decide (0 < bits BinOp.and IntKind.u64 (m.1 : Int) 16) = bitB m.1 4 := by decide +kernel
  exact h ⟨F, hF⟩

theorem pos_bit5 (F : Nat) (hF : F < 256) : decide (0 < bits BinOp.and IntKind.u64 (F : Int) 32) = bitB F 5 := by
  have h : ∀ m : Fin 256, decide (0 < bits BinOp.and IntKind.u64 (m.1 : Int) 32) = bitB m.1 5 := by decide +kernel
  exact h ⟨F, hF⟩

theorem pos_bit6 (F : Nat) (hF : F < 256) : decide (0 < bits BinOp.and IntKind.u64 (F : Int) 64) = bitB F 6 := by
  have h : ∀ m : Fin 256, decide (0 < bits BinOp.and IntKind.u64 (m.1 : Int) 64) = bitB m.1 6 := by decide +kernel
  exact h ⟨F, hF⟩

theorem pos_bit7 (F : Nat) (hF : F < 256) : decide (0 < bits BinOp.and IntKind.u64 (F : Int) 128) = bitB F 7 := by
  have h : ∀ m : Fin 256, decide (0 < bits BinOp.and IntKind.u64 (m.1 : Int) 128) = bitB m.1 7 := by decide +kernel
  exact h ⟨F, hF⟩

theorem role_bits (F : Nat) (hF : F < 256) : IntKind.i64.wrap (bits BinOp.and IntKind.u64 ((F : Int) / 4) 3) = (roleN (bitB F 2) (bitB F 3) : Int) := by
  have h : ∀ m : Fin 256, IntKind.i64.wrap (bits BinOp.and IntKind.u64 ((m.1 : Int) / 4) 3) = (roleN (bitB m.1 2) (bitB m.1 3) : Int) := by decide +kernel
  exact h ⟨F, hF⟩

set_option maxHeartbeats 1000000 in
theorem rread_tiny (s : ByteArray) (w : World) (hs : s.size < 4) :
    Calls Try.prog 10 #[.string s] w fun e w' => e = .returned (.tuple #[bp zeroB, .int .i64 2]) ∧ Below w.heap.size w w' := by
  have bel := Bx.bel_box (Bx.bel_refl w) (Obj.cells (bpl zeroB).toArray 26)
  have O0 := Lib.hid (Bx.Own.new w (bpl zeroB) 26)
  go_enter Try.func10, Try.ntmps10
  go_wp2_with (first | ((with_reducible refine store_at ?_ ?_ w.heap.size zeroB zeroB ?_ ?_ ?_ ?_); (· rfl); (· rfl); (· rfl); (· rfl); (· exact O0.out)))
  have O1 := Lib.hid (O0.out.put (m := bpl zeroB) rfl)
  exact bodyPost_ret (v := .tuple #[bp zeroB, .int .i64 2]) (results_bp Try.results10 rfl rfl O1.out.blk) rfl ⟨rfl, Bx.bel_cells (m := bpl zeroB) bel (Nat.le_refl w.heap.size)⟩

set_option maxHeartbeats 1000000 in
theorem rread_form (s : ByteArray) (N : Int) (w : World) (hs : 4 ≤ s.size) (hz : s.size ≤ 9223372036854775807) (hN : (N != 0) = true)
    (H0 : Hid (∀ w, Calls Try.prog 27 #[.string s, .int .i64 0, .int .i64 2] w fun e w' => e = .returned (.int .u64 N) ∧ w = w')) :
    Calls Try.prog 10 #[.string s] w fun e w' => e = .returned (.tuple #[bp zeroB, .int .i64 3]) ∧ Below w.heap.size w w' := by
  have bel := Bx.bel_box (Bx.bel_refl w) (Obj.cells (bpl zeroB).toArray 26)
  have O0 := Lib.hid (Bx.Own.new w (bpl zeroB) 26)
  go_enter Try.func10, Try.ntmps10
  go_wp2_with fail
  (with_reducible refine (H0.out _).mono ?_); rintro e w' ⟨rfl, rfl⟩
  go_wp2_with (first | ((with_reducible refine store_at ?_ ?_ w.heap.size zeroB zeroB ?_ ?_ ?_ ?_); (· rfl); (· rfl); (· rfl); (· rfl); (· exact O0.out)))
  have O1 := Lib.hid (O0.out.put (m := bpl zeroB) rfl)
  exact bodyPost_ret (v := .tuple #[bp zeroB, .int .i64 3]) (results_bp Try.results10 rfl rfl O1.out.blk) rfl ⟨rfl, Bx.bel_cells (m := bpl zeroB) bel (Nat.le_refl w.heap.size)⟩

set_option maxHeartbeats 1000000 in
theorem rread_change (s : ByteArray) (K : Nat) (w : World) (hs : 4 ≤ s.size) (hz : s.size ≤ 9223372036854775807) (hK : K < 256) (e1 : ((K : Int) == 128) = true)
    (H0 : Hid (∀ w, Calls Try.prog 27 #[.string s, .int .i64 0, .int .i64 2] w fun e w' => e = .returned (.int .u64 0) ∧ w = w'))
    (H3 : Hid (∀ w, Calls Try.prog 27 #[.string s, .int .i64 3, .int .i64 1] w fun e w' => e = .returned (.int .u64 K) ∧ w = w')) :
    Calls Try.prog 10 #[.string s] w fun e w' => e = .returned (.tuple #[bp (⟨K, false, false, 0, false, false, false, false, 0, 0, 0, 0, 0, 0, 0, 0⟩ : Bp), .int .i64 0]) ∧ Below w.heap.size w w' := by
  have q3 : IntKind.i64.wrap (K : Int) = K := IntWalk.i64_in _ (by omega)
  have bel := Bx.bel_box (Bx.bel_refl w) (Obj.cells (bpl zeroB).toArray 26)
  have O0 := Lib.hid (Bx.Own.new w (bpl zeroB) 26)
  go_enter Try.func10, Try.ntmps10
  go_wp2_with fail
  (with_reducible refine (H0.out _).mono ?_); rintro e w' ⟨rfl, rfl⟩
  go_wp2_with fail
  (with_reducible refine (H3.out _).mono ?_); rintro e w' ⟨rfl, rfl⟩
  replace O0 := Lib.hid (O0.out.more (Obj.cells (bpl (⟨K, false, false, 0, false, false, false, false, 0, 0, 0, 0, 0, 0, 0, 0⟩ : Bp)).toArray 26))
  replace bel := Bx.bel_box bel (Obj.cells (bpl (⟨K, false, false, 0, false, false, false, false, 0, 0, 0, 0, 0, 0, 0, 0⟩ : Bp)).toArray 26)
  have B1 := Lib.hid (Bx.Blk.new_at (W := w.alloc (Obj.cells (bpl zeroB).toArray 26)) (k := w.heap.size + 1) (bpl (⟨K, false, false, 0, false, false, false, false, 0, 0, 0, 0, 0, 0, 0, 0⟩ : Bp)) 26 (by simp))
  go_wp2_with (first | ((with_reducible refine new_at ?_ ?_ (w.heap.size + 1) zeroB (⟨K, false, false, 0, false, false, false, false, 0, 0, 0, 0, 0, 0, 0, 0⟩ : Bp) ?_ ?_ (w.alloc (Obj.cells (bpl zeroB).toArray 26)) ?_ ?_ ?_); (· rfl); (· rfl); (· rfl); (· rfl); (· rfl); (· simp)) | ((with_reducible refine load_at ?_ ?_ (w.heap.size + 1) ?_ (⟨K, false, false, 0, false, false, false, false, 0, 0, 0, 0, 0, 0, 0, 0⟩ : Bp) ?_ ?_); (· rfl); (· rfl); (· rfl); (· exact B1.out)) | ((with_reducible refine store_at ?_ ?_ w.heap.size zeroB (⟨K, false, false, 0, false, false, false, false, 0, 0, 0, 0, 0, 0, 0, 0⟩ : Bp) ?_ ?_ ?_ ?_); (· rfl); (· rfl); (· rfl); (· rfl); (· exact O0.out)))
  have O1 := Lib.hid (O0.out.put (m := bpl (⟨K, false, false, 0, false, false, false, false, 0, 0, 0, 0, 0, 0, 0, 0⟩ : Bp)) rfl)
  exact bodyPost_ret (v := .tuple #[bp (⟨K, false, false, 0, false, false, false, false, 0, 0, 0, 0, 0, 0, 0, 0⟩ : Bp), .int .i64 0]) (results_bp Try.results10 rfl rfl O1.out.blk) rfl ⟨rfl, Bx.bel_cells (m := bpl (⟨K, false, false, 0, false, false, false, false, 0, 0, 0, 0, 0, 0, 0, 0⟩ : Bp)) bel (Nat.le_refl w.heap.size)⟩

set_option maxHeartbeats 1000000 in
theorem rread_kind (s : ByteArray) (K : Nat) (w : World) (hs : 4 ≤ s.size) (hz : s.size ≤ 9223372036854775807) (hK : K < 256) (e1 : ((K : Int) == 128) = false) (e2 : ((K : Int) != 0) = true) (e3 : ((K : Int) != 2) = true)
    (H0 : Hid (∀ w, Calls Try.prog 27 #[.string s, .int .i64 0, .int .i64 2] w fun e w' => e = .returned (.int .u64 0) ∧ w = w'))
    (H3 : Hid (∀ w, Calls Try.prog 27 #[.string s, .int .i64 3, .int .i64 1] w fun e w' => e = .returned (.int .u64 K) ∧ w = w')) :
    Calls Try.prog 10 #[.string s] w fun e w' => e = .returned (.tuple #[bp zeroB, .int .i64 10]) ∧ Below w.heap.size w w' := by
  have q3 : IntKind.i64.wrap (K : Int) = K := IntWalk.i64_in _ (by omega)
  have bel := Bx.bel_box (Bx.bel_refl w) (Obj.cells (bpl zeroB).toArray 26)
  have O0 := Lib.hid (Bx.Own.new w (bpl zeroB) 26)
  go_enter Try.func10, Try.ntmps10
  go_wp2_with fail
  (with_reducible refine (H0.out _).mono ?_); rintro e w' ⟨rfl, rfl⟩
  go_wp2_with fail
  (with_reducible refine (H3.out _).mono ?_); rintro e w' ⟨rfl, rfl⟩
  replace O0 := Lib.hid (O0.out.more (Obj.cells (bpl (⟨K, false, false, 0, false, false, false, false, 0, 0, 0, 0, 0, 0, 0, 0⟩ : Bp)).toArray 26))
  replace bel := Bx.bel_box bel (Obj.cells (bpl (⟨K, false, false, 0, false, false, false, false, 0, 0, 0, 0, 0, 0, 0, 0⟩ : Bp)).toArray 26)
  have B1 := Lib.hid (Bx.Blk.new_at (W := w.alloc (Obj.cells (bpl zeroB).toArray 26)) (k := w.heap.size + 1) (bpl (⟨K, false, false, 0, false, false, false, false, 0, 0, 0, 0, 0, 0, 0, 0⟩ : Bp)) 26 (by simp))
  go_wp2_with (first | ((with_reducible refine new_at ?_ ?_ (w.heap.size + 1) zeroB (⟨K, false, false, 0, false, false, false, false, 0, 0, 0, 0, 0, 0, 0, 0⟩ : Bp) ?_ ?_ (w.alloc (Obj.cells (bpl zeroB).toArray 26)) ?_ ?_ ?_); (· rfl); (· rfl); (· rfl); (· rfl); (· rfl); (· simp)) | ((with_reducible refine store_at ?_ ?_ w.heap.size zeroB zeroB ?_ ?_ ?_ ?_); (· rfl); (· rfl); (· rfl); (· rfl); (· exact O0.out)))
  have O1 := Lib.hid (O0.out.put (m := bpl zeroB) rfl)
  exact bodyPost_ret (v := .tuple #[bp zeroB, .int .i64 10]) (results_bp Try.results10 rfl rfl O1.out.blk) rfl ⟨rfl, Bx.bel_cells (m := bpl zeroB) bel (Nat.le_refl w.heap.size)⟩

set_option maxHeartbeats 1000000 in
theorem rread_vers (s : ByteArray) (K V : Nat) (w : World) (hs : 4 ≤ s.size) (hz : s.size ≤ 9223372036854775807) (hK : K < 256) (e1 : ((K : Int) == 128) = false) (e2 : ((K : Int) != 0) = true) (e3 : ((K : Int) != 2) = false) (hV : V < 2)
    (H0 : Hid (∀ w, Calls Try.prog 27 #[.string s, .int .i64 0, .int .i64 2] w fun e w' => e = .returned (.int .u64 0) ∧ w = w'))
    (H3 : Hid (∀ w, Calls Try.prog 27 #[.string s, .int .i64 3, .int .i64 1] w fun e w' => e = .returned (.int .u64 K) ∧ w = w'))
    (H2 : Hid (∀ w, Calls Try.prog 27 #[.string s, .int .i64 2, .int .i64 1] w fun e w' => e = .returned (.int .u64 V) ∧ w = w')) :
    Calls Try.prog 10 #[.string s] w fun e w' => e = .returned (.tuple #[bp zeroB, .int .i64 10]) ∧ Below w.heap.size w w' := by
  have q3 : IntKind.i64.wrap (K : Int) = K := IntWalk.i64_in _ (by omega)
  have bel := Bx.bel_box (Bx.bel_refl w) (Obj.cells (bpl zeroB).toArray 26)
  have O0 := Lib.hid (Bx.Own.new w (bpl zeroB) 26)
  go_enter Try.func10, Try.ntmps10
  go_wp2_with fail
  (with_reducible refine (H0.out _).mono ?_); rintro e w' ⟨rfl, rfl⟩
  go_wp2_with fail
  (with_reducible refine (H3.out _).mono ?_); rintro e w' ⟨rfl, rfl⟩
  replace O0 := Lib.hid (O0.out.more (Obj.cells (bpl (⟨K, false, false, 0, false, false, false, false, 0, 0, 0, 0, 0, 0, 0, 0⟩ : Bp)).toArray 26))
  replace bel := Bx.bel_box bel (Obj.cells (bpl (⟨K, false, false, 0, false, false, false, false, 0, 0, 0, 0, 0, 0, 0, 0⟩ : Bp)).toArray 26)
  have B1 := Lib.hid (Bx.Blk.new_at (W := w.alloc (Obj.cells (bpl zeroB).toArray 26)) (k := w.heap.size + 1) (bpl (⟨K, false, false, 0, false, false, false, false, 0, 0, 0, 0, 0, 0, 0, 0⟩ : Bp)) 26 (by simp))
  go_wp2_with (first | ((with_reducible refine new_at ?_ ?_ (w.heap.size + 1) zeroB (⟨K, false, false, 0, false, false, false, false, 0, 0, 0, 0, 0, 0, 0, 0⟩ : Bp) ?_ ?_ (w.alloc (Obj.cells (bpl zeroB).toArray 26)) ?_ ?_ ?_); (· rfl); (· rfl); (· rfl); (· rfl); (· rfl); (· simp)))
  (with_reducible refine (H2.out _).mono ?_); rintro e w' ⟨rfl, rfl⟩
  go_wp2_with (first | ((with_reducible refine store_at ?_ ?_ w.heap.size zeroB zeroB ?_ ?_ ?_ ?_); (· rfl); (· rfl); (· rfl); (· rfl); (· exact O0.out)))
  have O1 := Lib.hid (O0.out.put (m := bpl zeroB) rfl)
  exact bodyPost_ret (v := .tuple #[bp zeroB, .int .i64 10]) (results_bp Try.results10 rfl rfl O1.out.blk) rfl ⟨rfl, Bx.bel_cells (m := bpl zeroB) bel (Nat.le_refl w.heap.size)⟩

set_option maxHeartbeats 1000000 in
theorem rread_short0a (s : ByteArray) (K : Nat) (w : World) (hs : 4 ≤ s.size) (hz : s.size ≤ 9223372036854775807) (hK : K < 256) (e1 : ((K : Int) == 128) = false) (e2 : ((K : Int) != 0) = false) (_e4 : ((K : Int) == 2) = false) (hl : s.size < 35)
    (H0 : Hid (∀ w, Calls Try.prog 27 #[.string s, .int .i64 0, .int .i64 2] w fun e w' => e = .returned (.int .u64 0) ∧ w = w'))
    (H3 : Hid (∀ w, Calls Try.prog 27 #[.string s, .int .i64 3, .int .i64 1] w fun e w' => e = .returned (.int .u64 K) ∧ w = w')) :
    Calls Try.prog 10 #[.string s] w fun e w' => e = .returned (.tuple #[bp zeroB, .int .i64 2]) ∧ Below w.heap.size w w' := by
  have q3 : IntKind.i64.wrap (K : Int) = K := IntWalk.i64_in _ (by omega)
  have bel := Bx.bel_box (Bx.bel_refl w) (Obj.cells (bpl zeroB).toArray 26)
  have O0 := Lib.hid (Bx.Own.new w (bpl zeroB) 26)
  go_enter Try.func10, Try.ntmps10
  go_wp2_with fail
  (with_reducible refine (H0.out _).mono ?_); rintro e w' ⟨rfl, rfl⟩
  go_wp2_with fail
  (with_reducible refine (H3.out _).mono ?_); rintro e w' ⟨rfl, rfl⟩
  replace O0 := Lib.hid (O0.out.more (Obj.cells (bpl (⟨K, false, false, 0, false, false, false, false, 0, 0, 0, 0, 0, 0, 0, 0⟩ : Bp)).toArray 26))
  replace bel := Bx.bel_box bel (Obj.cells (bpl (⟨K, false, false, 0, false, false, false, false, 0, 0, 0, 0, 0, 0, 0, 0⟩ : Bp)).toArray 26)
  have B1 := Lib.hid (Bx.Blk.new_at (W := w.alloc (Obj.cells (bpl zeroB).toArray 26)) (k := w.heap.size + 1) (bpl (⟨K, false, false, 0, false, false, false, false, 0, 0, 0, 0, 0, 0, 0, 0⟩ : Bp)) 26 (by simp))
  go_wp2_with (first | ((with_reducible refine new_at ?_ ?_ (w.heap.size + 1) zeroB (⟨K, false, false, 0, false, false, false, false, 0, 0, 0, 0, 0, 0, 0, 0⟩ : Bp) ?_ ?_ (w.alloc (Obj.cells (bpl zeroB).toArray 26)) ?_ ?_ ?_); (· rfl); (· rfl); (· rfl); (· rfl); (· rfl); (· simp)) | ((with_reducible refine store_at ?_ ?_ w.heap.size zeroB zeroB ?_ ?_ ?_ ?_); (· rfl); (· rfl); (· rfl); (· rfl); (· exact O0.out)))
  have O1 := Lib.hid (O0.out.put (m := bpl zeroB) rfl)
  exact bodyPost_ret (v := .tuple #[bp zeroB, .int .i64 2]) (results_bp Try.results10 rfl rfl O1.out.blk) rfl ⟨rfl, Bx.bel_cells (m := bpl zeroB) bel (Nat.le_refl w.heap.size)⟩

set_option maxRecDepth 100000 in
set_option maxHeartbeats 2000000 in
theorem rread_old0 (s : ByteArray) (K : Nat) (F Rt Ct Gt Pt A M H D : Nat) (w : World) (hs : 4 ≤ s.size) (hz : s.size ≤ 9223372036854775807) (hK : K < 256) (e1 : ((K : Int) == 128) = false) (e2 : ((K : Int) != 0) = false) (e4 : ((K : Int) == 2) = false) (hl : 35 ≤ s.size) (hF : F < 256) (hP : Pt < 65536) (hA : A < 256) (hM : M < 256) (hH : H < 256) (hD : D < 256) (ho : M ≤ A)
    (H0 : Hid (∀ w, Calls Try.prog 27 #[.string s, .int .i64 0, .int .i64 2] w fun e w' => e = .returned (.int .u64 0) ∧ w = w'))
    (H3 : Hid (∀ w, Calls Try.prog 27 #[.string s, .int .i64 3, .int .i64 1] w fun e w' => e = .returned (.int .u64 K) ∧ w = w'))
    (H4 : Hid (∀ w, Calls Try.prog 27 #[.string s, .int .i64 4, .int .i64 1] w fun e w' => e = .returned (.int .u64 F) ∧ w = w'))
    (HA : Hid (∀ w, Calls Try.prog 27 #[.string s, .int .i64 5, .int .i64 8] w fun e w' => e = .returned (.int .u64 Rt) ∧ w = w'))
    (HB : Hid (∀ w, Calls Try.prog 27 #[.string s, .int .i64 13, .int .i64 4] w fun e w' => e = .returned (.int .u64 Ct) ∧ w = w'))
    (HC : Hid (∀ w, Calls Try.prog 27 #[.string s, .int .i64 17, .int .i64 8] w fun e w' => e = .returned (.int .u64 Gt) ∧ w = w'))
    (HD : Hid (∀ w, Calls Try.prog 27 #[.string s, .int .i64 25, .int .i64 2] w fun e w' => e = .returned (.int .u64 Pt) ∧ w = w'))
    (HE : Hid (∀ w, Calls Try.prog 27 #[.string s, .int .i64 27, .int .i64 1] w fun e w' => e = .returned (.int .u64 A) ∧ w = w'))
    (HF : Hid (∀ w, Calls Try.prog 27 #[.string s, .int .i64 29, .int .i64 1] w fun e w' => e = .returned (.int .u64 M) ∧ w = w'))
    (HG : Hid (∀ w, Calls Try.prog 27 #[.string s, .int .i64 31, .int .i64 1] w fun e w' => e = .returned (.int .u64 H) ∧ w = w'))
    (HH : Hid (∀ w, Calls Try.prog 27 #[.string s, .int .i64 33, .int .i64 1] w fun e w' => e = .returned (.int .u64 D) ∧ w = w')) :
    Calls Try.prog 10 #[.string s] w fun e w' => e = .returned (.tuple #[bp zeroB, .int .i64 3]) ∧ Below w.heap.size w w' := by
  have q3 : IntKind.i64.wrap (K : Int) = K := IntWalk.i64_in _ (by omega)
  have x0 := pos_bit0 F hF
  have x7 := pos_bit7 F hF
  have wPt : IntKind.i64.wrap (Pt : Int) = Pt := IntWalk.i64_in _ (by omega)
  have wA : IntKind.i64.wrap (A : Int) = A := IntWalk.i64_in _ (by omega)
  have wM : IntKind.i64.wrap (M : Int) = M := IntWalk.i64_in _ (by omega)
  have wH : IntKind.i64.wrap (H : Int) = H := IntWalk.i64_in _ (by omega)
  have wD : IntKind.i64.wrap (D : Int) = D := IntWalk.i64_in _ (by omega)
  have bel := Bx.bel_box (Bx.bel_refl w) (Obj.cells (bpl zeroB).toArray 26)
  have O0 := Lib.hid (Bx.Own.new w (bpl zeroB) 26)
  go_enter Try.func10, Try.ntmps10
  go_wp2_with fail
  (with_reducible refine (H0.out _).mono ?_); rintro e w' ⟨rfl, rfl⟩
  go_wp2_with fail
  (with_reducible refine (H3.out _).mono ?_); rintro e w' ⟨rfl, rfl⟩
  go_wp2_with (first | ((with_reducible refine new_at ?_ ?_ (w.heap.size + 1) zeroB (⟨K, false, false, 0, false, false, false, false, 0, 0, 0, 0, 0, 0, 0, 0⟩ : Bp) ?_ ?_ (w.alloc (Obj.cells (bpl zeroB).toArray 26)) ?_ ?_ ?_); (· rfl); (· rfl); (· rfl); (· rfl); (· rfl); (· simp)))
  (with_reducible refine (H4.out _).mono ?_); rintro e w' ⟨rfl, rfl⟩
  go_wp2_with fail
  (with_reducible refine (HA.out _).mono ?_); rintro e w' ⟨rfl, rfl⟩
  go_wp2_with fail
  (with_reducible refine (HB.out _).mono ?_); rintro e w' ⟨rfl, rfl⟩
  go_wp2_with fail
  (with_reducible refine (HC.out _).mono ?_); rintro e w' ⟨rfl, rfl⟩
  go_wp2_with fail
  (with_reducible refine (HD.out _).mono ?_); rintro e w' ⟨rfl, rfl⟩
  go_wp2_with fail
  (with_reducible refine (HE.out _).mono ?_); rintro e w' ⟨rfl, rfl⟩
  go_wp2_with fail
  (with_reducible refine (HF.out _).mono ?_); rintro e w' ⟨rfl, rfl⟩
  go_wp2_with fail
  (with_reducible refine (HG.out _).mono ?_); rintro e w' ⟨rfl, rfl⟩
  go_wp2_with fail
  (with_reducible refine (HH.out _).mono ?_); rintro e w' ⟨rfl, rfl⟩
  replace O0 := Lib.hid (O0.out.more (Obj.cells (bpl (⟨K, bitB F 0, false, 0, false, false, false, bitB F 7, Rt, Ct, Gt, Pt, A, M, H, D⟩ : Bp)).toArray 26))
  replace bel := Bx.bel_box bel (Obj.cells (bpl (⟨K, bitB F 0, false, 0, false, false, false, bitB F 7, Rt, Ct, Gt, Pt, A, M, H, D⟩ : Bp)).toArray 26)
  have B1 := Lib.hid (Bx.Blk.new_at (W := w.alloc (Obj.cells (bpl zeroB).toArray 26)) (k := w.heap.size + 1) (bpl (⟨K, bitB F 0, false, 0, false, false, false, bitB F 7, Rt, Ct, Gt, Pt, A, M, H, D⟩ : Bp)) 26 (by simp))
  go_wp2_with (first | ((with_reducible refine store_at ?_ ?_ w.heap.size zeroB zeroB ?_ ?_ ?_ ?_); (· rfl); (· rfl); (· rfl); (· rfl); (· exact O0.out)))
  have O1 := Lib.hid (O0.out.put (m := bpl zeroB) rfl)
  exact bodyPost_ret (v := .tuple #[bp zeroB, .int .i64 3]) (results_bp Try.results10 rfl rfl O1.out.blk) rfl ⟨rfl, Bx.bel_cells (m := bpl zeroB) bel (Nat.le_refl w.heap.size)⟩

set_option maxRecDepth 100000 in
set_option maxHeartbeats 2000000 in
theorem rread_full0 (s : ByteArray) (K : Nat) (F Rt Ct Gt Pt A M H D : Nat) (w : World) (hs : 4 ≤ s.size) (hz : s.size ≤ 9223372036854775807) (hK : K < 256) (e1 : ((K : Int) == 128) = false) (e2 : ((K : Int) != 0) = false) (e4 : ((K : Int) == 2) = false) (hl : 35 ≤ s.size) (hF : F < 256) (hP : Pt < 65536) (hA : A < 256) (hM : M < 256) (hH : H < 256) (hD : D < 256) (ho : A < M)
    (H0 : Hid (∀ w, Calls Try.prog 27 #[.string s, .int .i64 0, .int .i64 2] w fun e w' => e = .returned (.int .u64 0) ∧ w = w'))
    (H3 : Hid (∀ w, Calls Try.prog 27 #[.string s, .int .i64 3, .int .i64 1] w fun e w' => e = .returned (.int .u64 K) ∧ w = w'))
    (H4 : Hid (∀ w, Calls Try.prog 27 #[.string s, .int .i64 4, .int .i64 1] w fun e w' => e = .returned (.int .u64 F) ∧ w = w'))
    (HA : Hid (∀ w, Calls Try.prog 27 #[.string s, .int .i64 5, .int .i64 8] w fun e w' => e = .returned (.int .u64 Rt) ∧ w = w'))
    (HB : Hid (∀ w, Calls Try.prog 27 #[.string s, .int .i64 13, .int .i64 4] w fun e w' => e = .returned (.int .u64 Ct) ∧ w = w'))
    (HC : Hid (∀ w, Calls Try.prog 27 #[.string s, .int .i64 17, .int .i64 8] w fun e w' => e = .returned (.int .u64 Gt) ∧ w = w'))
    (HD : Hid (∀ w, Calls Try.prog 27 #[.string s, .int .i64 25, .int .i64 2] w fun e w' => e = .returned (.int .u64 Pt) ∧ w = w'))
    (HE : Hid (∀ w, Calls Try.prog 27 #[.string s, .int .i64 27, .int .i64 1] w fun e w' => e = .returned (.int .u64 A) ∧ w = w'))
    (HF : Hid (∀ w, Calls Try.prog 27 #[.string s, .int .i64 29, .int .i64 1] w fun e w' => e = .returned (.int .u64 M) ∧ w = w'))
    (HG : Hid (∀ w, Calls Try.prog 27 #[.string s, .int .i64 31, .int .i64 1] w fun e w' => e = .returned (.int .u64 H) ∧ w = w'))
    (HH : Hid (∀ w, Calls Try.prog 27 #[.string s, .int .i64 33, .int .i64 1] w fun e w' => e = .returned (.int .u64 D) ∧ w = w')) :
    Calls Try.prog 10 #[.string s] w fun e w' => e = .returned (.tuple #[bp (⟨K, bitB F 0, false, 0, false, false, false, bitB F 7, Rt, Ct, Gt, Pt, A, M, H, D⟩ : Bp), .int .i64 0]) ∧ Below w.heap.size w w' := by
  have q3 : IntKind.i64.wrap (K : Int) = K := IntWalk.i64_in _ (by omega)
  have x0 := pos_bit0 F hF
  have x7 := pos_bit7 F hF
  have wPt : IntKind.i64.wrap (Pt : Int) = Pt := IntWalk.i64_in _ (by omega)
  have wA : IntKind.i64.wrap (A : Int) = A := IntWalk.i64_in _ (by omega)
  have wM : IntKind.i64.wrap (M : Int) = M := IntWalk.i64_in _ (by omega)
  have wH : IntKind.i64.wrap (H : Int) = H := IntWalk.i64_in _ (by omega)
  have wD : IntKind.i64.wrap (D : Int) = D := IntWalk.i64_in _ (by omega)
  have bel := Bx.bel_box (Bx.bel_refl w) (Obj.cells (bpl zeroB).toArray 26)
  have O0 := Lib.hid (Bx.Own.new w (bpl zeroB) 26)
  go_enter Try.func10, Try.ntmps10
  go_wp2_with fail
  (with_reducible refine (H0.out _).mono ?_); rintro e w' ⟨rfl, rfl⟩
  go_wp2_with fail
  (with_reducible refine (H3.out _).mono ?_); rintro e w' ⟨rfl, rfl⟩
  go_wp2_with (first | ((with_reducible refine new_at ?_ ?_ (w.heap.size + 1) zeroB (⟨K, false, false, 0, false, false, false, false, 0, 0, 0, 0, 0, 0, 0, 0⟩ : Bp) ?_ ?_ (w.alloc (Obj.cells (bpl zeroB).toArray 26)) ?_ ?_ ?_); (· rfl); (· rfl); (· rfl); (· rfl); (· rfl); (· simp)))
  (with_reducible refine (H4.out _).mono ?_); rintro e w' ⟨rfl, rfl⟩
  go_wp2_with fail
  (with_reducible refine (HA.out _).mono ?_); rintro e w' ⟨rfl, rfl⟩
  go_wp2_with fail
  (with_reducible refine (HB.out _).mono ?_); rintro e w' ⟨rfl, rfl⟩
  go_wp2_with fail
  (with_reducible refine (HC.out _).mono ?_); rintro e w' ⟨rfl, rfl⟩
  go_wp2_with fail
  (with_reducible refine (HD.out _).mono ?_); rintro e w' ⟨rfl, rfl⟩
  go_wp2_with fail
  (with_reducible refine (HE.out _).mono ?_); rintro e w' ⟨rfl, rfl⟩
  go_wp2_with fail
  (with_reducible refine (HF.out _).mono ?_); rintro e w' ⟨rfl, rfl⟩
  go_wp2_with fail
  (with_reducible refine (HG.out _).mono ?_); rintro e w' ⟨rfl, rfl⟩
  go_wp2_with fail
  (with_reducible refine (HH.out _).mono ?_); rintro e w' ⟨rfl, rfl⟩
  replace O0 := Lib.hid (O0.out.more (Obj.cells (bpl (⟨K, bitB F 0, false, 0, false, false, false, bitB F 7, Rt, Ct, Gt, Pt, A, M, H, D⟩ : Bp)).toArray 26))
  replace bel := Bx.bel_box bel (Obj.cells (bpl (⟨K, bitB F 0, false, 0, false, false, false, bitB F 7, Rt, Ct, Gt, Pt, A, M, H, D⟩ : Bp)).toArray 26)
  have B1 := Lib.hid (Bx.Blk.new_at (W := w.alloc (Obj.cells (bpl zeroB).toArray 26)) (k := w.heap.size + 1) (bpl (⟨K, bitB F 0, false, 0, false, false, false, bitB F 7, Rt, Ct, Gt, Pt, A, M, H, D⟩ : Bp)) 26 (by simp))
  go_wp2_with (first | ((with_reducible refine load_at ?_ ?_ (w.heap.size + 1) ?_ (⟨K, bitB F 0, false, 0, false, false, false, bitB F 7, Rt, Ct, Gt, Pt, A, M, H, D⟩ : Bp) ?_ ?_); (· rfl); (· rfl); (· rfl); (· exact B1.out)) | ((with_reducible refine store_at ?_ ?_ w.heap.size zeroB (⟨K, bitB F 0, false, 0, false, false, false, bitB F 7, Rt, Ct, Gt, Pt, A, M, H, D⟩ : Bp) ?_ ?_ ?_ ?_); (· rfl); (· rfl); (· rfl); (· rfl); (· exact O0.out)))
  have O1 := Lib.hid (O0.out.put (m := bpl (⟨K, bitB F 0, false, 0, false, false, false, bitB F 7, Rt, Ct, Gt, Pt, A, M, H, D⟩ : Bp)) rfl)
  exact bodyPost_ret (v := .tuple #[bp (⟨K, bitB F 0, false, 0, false, false, false, bitB F 7, Rt, Ct, Gt, Pt, A, M, H, D⟩ : Bp), .int .i64 0]) (results_bp Try.results10 rfl rfl O1.out.blk) rfl ⟨rfl, Bx.bel_cells (m := bpl (⟨K, bitB F 0, false, 0, false, false, false, bitB F 7, Rt, Ct, Gt, Pt, A, M, H, D⟩ : Bp)) bel (Nat.le_refl w.heap.size)⟩

set_option maxHeartbeats 1000000 in
theorem rread_short2a (s : ByteArray) (K V : Nat) (w : World) (hs : 4 ≤ s.size) (hz : s.size ≤ 9223372036854775807) (hK : K < 256) (e1 : ((K : Int) == 128) = false) (e2 : ((K : Int) != 0) = true) (e3 : ((K : Int) != 2) = false) (_e4 : ((K : Int) == 2) = true) (hV : 2 ≤ V) (hl : s.size < 35)
    (H0 : Hid (∀ w, Calls Try.prog 27 #[.string s, .int .i64 0, .int .i64 2] w fun e w' => e = .returned (.int .u64 0) ∧ w = w'))
    (H3 : Hid (∀ w, Calls Try.prog 27 #[.string s, .int .i64 3, .int .i64 1] w fun e w' => e = .returned (.int .u64 K) ∧ w = w'))
    (H2 : Hid (∀ w, Calls Try.prog 27 #[.string s, .int .i64 2, .int .i64 1] w fun e w' => e = .returned (.int .u64 V) ∧ w = w')) :
    Calls Try.prog 10 #[.string s] w fun e w' => e = .returned (.tuple #[bp zeroB, .int .i64 2]) ∧ Below w.heap.size w w' := by
  have q3 : IntKind.i64.wrap (K : Int) = K := IntWalk.i64_in _ (by omega)
  have bel := Bx.bel_box (Bx.bel_refl w) (Obj.cells (bpl zeroB).toArray 26)
  have O0 := Lib.hid (Bx.Own.new w (bpl zeroB) 26)
  go_enter Try.func10, Try.ntmps10
  go_wp2_with fail
  (with_reducible refine (H0.out _).mono ?_); rintro e w' ⟨rfl, rfl⟩
  go_wp2_with fail
  (with_reducible refine (H3.out _).mono ?_); rintro e w' ⟨rfl, rfl⟩
  replace O0 := Lib.hid (O0.out.more (Obj.cells (bpl (⟨K, false, false, 0, false, false, false, false, 0, 0, 0, 0, 0, 0, 0, 0⟩ : Bp)).toArray 26))
  replace bel := Bx.bel_box bel (Obj.cells (bpl (⟨K, false, false, 0, false, false, false, false, 0, 0, 0, 0, 0, 0, 0, 0⟩ : Bp)).toArray 26)
  have B1 := Lib.hid (Bx.Blk.new_at (W := w.alloc (Obj.cells (bpl zeroB).toArray 26)) (k := w.heap.size + 1) (bpl (⟨K, false, false, 0, false, false, false, false, 0, 0, 0, 0, 0, 0, 0, 0⟩ : Bp)) 26 (by simp))
  go_wp2_with (first | ((with_reducible refine new_at ?_ ?_ (w.heap.size + 1) zeroB (⟨K, false, false, 0, false, false, false, false, 0, 0, 0, 0, 0, 0, 0, 0⟩ : Bp) ?_ ?_ (w.alloc (Obj.cells (bpl zeroB).toArray 26)) ?_ ?_ ?_); (· rfl); (· rfl); (· rfl); (· rfl); (· rfl); (· simp)))
  (with_reducible refine (H2.out _).mono ?_); rintro e w' ⟨rfl, rfl⟩
  go_wp2_with (first | ((with_reducible refine store_at ?_ ?_ w.heap.size zeroB zeroB ?_ ?_ ?_ ?_); (· rfl); (· rfl); (· rfl); (· rfl); (· exact O0.out)))
  have O1 := Lib.hid (O0.out.put (m := bpl zeroB) rfl)
  exact bodyPost_ret (v := .tuple #[bp zeroB, .int .i64 2]) (results_bp Try.results10 rfl rfl O1.out.blk) rfl ⟨rfl, Bx.bel_cells (m := bpl zeroB) bel (Nat.le_refl w.heap.size)⟩

set_option maxHeartbeats 1000000 in
theorem rread_short2b (s : ByteArray) (K V : Nat) (w : World) (hs : 4 ≤ s.size) (hz : s.size ≤ 9223372036854775807) (hK : K < 256) (e1 : ((K : Int) == 128) = false) (e2 : ((K : Int) != 0) = true) (e3 : ((K : Int) != 2) = false) (e4 : ((K : Int) == 2) = true) (hV : 2 ≤ V) (hl : 35 ≤ s.size) (hl2 : s.size < 36)
    (H0 : Hid (∀ w, Calls Try.prog 27 #[.string s, .int .i64 0, .int .i64 2] w fun e w' => e = .returned (.int .u64 0) ∧ w = w'))
    (H3 : Hid (∀ w, Calls Try.prog 27 #[.string s, .int .i64 3, .int .i64 1] w fun e w' => e = .returned (.int .u64 K) ∧ w = w'))
    (H2 : Hid (∀ w, Calls Try.prog 27 #[.string s, .int .i64 2, .int .i64 1] w fun e w' => e = .returned (.int .u64 V) ∧ w = w')) :
    Calls Try.prog 10 #[.string s] w fun e w' => e = .returned (.tuple #[bp zeroB, .int .i64 2]) ∧ Below w.heap.size w w' := by
  have q3 : IntKind.i64.wrap (K : Int) = K := IntWalk.i64_in _ (by omega)
  have bel := Bx.bel_box (Bx.bel_refl w) (Obj.cells (bpl zeroB).toArray 26)
  have O0 := Lib.hid (Bx.Own.new w (bpl zeroB) 26)
  go_enter Try.func10, Try.ntmps10
  go_wp2_with fail
  (with_reducible refine (H0.out _).mono ?_); rintro e w' ⟨rfl, rfl⟩
  go_wp2_with fail
  (with_reducible refine (H3.out _).mono ?_); rintro e w' ⟨rfl, rfl⟩
  replace O0 := Lib.hid (O0.out.more (Obj.cells (bpl (⟨K, false, false, 0, false, false, false, false, 0, 0, 0, 0, 0, 0, 0, 0⟩ : Bp)).toArray 26))
  replace bel := Bx.bel_box bel (Obj.cells (bpl (⟨K, false, false, 0, false, false, false, false, 0, 0, 0, 0, 0, 0, 0, 0⟩ : Bp)).toArray 26)
  have B1 := Lib.hid (Bx.Blk.new_at (W := w.alloc (Obj.cells (bpl zeroB).toArray 26)) (k := w.heap.size + 1) (bpl (⟨K, false, false, 0, false, false, false, false, 0, 0, 0, 0, 0, 0, 0, 0⟩ : Bp)) 26 (by simp))
  go_wp2_with (first | ((with_reducible refine new_at ?_ ?_ (w.heap.size + 1) zeroB (⟨K, false, false, 0, false, false, false, false, 0, 0, 0, 0, 0, 0, 0, 0⟩ : Bp) ?_ ?_ (w.alloc (Obj.cells (bpl zeroB).toArray 26)) ?_ ?_ ?_); (· rfl); (· rfl); (· rfl); (· rfl); (· rfl); (· simp)))
  (with_reducible refine (H2.out _).mono ?_); rintro e w' ⟨rfl, rfl⟩
  go_wp2_with (first | ((with_reducible refine store_at ?_ ?_ w.heap.size zeroB zeroB ?_ ?_ ?_ ?_); (· rfl); (· rfl); (· rfl); (· rfl); (· exact O0.out)))
  have O1 := Lib.hid (O0.out.put (m := bpl zeroB) rfl)
  exact bodyPost_ret (v := .tuple #[bp zeroB, .int .i64 2]) (results_bp Try.results10 rfl rfl O1.out.blk) rfl ⟨rfl, Bx.bel_cells (m := bpl zeroB) bel (Nat.le_refl w.heap.size)⟩

set_option maxRecDepth 100000 in
set_option maxHeartbeats 2000000 in
theorem rread_old2 (s : ByteArray) (K V : Nat) (F Rt Ct Gt Pt A M H D : Nat) (w : World) (hs : 4 ≤ s.size) (hz : s.size ≤ 9223372036854775807) (hK : K < 256) (e1 : ((K : Int) == 128) = false) (e2 : ((K : Int) != 0) = true) (e3 : ((K : Int) != 2) = false) (e4 : ((K : Int) == 2) = true) (hV : 2 ≤ V) (hl : 35 ≤ s.size) (hl2 : 36 ≤ s.size) (hF : F < 256) (hP : Pt < 65536) (hA : A < 256) (hM : M < 256) (hH : H < 256) (hD : D < 256) (ho : M ≤ A)
    (H0 : Hid (∀ w, Calls Try.prog 27 #[.string s, .int .i64 0, .int .i64 2] w fun e w' => e = .returned (.int .u64 0) ∧ w = w'))
    (H3 : Hid (∀ w, Calls Try.prog 27 #[.string s, .int .i64 3, .int .i64 1] w fun e w' => e = .returned (.int .u64 K) ∧ w = w'))
    (H2 : Hid (∀ w, Calls Try.prog 27 #[.string s, .int .i64 2, .int .i64 1] w fun e w' => e = .returned (.int .u64 V) ∧ w = w'))
    (H4 : Hid (∀ w, Calls Try.prog 27 #[.string s, .int .i64 4, .int .i64 1] w fun e w' => e = .returned (.int .u64 F) ∧ w = w'))
    (HA : Hid (∀ w, Calls Try.prog 27 #[.string s, .int .i64 5, .int .i64 8] w fun e w' => e = .returned (.int .u64 Rt) ∧ w = w'))
    (HB : Hid (∀ w, Calls Try.prog 27 #[.string s, .int .i64 13, .int .i64 4] w fun e w' => e = .returned (.int .u64 Ct) ∧ w = w'))
    (HC : Hid (∀ w, Calls Try.prog 27 #[.string s, .int .i64 17, .int .i64 8] w fun e w' => e = .returned (.int .u64 Gt) ∧ w = w'))
    (HD : Hid (∀ w, Calls Try.prog 27 #[.string s, .int .i64 25, .int .i64 2] w fun e w' => e = .returned (.int .u64 Pt) ∧ w = w'))
    (HE : Hid (∀ w, Calls Try.prog 27 #[.string s, .int .i64 27, .int .i64 1] w fun e w' => e = .returned (.int .u64 A) ∧ w = w'))
    (HF : Hid (∀ w, Calls Try.prog 27 #[.string s, .int .i64 29, .int .i64 1] w fun e w' => e = .returned (.int .u64 M) ∧ w = w'))
    (HG : Hid (∀ w, Calls Try.prog 27 #[.string s, .int .i64 31, .int .i64 1] w fun e w' => e = .returned (.int .u64 H) ∧ w = w'))
    (HH : Hid (∀ w, Calls Try.prog 27 #[.string s, .int .i64 33, .int .i64 1] w fun e w' => e = .returned (.int .u64 D) ∧ w = w')) :
    Calls Try.prog 10 #[.string s] w fun e w' => e = .returned (.tuple #[bp zeroB, .int .i64 3]) ∧ Below w.heap.size w w' := by
  have q3 : IntKind.i64.wrap (K : Int) = K := IntWalk.i64_in _ (by omega)
  have x0 := pos_bit0 F hF
  have x1 := pos_bit1 F hF
  have x4 := pos_bit4 F hF
  have x5 := pos_bit5 F hF
  have x6 := pos_bit6 F hF
  have xr := role_bits F hF
  have wPt : IntKind.i64.wrap (Pt : Int) = Pt := IntWalk.i64_in _ (by omega)
  have wA : IntKind.i64.wrap (A : Int) = A := IntWalk.i64_in _ (by omega)
  have wM : IntKind.i64.wrap (M : Int) = M := IntWalk.i64_in _ (by omega)
  have wH : IntKind.i64.wrap (H : Int) = H := IntWalk.i64_in _ (by omega)
  have wD : IntKind.i64.wrap (D : Int) = D := IntWalk.i64_in _ (by omega)
  have bel := Bx.bel_box (Bx.bel_refl w) (Obj.cells (bpl zeroB).toArray 26)
  have O0 := Lib.hid (Bx.Own.new w (bpl zeroB) 26)
  go_enter Try.func10, Try.ntmps10
  go_wp2_with fail
  (with_reducible refine (H0.out _).mono ?_); rintro e w' ⟨rfl, rfl⟩
  go_wp2_with fail
  (with_reducible refine (H3.out _).mono ?_); rintro e w' ⟨rfl, rfl⟩
  go_wp2_with (first | ((with_reducible refine new_at ?_ ?_ (w.heap.size + 1) zeroB (⟨K, false, false, 0, false, false, false, false, 0, 0, 0, 0, 0, 0, 0, 0⟩ : Bp) ?_ ?_ (w.alloc (Obj.cells (bpl zeroB).toArray 26)) ?_ ?_ ?_); (· rfl); (· rfl); (· rfl); (· rfl); (· rfl); (· simp)))
  (with_reducible refine (H2.out _).mono ?_); rintro e w' ⟨rfl, rfl⟩
  go_wp2_with fail
  (with_reducible refine (H4.out _).mono ?_); rintro e w' ⟨rfl, rfl⟩
  go_wp2_with fail
  (with_reducible refine (HA.out _).mono ?_); rintro e w' ⟨rfl, rfl⟩
  go_wp2_with fail
  (with_reducible refine (HB.out _).mono ?_); rintro e w' ⟨rfl, rfl⟩
  go_wp2_with fail
  (with_reducible refine (HC.out _).mono ?_); rintro e w' ⟨rfl, rfl⟩
  go_wp2_with fail
  (with_reducible refine (HD.out _).mono ?_); rintro e w' ⟨rfl, rfl⟩
  go_wp2_with fail
  (with_reducible refine (HE.out _).mono ?_); rintro e w' ⟨rfl, rfl⟩
  go_wp2_with fail
  (with_reducible refine (HF.out _).mono ?_); rintro e w' ⟨rfl, rfl⟩
  go_wp2_with fail
  (with_reducible refine (HG.out _).mono ?_); rintro e w' ⟨rfl, rfl⟩
  go_wp2_with fail
  (with_reducible refine (HH.out _).mono ?_); rintro e w' ⟨rfl, rfl⟩
  replace O0 := Lib.hid (O0.out.more (Obj.cells (bpl (⟨K, bitB F 0, bitB F 1, roleN (bitB F 2) (bitB F 3), bitB F 4, bitB F 5, bitB F 6, false, Rt, Ct, Gt, Pt, A, M, H, D⟩ : Bp)).toArray 26))
  replace bel := Bx.bel_box bel (Obj.cells (bpl (⟨K, bitB F 0, bitB F 1, roleN (bitB F 2) (bitB F 3), bitB F 4, bitB F 5, bitB F 6, false, Rt, Ct, Gt, Pt, A, M, H, D⟩ : Bp)).toArray 26)
  have B1 := Lib.hid (Bx.Blk.new_at (W := w.alloc (Obj.cells (bpl zeroB).toArray 26)) (k := w.heap.size + 1) (bpl (⟨K, bitB F 0, bitB F 1, roleN (bitB F 2) (bitB F 3), bitB F 4, bitB F 5, bitB F 6, false, Rt, Ct, Gt, Pt, A, M, H, D⟩ : Bp)) 26 (by simp))
  go_wp2_with (first | ((with_reducible refine store_at ?_ ?_ w.heap.size zeroB zeroB ?_ ?_ ?_ ?_); (· rfl); (· rfl); (· rfl); (· rfl); (· exact O0.out)))
  have O1 := Lib.hid (O0.out.put (m := bpl zeroB) rfl)
  exact bodyPost_ret (v := .tuple #[bp zeroB, .int .i64 3]) (results_bp Try.results10 rfl rfl O1.out.blk) rfl ⟨rfl, Bx.bel_cells (m := bpl zeroB) bel (Nat.le_refl w.heap.size)⟩

set_option maxRecDepth 100000 in
set_option maxHeartbeats 2000000 in
theorem rread_full2 (s : ByteArray) (K V : Nat) (F Rt Ct Gt Pt A M H D : Nat) (w : World) (hs : 4 ≤ s.size) (hz : s.size ≤ 9223372036854775807) (hK : K < 256) (e1 : ((K : Int) == 128) = false) (e2 : ((K : Int) != 0) = true) (e3 : ((K : Int) != 2) = false) (e4 : ((K : Int) == 2) = true) (hV : 2 ≤ V) (hl : 35 ≤ s.size) (hl2 : 36 ≤ s.size) (hF : F < 256) (hP : Pt < 65536) (hA : A < 256) (hM : M < 256) (hH : H < 256) (hD : D < 256) (ho : A < M)
    (H0 : Hid (∀ w, Calls Try.prog 27 #[.string s, .int .i64 0, .int .i64 2] w fun e w' => e = .returned (.int .u64 0) ∧ w = w'))
    (H3 : Hid (∀ w, Calls Try.prog 27 #[.string s, .int .i64 3, .int .i64 1] w fun e w' => e = .returned (.int .u64 K) ∧ w = w'))
    (H2 : Hid (∀ w, Calls Try.prog 27 #[.string s, .int .i64 2, .int .i64 1] w fun e w' => e = .returned (.int .u64 V) ∧ w = w'))
    (H4 : Hid (∀ w, Calls Try.prog 27 #[.string s, .int .i64 4, .int .i64 1] w fun e w' => e = .returned (.int .u64 F) ∧ w = w'))
    (HA : Hid (∀ w, Calls Try.prog 27 #[.string s, .int .i64 5, .int .i64 8] w fun e w' => e = .returned (.int .u64 Rt) ∧ w = w'))
    (HB : Hid (∀ w, Calls Try.prog 27 #[.string s, .int .i64 13, .int .i64 4] w fun e w' => e = .returned (.int .u64 Ct) ∧ w = w'))
    (HC : Hid (∀ w, Calls Try.prog 27 #[.string s, .int .i64 17, .int .i64 8] w fun e w' => e = .returned (.int .u64 Gt) ∧ w = w'))
    (HD : Hid (∀ w, Calls Try.prog 27 #[.string s, .int .i64 25, .int .i64 2] w fun e w' => e = .returned (.int .u64 Pt) ∧ w = w'))
    (HE : Hid (∀ w, Calls Try.prog 27 #[.string s, .int .i64 27, .int .i64 1] w fun e w' => e = .returned (.int .u64 A) ∧ w = w'))
    (HF : Hid (∀ w, Calls Try.prog 27 #[.string s, .int .i64 29, .int .i64 1] w fun e w' => e = .returned (.int .u64 M) ∧ w = w'))
    (HG : Hid (∀ w, Calls Try.prog 27 #[.string s, .int .i64 31, .int .i64 1] w fun e w' => e = .returned (.int .u64 H) ∧ w = w'))
    (HH : Hid (∀ w, Calls Try.prog 27 #[.string s, .int .i64 33, .int .i64 1] w fun e w' => e = .returned (.int .u64 D) ∧ w = w')) :
    Calls Try.prog 10 #[.string s] w fun e w' => e = .returned (.tuple #[bp (⟨K, bitB F 0, bitB F 1, roleN (bitB F 2) (bitB F 3), bitB F 4, bitB F 5, bitB F 6, false, Rt, Ct, Gt, Pt, A, M, H, D⟩ : Bp), .int .i64 0]) ∧ Below w.heap.size w w' := by
  have q3 : IntKind.i64.wrap (K : Int) = K := IntWalk.i64_in _ (by omega)
  have x0 := pos_bit0 F hF
  have x1 := pos_bit1 F hF
  have x4 := pos_bit4 F hF
  have x5 := pos_bit5 F hF
  have x6 := pos_bit6 F hF
  have xr := role_bits F hF
  have wPt : IntKind.i64.wrap (Pt : Int) = Pt := IntWalk.i64_in _ (by omega)
  have wA : IntKind.i64.wrap (A : Int) = A := IntWalk.i64_in _ (by omega)
  have wM : IntKind.i64.wrap (M : Int) = M := IntWalk.i64_in _ (by omega)
  have wH : IntKind.i64.wrap (H : Int) = H := IntWalk.i64_in _ (by omega)
  have wD : IntKind.i64.wrap (D : Int) = D := IntWalk.i64_in _ (by omega)
  have bel := Bx.bel_box (Bx.bel_refl w) (Obj.cells (bpl zeroB).toArray 26)
  have O0 := Lib.hid (Bx.Own.new w (bpl zeroB) 26)
  go_enter Try.func10, Try.ntmps10
  go_wp2_with fail
  (with_reducible refine (H0.out _).mono ?_); rintro e w' ⟨rfl, rfl⟩
  go_wp2_with fail
  (with_reducible refine (H3.out _).mono ?_); rintro e w' ⟨rfl, rfl⟩
  go_wp2_with (first | ((with_reducible refine new_at ?_ ?_ (w.heap.size + 1) zeroB (⟨K, false, false, 0, false, false, false, false, 0, 0, 0, 0, 0, 0, 0, 0⟩ : Bp) ?_ ?_ (w.alloc (Obj.cells (bpl zeroB).toArray 26)) ?_ ?_ ?_); (· rfl); (· rfl); (· rfl); (· rfl); (· rfl); (· simp)))
  (with_reducible refine (H2.out _).mono ?_); rintro e w' ⟨rfl, rfl⟩
  go_wp2_with fail
  (with_reducible refine (H4.out _).mono ?_); rintro e w' ⟨rfl, rfl⟩
  go_wp2_with fail
  (with_reducible refine (HA.out _).mono ?_); rintro e w' ⟨rfl, rfl⟩
  go_wp2_with fail
  (with_reducible refine (HB.out _).mono ?_); rintro e w' ⟨rfl, rfl⟩
  go_wp2_with fail
  (with_reducible refine (HC.out _).mono ?_); rintro e w' ⟨rfl, rfl⟩
  go_wp2_with fail
  (with_reducible refine (HD.out _).mono ?_); rintro e w' ⟨rfl, rfl⟩
  go_wp2_with fail
  (with_reducible refine (HE.out _).mono ?_); rintro e w' ⟨rfl, rfl⟩
  go_wp2_with fail
  (with_reducible refine (HF.out _).mono ?_); rintro e w' ⟨rfl, rfl⟩
  go_wp2_with fail
  (with_reducible refine (HG.out _).mono ?_); rintro e w' ⟨rfl, rfl⟩
  go_wp2_with fail
  (with_reducible refine (HH.out _).mono ?_); rintro e w' ⟨rfl, rfl⟩
  replace O0 := Lib.hid (O0.out.more (Obj.cells (bpl (⟨K, bitB F 0, bitB F 1, roleN (bitB F 2) (bitB F 3), bitB F 4, bitB F 5, bitB F 6, false, Rt, Ct, Gt, Pt, A, M, H, D⟩ : Bp)).toArray 26))
  replace bel := Bx.bel_box bel (Obj.cells (bpl (⟨K, bitB F 0, bitB F 1, roleN (bitB F 2) (bitB F 3), bitB F 4, bitB F 5, bitB F 6, false, Rt, Ct, Gt, Pt, A, M, H, D⟩ : Bp)).toArray 26)
  have B1 := Lib.hid (Bx.Blk.new_at (W := w.alloc (Obj.cells (bpl zeroB).toArray 26)) (k := w.heap.size + 1) (bpl (⟨K, bitB F 0, bitB F 1, roleN (bitB F 2) (bitB F 3), bitB F 4, bitB F 5, bitB F 6, false, Rt, Ct, Gt, Pt, A, M, H, D⟩ : Bp)) 26 (by simp))
  go_wp2_with (first | ((with_reducible refine load_at ?_ ?_ (w.heap.size + 1) ?_ (⟨K, bitB F 0, bitB F 1, roleN (bitB F 2) (bitB F 3), bitB F 4, bitB F 5, bitB F 6, false, Rt, Ct, Gt, Pt, A, M, H, D⟩ : Bp) ?_ ?_); (· rfl); (· rfl); (· rfl); (· exact B1.out)) | ((with_reducible refine store_at ?_ ?_ w.heap.size zeroB (⟨K, bitB F 0, bitB F 1, roleN (bitB F 2) (bitB F 3), bitB F 4, bitB F 5, bitB F 6, false, Rt, Ct, Gt, Pt, A, M, H, D⟩ : Bp) ?_ ?_ ?_ ?_); (· rfl); (· rfl); (· rfl); (· rfl); (· exact O0.out)))
  have O1 := Lib.hid (O0.out.put (m := bpl (⟨K, bitB F 0, bitB F 1, roleN (bitB F 2) (bitB F 3), bitB F 4, bitB F 5, bitB F 6, false, Rt, Ct, Gt, Pt, A, M, H, D⟩ : Bp)) rfl)
  exact bodyPost_ret (v := .tuple #[bp (⟨K, bitB F 0, bitB F 1, roleN (bitB F 2) (bitB F 3), bitB F 4, bitB F 5, bitB F 6, false, Rt, Ct, Gt, Pt, A, M, H, D⟩ : Bp), .int .i64 0]) (results_bp Try.results10 rfl rfl O1.out.blk) rfl ⟨rfl, Bx.bel_cells (m := bpl (⟨K, bitB F 0, bitB F 1, roleN (bitB F 2) (bitB F 3), bitB F 4, bitB F 5, bitB F 6, false, Rt, Ct, Gt, Pt, A, M, H, D⟩ : Bp)) bel (Nat.le_refl w.heap.size)⟩

end Bpd
end Go.Proofs.Ytiokkahldhmhlaa
