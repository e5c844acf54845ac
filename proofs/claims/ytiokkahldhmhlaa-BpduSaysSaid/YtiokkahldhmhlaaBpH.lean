/-
  What bpdu.Read reads of any text, way by way; and that it changes nothing that was there.
-/
import Derived.Test.YtiokkahldhmhlaaBpG
namespace Go.Proofs.Ytiokkahldhmhlaa
open Go.RowKit
namespace Bpd
open Oct Mac Eth Epl

set_option maxHeartbeats 1000000 in
theorem read_tiny (s : ByteArray) (w : World) (hs : s.size < 4) :
    Calls Try.prog 9 #[.string s] w fun e w' => e = .returned (.tuple #[bp zeroB, .int .i64 2]) ∧ Below w.heap.size w w' := by
  have bel := Bx.bel_box (Bx.bel_refl w) (Obj.cells (bpl zeroB).toArray 26)
  have O0 := Lib.hid (Bx.Own.new w (bpl zeroB) 26)
  go_enter Try.func9, Try.ntmps9
  go_wp2_with ((with_reducible refine store_at ?_ ?_ w.heap.size zeroB zeroB ?_ ?_ ?_ ?_); (· rfl); (· rfl); (· rfl); (· rfl); (· exact O0.out))
  have O1 := Lib.hid (O0.out.put (m := bpl zeroB) rfl)
  exact bodyPost_ret (v := .tuple #[bp zeroB, .int .i64 2]) (results_bp Try.results9 rfl rfl O1.out.blk) rfl ⟨rfl, Bx.bel_cells (m := bpl zeroB) bel (Nat.le_refl w.heap.size)⟩

set_option maxHeartbeats 1000000 in
theorem read_form (s : ByteArray) (w : World) (hs : 4 ≤ s.size) (hz : s.size ≤ 9223372036854775807)
    (HP : Hid (∀ w, Calls Try.prog 25 #[.string s, .string ⟨#[0, 0]⟩] w fun e w' => e = .returned (.bool false) ∧ w = w')) :
    Calls Try.prog 9 #[.string s] w fun e w' => e = .returned (.tuple #[bp zeroB, .int .i64 3]) ∧ Below w.heap.size w w' := by
  have bel := Bx.bel_box (Bx.bel_refl w) (Obj.cells (bpl zeroB).toArray 26)
  have O0 := Lib.hid (Bx.Own.new w (bpl zeroB) 26)
  go_enter Try.func9, Try.ntmps9
  go_wp2_with fail
  refine (HP.out _).mono ?_; rintro e w' ⟨rfl, rfl⟩
  go_wp2_with ((with_reducible refine store_at ?_ ?_ w.heap.size zeroB zeroB ?_ ?_ ?_ ?_); (· rfl); (· rfl); (· rfl); (· rfl); (· exact O0.out))
  have O1 := Lib.hid (O0.out.put (m := bpl zeroB) rfl)
  exact bodyPost_ret (v := .tuple #[bp zeroB, .int .i64 3]) (results_bp Try.results9 rfl rfl O1.out.blk) rfl ⟨rfl, Bx.bel_cells (m := bpl zeroB) bel (Nat.le_refl w.heap.size)⟩

set_option maxHeartbeats 1000000 in
theorem read_change (s : ByteArray) (K : Nat) (w : World) (hs : 4 ≤ s.size) (hz : s.size ≤ 9223372036854775807) (h3 : s[3].toNat = K) (hK : K < 256) (e1 : ((K : Int) == 128) = true)
    (HP : Hid (∀ w, Calls Try.prog 25 #[.string s, .string ⟨#[0, 0]⟩] w fun e w' => e = .returned (.bool true) ∧ w = w')) :
    Calls Try.prog 9 #[.string s] w fun e w' => e = .returned (.tuple #[bp (⟨K, false, false, 0, false, false, false, false, 0, 0, 0, 0, 0, 0, 0, 0⟩ : Bp), .int .i64 0]) ∧ Below w.heap.size w w' := by
  have p2 : 2 < s.size := by omega
  have p3 : 3 < s.size := by omega
  have q3 : IntKind.i64.wrap (K : Int) = K := IntWalk.i64_in _ (by omega)
  have bel := Bx.bel_box (Bx.bel_refl w) (Obj.cells (bpl zeroB).toArray 26)
  have O0 := Lib.hid (Bx.Own.new w (bpl zeroB) 26)
  go_enter Try.func9, Try.ntmps9
  go_wp2_with fail
  refine (HP.out _).mono ?_; rintro e w' ⟨rfl, rfl⟩
  go_wp2_with ((with_reducible refine store_at ?_ ?_ w.heap.size zeroB (⟨K, false, false, 0, false, false, false, false, 0, 0, 0, 0, 0, 0, 0, 0⟩ : Bp) ?_ ?_ ?_ ?_); (· rfl); (· rfl); (· rfl); (· rfl); (· exact O0.out))
  have O1 := Lib.hid (O0.out.put (m := bpl (⟨K, false, false, 0, false, false, false, false, 0, 0, 0, 0, 0, 0, 0, 0⟩ : Bp)) rfl)
  exact bodyPost_ret (v := .tuple #[bp (⟨K, false, false, 0, false, false, false, false, 0, 0, 0, 0, 0, 0, 0, 0⟩ : Bp), .int .i64 0]) (results_bp Try.results9 rfl rfl O1.out.blk) rfl ⟨rfl, Bx.bel_cells (m := bpl (⟨K, false, false, 0, false, false, false, false, 0, 0, 0, 0, 0, 0, 0, 0⟩ : Bp)) bel (Nat.le_refl w.heap.size)⟩

set_option maxHeartbeats 1000000 in
theorem read_kind (s : ByteArray) (K : Nat) (w : World) (hs : 4 ≤ s.size) (hz : s.size ≤ 9223372036854775807) (h3 : s[3].toNat = K) (hK : K < 256) (e1 : ((K : Int) == 128) = false) (e2 : ((K : Int) != 0) = true) (e3 : ((K : Int) != 2) = true)
    (HP : Hid (∀ w, Calls Try.prog 25 #[.string s, .string ⟨#[0, 0]⟩] w fun e w' => e = .returned (.bool true) ∧ w = w')) :
    Calls Try.prog 9 #[.string s] w fun e w' => e = .returned (.tuple #[bp zeroB, .int .i64 10]) ∧ Below w.heap.size w w' := by
  have p2 : 2 < s.size := by omega
  have p3 : 3 < s.size := by omega
  have q3 : IntKind.i64.wrap (K : Int) = K := IntWalk.i64_in _ (by omega)
  have bel := Bx.bel_box (Bx.bel_refl w) (Obj.cells (bpl zeroB).toArray 26)
  have O0 := Lib.hid (Bx.Own.new w (bpl zeroB) 26)
  go_enter Try.func9, Try.ntmps9
  go_wp2_with fail
  refine (HP.out _).mono ?_; rintro e w' ⟨rfl, rfl⟩
  go_wp2_with ((with_reducible refine store_at ?_ ?_ w.heap.size zeroB zeroB ?_ ?_ ?_ ?_); (· rfl); (· rfl); (· rfl); (· rfl); (· exact O0.out))
  have O1 := Lib.hid (O0.out.put (m := bpl zeroB) rfl)
  exact bodyPost_ret (v := .tuple #[bp zeroB, .int .i64 10]) (results_bp Try.results9 rfl rfl O1.out.blk) rfl ⟨rfl, Bx.bel_cells (m := bpl zeroB) bel (Nat.le_refl w.heap.size)⟩

set_option maxHeartbeats 1000000 in
theorem read_vers (s : ByteArray) (K V : Nat) (w : World) (hs : 4 ≤ s.size) (hz : s.size ≤ 9223372036854775807) (h3 : s[3].toNat = K) (hK : K < 256) (h2 : s[2].toNat = V) (e1 : ((K : Int) == 128) = false) (e2 : ((K : Int) != 0) = true) (e3 : ((K : Int) != 2) = false) (hV : V < 2)
    (HP : Hid (∀ w, Calls Try.prog 25 #[.string s, .string ⟨#[0, 0]⟩] w fun e w' => e = .returned (.bool true) ∧ w = w')) :
    Calls Try.prog 9 #[.string s] w fun e w' => e = .returned (.tuple #[bp zeroB, .int .i64 10]) ∧ Below w.heap.size w w' := by
  have p2 : 2 < s.size := by omega
  have p3 : 3 < s.size := by omega
  have q3 : IntKind.i64.wrap (K : Int) = K := IntWalk.i64_in _ (by omega)
  have bel := Bx.bel_box (Bx.bel_refl w) (Obj.cells (bpl zeroB).toArray 26)
  have O0 := Lib.hid (Bx.Own.new w (bpl zeroB) 26)
  go_enter Try.func9, Try.ntmps9
  go_wp2_with fail
  refine (HP.out _).mono ?_; rintro e w' ⟨rfl, rfl⟩
  go_wp2_with ((with_reducible refine store_at ?_ ?_ w.heap.size zeroB zeroB ?_ ?_ ?_ ?_); (· rfl); (· rfl); (· rfl); (· rfl); (· exact O0.out))
  have O1 := Lib.hid (O0.out.put (m := bpl zeroB) rfl)
  exact bodyPost_ret (v := .tuple #[bp zeroB, .int .i64 10]) (results_bp Try.results9 rfl rfl O1.out.blk) rfl ⟨rfl, Bx.bel_cells (m := bpl zeroB) bel (Nat.le_refl w.heap.size)⟩

set_option maxHeartbeats 1000000 in
theorem read_short0 (s : ByteArray) (K : Nat) (L : Int) (w : World) (hs : 4 ≤ s.size) (hz : s.size ≤ 9223372036854775807) (h3 : s[3].toNat = K) (hK : K < 256) (e1 : ((K : Int) == 128) = false) (e2 : ((K : Int) != 0) = false) (hl : (s.size : Int) < L)
    (HP : Hid (∀ w, Calls Try.prog 25 #[.string s, .string ⟨#[0, 0]⟩] w fun e w' => e = .returned (.bool true) ∧ w = w'))
    (HL : Hid (∀ w, Calls Try.prog 23 #[.int .i64 K] w fun e w' => e = .returned (.int .i64 L) ∧ w = w')) :
    Calls Try.prog 9 #[.string s] w fun e w' => e = .returned (.tuple #[bp zeroB, .int .i64 2]) ∧ Below w.heap.size w w' := by
  have p2 : 2 < s.size := by omega
  have p3 : 3 < s.size := by omega
  have q3 : IntKind.i64.wrap (K : Int) = K := IntWalk.i64_in _ (by omega)
  have bel := Bx.bel_box (Bx.bel_refl w) (Obj.cells (bpl zeroB).toArray 26)
  have O0 := Lib.hid (Bx.Own.new w (bpl zeroB) 26)
  go_enter Try.func9, Try.ntmps9
  go_wp2_with fail
  refine (HP.out _).mono ?_; rintro e w' ⟨rfl, rfl⟩
  go_wp2_with fail
  refine (HL.out _).mono ?_; rintro e w' ⟨rfl, rfl⟩
  go_wp2_with ((with_reducible refine store_at ?_ ?_ w.heap.size zeroB zeroB ?_ ?_ ?_ ?_); (· rfl); (· rfl); (· rfl); (· rfl); (· exact O0.out))
  have O1 := Lib.hid (O0.out.put (m := bpl zeroB) rfl)
  exact bodyPost_ret (v := .tuple #[bp zeroB, .int .i64 2]) (results_bp Try.results9 rfl rfl O1.out.blk) rfl ⟨rfl, Bx.bel_cells (m := bpl zeroB) bel (Nat.le_refl w.heap.size)⟩

set_option maxHeartbeats 1000000 in
theorem read_old0 (s : ByteArray) (K : Nat) (A M : Nat) (L : Int) (w : World) (hs : 4 ≤ s.size) (hz : s.size ≤ 9223372036854775807) (h3 : s[3].toNat = K) (hK : K < 256) (e1 : ((K : Int) == 128) = false) (e2 : ((K : Int) != 0) = false) (hl : L ≤ (s.size : Int)) (hl' : 35 ≤ s.size) (h27 : s[27].toNat = A) (h29 : s[29].toNat = M) (ho : M ≤ A)
    (HP : Hid (∀ w, Calls Try.prog 25 #[.string s, .string ⟨#[0, 0]⟩] w fun e w' => e = .returned (.bool true) ∧ w = w'))
    (HL : Hid (∀ w, Calls Try.prog 23 #[.int .i64 K] w fun e w' => e = .returned (.int .i64 L) ∧ w = w')) :
    Calls Try.prog 9 #[.string s] w fun e w' => e = .returned (.tuple #[bp zeroB, .int .i64 3]) ∧ Below w.heap.size w w' := by
  have p2 : 2 < s.size := by omega
  have p3 : 3 < s.size := by omega
  have q3 : IntKind.i64.wrap (K : Int) = K := IntWalk.i64_in _ (by omega)
  have p27 : 27 < s.size := by omega
  have p29 : 29 < s.size := by omega
  have bel := Bx.bel_box (Bx.bel_refl w) (Obj.cells (bpl zeroB).toArray 26)
  have O0 := Lib.hid (Bx.Own.new w (bpl zeroB) 26)
  go_enter Try.func9, Try.ntmps9
  go_wp2_with fail
  refine (HP.out _).mono ?_; rintro e w' ⟨rfl, rfl⟩
  go_wp2_with fail
  refine (HL.out _).mono ?_; rintro e w' ⟨rfl, rfl⟩
  go_wp2_with fail
  go_region
  replace O0 := Lib.hid O0.out.draw
  replace bel := Bx.bel_drewn bel
  go_wp2_with ((with_reducible refine store_at ?_ ?_ w.heap.size zeroB zeroB ?_ ?_ ?_ ?_); (· rfl); (· rfl); (· rfl); (· rfl); (· exact O0.out))
  have O1 := Lib.hid (O0.out.put (m := bpl zeroB) rfl)
  exact bodyPost_ret (v := .tuple #[bp zeroB, .int .i64 3]) (results_bp Try.results9 rfl rfl O1.out.blk) rfl ⟨rfl, Bx.bel_cells (m := bpl zeroB) bel (Nat.le_refl w.heap.size)⟩

set_option maxHeartbeats 1000000 in
theorem read_full0 (s : ByteArray) (b : Bp) (K : Nat) (A M : Nat) (L : Int) (w : World) (hs : 4 ≤ s.size) (hz : s.size ≤ 9223372036854775807) (h3 : s[3].toNat = K) (hK : K < 256) (e1 : ((K : Int) == 128) = false) (e2 : ((K : Int) != 0) = false) (hl : L ≤ (s.size : Int)) (hl' : 35 ≤ s.size) (h27 : s[27].toNat = A) (h29 : s[29].toNat = M) (ho : A < M)
    (HP : Hid (∀ w, Calls Try.prog 25 #[.string s, .string ⟨#[0, 0]⟩] w fun e w' => e = .returned (.bool true) ∧ w = w'))
    (HL : Hid (∀ w, Calls Try.prog 23 #[.int .i64 K] w fun e w' => e = .returned (.int .i64 L) ∧ w = w'))
    (HW : Hid (∀ w, Calls Try.prog 26 #[.int .i64 K, .string s] w fun e w' => e = .returned (bp b) ∧ Below w.heap.size w w')) :
    Calls Try.prog 9 #[.string s] w fun e w' => e = .returned (.tuple #[bp b, .int .i64 0]) ∧ Below w.heap.size w w' := by
  have p2 : 2 < s.size := by omega
  have p3 : 3 < s.size := by omega
  have q3 : IntKind.i64.wrap (K : Int) = K := IntWalk.i64_in _ (by omega)
  have p27 : 27 < s.size := by omega
  have p29 : 29 < s.size := by omega
  have bel := Bx.bel_box (Bx.bel_refl w) (Obj.cells (bpl zeroB).toArray 26)
  have O0 := Lib.hid (Bx.Own.new w (bpl zeroB) 26)
  go_enter Try.func9, Try.ntmps9
  go_wp2_with fail
  refine (HP.out _).mono ?_; rintro e w' ⟨rfl, rfl⟩
  go_wp2_with fail
  refine (HL.out _).mono ?_; rintro e w' ⟨rfl, rfl⟩
  go_wp2_with fail
  go_region
  replace O0 := Lib.hid O0.out.draw
  replace bel := Bx.bel_drewn bel
  go_wp2_with fail
  refine (HW.out _).mono ?_; rintro e w1 ⟨rfl, hb1⟩
  replace bel := Bx.then_below bel hb1
  replace O0 := Lib.hid (O0.out.keep hb1)
  clear hb1
  go_wp2_with ((with_reducible refine store_at ?_ ?_ w.heap.size zeroB b ?_ ?_ ?_ ?_); (· rfl); (· rfl); (· rfl); (· rfl); (· exact O0.out))
  have O1 := Lib.hid (O0.out.put (m := bpl b) rfl)
  exact bodyPost_ret (v := .tuple #[bp b, .int .i64 0]) (results_bp Try.results9 rfl rfl O1.out.blk) rfl ⟨rfl, Bx.bel_cells (m := bpl b) bel (Nat.le_refl w.heap.size)⟩

set_option maxHeartbeats 1000000 in
theorem read_short2 (s : ByteArray) (K V : Nat) (L : Int) (w : World) (hs : 4 ≤ s.size) (hz : s.size ≤ 9223372036854775807) (h3 : s[3].toNat = K) (hK : K < 256) (h2 : s[2].toNat = V) (e1 : ((K : Int) == 128) = false) (e2 : ((K : Int) != 0) = true) (e3 : ((K : Int) != 2) = false) (hV : 2 ≤ V) (hl : (s.size : Int) < L)
    (HP : Hid (∀ w, Calls Try.prog 25 #[.string s, .string ⟨#[0, 0]⟩] w fun e w' => e = .returned (.bool true) ∧ w = w'))
    (HL : Hid (∀ w, Calls Try.prog 23 #[.int .i64 K] w fun e w' => e = .returned (.int .i64 L) ∧ w = w')) :
    Calls Try.prog 9 #[.string s] w fun e w' => e = .returned (.tuple #[bp zeroB, .int .i64 2]) ∧ Below w.heap.size w w' := by
  have p2 : 2 < s.size := by omega
  have p3 : 3 < s.size := by omega
  have q3 : IntKind.i64.wrap (K : Int) = K := IntWalk.i64_in _ (by omega)
  have bel := Bx.bel_box (Bx.bel_refl w) (Obj.cells (bpl zeroB).toArray 26)
  have O0 := Lib.hid (Bx.Own.new w (bpl zeroB) 26)
  go_enter Try.func9, Try.ntmps9
  go_wp2_with fail
  refine (HP.out _).mono ?_; rintro e w' ⟨rfl, rfl⟩
  go_wp2_with fail
  refine (HL.out _).mono ?_; rintro e w' ⟨rfl, rfl⟩
  go_wp2_with ((with_reducible refine store_at ?_ ?_ w.heap.size zeroB zeroB ?_ ?_ ?_ ?_); (· rfl); (· rfl); (· rfl); (· rfl); (· exact O0.out))
  have O1 := Lib.hid (O0.out.put (m := bpl zeroB) rfl)
  exact bodyPost_ret (v := .tuple #[bp zeroB, .int .i64 2]) (results_bp Try.results9 rfl rfl O1.out.blk) rfl ⟨rfl, Bx.bel_cells (m := bpl zeroB) bel (Nat.le_refl w.heap.size)⟩

set_option maxHeartbeats 1000000 in
theorem read_old2 (s : ByteArray) (K V : Nat) (A M : Nat) (L : Int) (w : World) (hs : 4 ≤ s.size) (hz : s.size ≤ 9223372036854775807) (h3 : s[3].toNat = K) (hK : K < 256) (h2 : s[2].toNat = V) (e1 : ((K : Int) == 128) = false) (e2 : ((K : Int) != 0) = true) (e3 : ((K : Int) != 2) = false) (hV : 2 ≤ V) (hl : L ≤ (s.size : Int)) (hl' : 35 ≤ s.size) (h27 : s[27].toNat = A) (h29 : s[29].toNat = M) (ho : M ≤ A)
    (HP : Hid (∀ w, Calls Try.prog 25 #[.string s, .string ⟨#[0, 0]⟩] w fun e w' => e = .returned (.bool true) ∧ w = w'))
    (HL : Hid (∀ w, Calls Try.prog 23 #[.int .i64 K] w fun e w' => e = .returned (.int .i64 L) ∧ w = w')) :
    Calls Try.prog 9 #[.string s] w fun e w' => e = .returned (.tuple #[bp zeroB, .int .i64 3]) ∧ Below w.heap.size w w' := by
  have p2 : 2 < s.size := by omega
  have p3 : 3 < s.size := by omega
  have q3 : IntKind.i64.wrap (K : Int) = K := IntWalk.i64_in _ (by omega)
  have p27 : 27 < s.size := by omega
  have p29 : 29 < s.size := by omega
  have bel := Bx.bel_box (Bx.bel_refl w) (Obj.cells (bpl zeroB).toArray 26)
  have O0 := Lib.hid (Bx.Own.new w (bpl zeroB) 26)
  go_enter Try.func9, Try.ntmps9
  go_wp2_with fail
  refine (HP.out _).mono ?_; rintro e w' ⟨rfl, rfl⟩
  go_wp2_with fail
  refine (HL.out _).mono ?_; rintro e w' ⟨rfl, rfl⟩
  go_wp2_with fail
  go_region
  replace O0 := Lib.hid O0.out.draw
  replace bel := Bx.bel_drewn bel
  go_wp2_with ((with_reducible refine store_at ?_ ?_ w.heap.size zeroB zeroB ?_ ?_ ?_ ?_); (· rfl); (· rfl); (· rfl); (· rfl); (· exact O0.out))
  have O1 := Lib.hid (O0.out.put (m := bpl zeroB) rfl)
  exact bodyPost_ret (v := .tuple #[bp zeroB, .int .i64 3]) (results_bp Try.results9 rfl rfl O1.out.blk) rfl ⟨rfl, Bx.bel_cells (m := bpl zeroB) bel (Nat.le_refl w.heap.size)⟩

set_option maxHeartbeats 1000000 in
theorem read_full2 (s : ByteArray) (b : Bp) (K V : Nat) (A M : Nat) (L : Int) (w : World) (hs : 4 ≤ s.size) (hz : s.size ≤ 9223372036854775807) (h3 : s[3].toNat = K) (hK : K < 256) (h2 : s[2].toNat = V) (e1 : ((K : Int) == 128) = false) (e2 : ((K : Int) != 0) = true) (e3 : ((K : Int) != 2) = false) (hV : 2 ≤ V) (hl : L ≤ (s.size : Int)) (hl' : 35 ≤ s.size) (h27 : s[27].toNat = A) (h29 : s[29].toNat = M) (ho : A < M)
    (HP : Hid (∀ w, Calls Try.prog 25 #[.string s, .string ⟨#[0, 0]⟩] w fun e w' => e = .returned (.bool true) ∧ w = w'))
    (HL : Hid (∀ w, Calls Try.prog 23 #[.int .i64 K] w fun e w' => e = .returned (.int .i64 L) ∧ w = w'))
    (HW : Hid (∀ w, Calls Try.prog 26 #[.int .i64 K, .string s] w fun e w' => e = .returned (bp b) ∧ Below w.heap.size w w')) :
    Calls Try.prog 9 #[.string s] w fun e w' => e = .returned (.tuple #[bp b, .int .i64 0]) ∧ Below w.heap.size w w' := by
  have p2 : 2 < s.size := by omega
  have p3 : 3 < s.size := by omega
  have q3 : IntKind.i64.wrap (K : Int) = K := IntWalk.i64_in _ (by omega)
  have p27 : 27 < s.size := by omega
  have p29 : 29 < s.size := by omega
  have bel := Bx.bel_box (Bx.bel_refl w) (Obj.cells (bpl zeroB).toArray 26)
  have O0 := Lib.hid (Bx.Own.new w (bpl zeroB) 26)
  go_enter Try.func9, Try.ntmps9
  go_wp2_with fail
  refine (HP.out _).mono ?_; rintro e w' ⟨rfl, rfl⟩
  go_wp2_with fail
  refine (HL.out _).mono ?_; rintro e w' ⟨rfl, rfl⟩
  go_wp2_with fail
  go_region
  replace O0 := Lib.hid O0.out.draw
  replace bel := Bx.bel_drewn bel
  go_wp2_with fail
  refine (HW.out _).mono ?_; rintro e w1 ⟨rfl, hb1⟩
  replace bel := Bx.then_below bel hb1
  replace O0 := Lib.hid (O0.out.keep hb1)
  clear hb1
  go_wp2_with ((with_reducible refine store_at ?_ ?_ w.heap.size zeroB b ?_ ?_ ?_ ?_); (· rfl); (· rfl); (· rfl); (· rfl); (· exact O0.out))
  have O1 := Lib.hid (O0.out.put (m := bpl b) rfl)
  exact bodyPost_ret (v := .tuple #[bp b, .int .i64 0]) (results_bp Try.results9 rfl rfl O1.out.blk) rfl ⟨rfl, Bx.bel_cells (m := bpl b) bel (Nat.le_refl w.heap.size)⟩

end Bpd
end Go.Proofs.Ytiokkahldhmhlaa
