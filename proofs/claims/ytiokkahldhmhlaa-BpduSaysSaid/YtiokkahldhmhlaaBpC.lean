/-
  What bpdu.Flags, and the document's answer beside it, say of anything; and that they change nothing that was there.
-/
import Derived.Test.YtiokkahldhmhlaaBpB
namespace Go.Proofs.Ytiokkahldhmhlaa
open Go.RowKit
namespace Bpd
open Oct Mac Eth Epl

theorem or_all : ∀ (N : Fin 256) (k : Fin 8), N.1 / 2 ^ k.1 % 2 = 0 → bits BinOp.or IntKind.i64 (N.1 : Int) ((2 ^ k.1 : Nat) : Int) = ((N.1 + 2 ^ k.1 : Nat) : Int) := by decide +kernel

theorem or_bit (N : Nat) (hN : N < 256) (k : Nat) (hk : k < 8) (h : N / 2 ^ k % 2 = 0) : bits BinOp.or IntKind.i64 (N : Int) ((2 ^ k : Nat) : Int) = ((N + 2 ^ k : Nat) : Int) := or_all ⟨N, hN⟩ ⟨k, hk⟩ h

set_option maxHeartbeats 2000000 in
theorem flags_walk (b : Bp) (f0 f1 f2 f3 f4 f5 f6 f7 : Bool) (w : World)
    (HF : Hid (∀ w, Calls Try.prog 34 #[bp b] w fun e w' => e = .returned (fl f0 f1 f2 f3 f4 f5 f6 f7) ∧ Below w.heap.size w w')) :
    Calls Try.prog 17 #[bp b] w fun e w' => e = .returned (.int .i64 (bitsN [f0, f1, f2, f3, f4, f5, f6, f7] 1)) ∧ Below w.heap.size w w' := by
  have bel := Bx.bel_refl w
  have B0 := Lib.hid (Bx.Blk.new w (bpl b) 26)
  replace bel := Bx.bel_box bel (Obj.cells (bpl b).toArray 26)
  go_enter Try.func17, Try.ntmps17
  go_wp2_with (first | ((with_reducible refine load_at ?_ ?_ (w.heap.size) ?_ b ?_ ?_); (· rfl); (· rfl); (· rfl); (· exact B0.out)))
  refine (HF.out _).mono ?_; rintro e w1 ⟨rfl, hb1⟩
  replace bel := Bx.then_below bel hb1
  replace B0 := Lib.hid (B0.out.keep hb1)
  clear hb1
  go_wp2_with (first | ((with_reducible refine load_at ?_ ?_ (w.heap.size) ?_ b ?_ ?_); (· rfl); (· rfl); (· rfl); (· exact B0.out)))
  skip
  go_loop [3, 8] (fun n i => ∃ k N : Nat, k ≤ 8 ∧ N = bitsN ([f0, f1, f2, f3, f4, f5, f6, f7].take k) 1 ∧ i = .int .i64 k ∧ n = .int .i64 N) (fun _ i => 8 - (intOf i).toNat)
  case atStart => exact ⟨0, 0, by omega, rfl, rfl, rfl⟩
  case round =>
    obtain ⟨k, N, hk, hN, rfl, rfl⟩ := hrel
    have hk' : k = 0 ∨ k = 1 ∨ k = 2 ∨ k = 3 ∨ k = 4 ∨ k = 5 ∨ k = 6 ∨ k = 7 ∨ k = 8 := by omega
    clear hk
    rcases hk' with rfl | rfl | rfl | rfl | rfl | rfl | rfl | rfl | rfl
    · have HN : N = bitsN [] 1 := hN
      have lt : bitsN [] 1 + 1 ≤ 1 := bitsN_lt [] 1
      have sn : bitsN [f0] 1 = bitsN [] 1 + (if f0 = true then 1 else 0) := bitsN_snoc [] f0 1
      have ho : bits BinOp.or IntKind.i64 (N : Int) 1 = ((N + 1 : Nat) : Int) := or_bit N (by omega) 0 (by omega) (by show N / 1 % 2 = 0; omega)
      have hix : ∀ w, (Instr.index 61 (fl f0 f1 f2 f3 f4 f5 f6 f7) (.int .i64 0)).run Try.prog w = .ok (.bool f0) w := fun _ => by kernel_rfl
      replace HN := Lib.hid HN
      replace sn := Lib.hid sn
      clear hN lt
      cases f0
      · go_wp2
        go_round
        case rel => exact ⟨1, N, by omega, (by have a := HN.out; have b := sn.out; simp at b; show _ = bitsN [false] 1; omega), by go_num, by go_num⟩
        case measure => simp [intOf]
      · go_wp2
        go_round
        case rel => exact ⟨1, N + 1, by omega, (by have a := HN.out; have b := sn.out; simp at b; show _ = bitsN [true] 1; omega), by go_num, by go_num⟩
        case measure => simp [intOf]
    · have HN : N = bitsN [f0] 1 := hN
      have lt : bitsN [f0] 1 + 1 ≤ 2 := bitsN_lt [f0] 1
      have sn : bitsN [f0, f1] 1 = bitsN [f0] 1 + (if f1 = true then 2 else 0) := bitsN_snoc [f0] f1 1
      have ho : bits BinOp.or IntKind.i64 (N : Int) 2 = ((N + 2 : Nat) : Int) := or_bit N (by omega) 1 (by omega) (by show N / 2 % 2 = 0; omega)
      have hix : ∀ w, (Instr.index 61 (fl f0 f1 f2 f3 f4 f5 f6 f7) (.int .i64 1)).run Try.prog w = .ok (.bool f1) w := fun _ => by kernel_rfl
      replace HN := Lib.hid HN
      replace sn := Lib.hid sn
      clear hN lt
      cases f1
      · go_wp2
        go_round
        case rel => exact ⟨2, N, by omega, (by have a := HN.out; have b := sn.out; simp at b; show _ = bitsN [f0, false] 1; omega), by go_num, by go_num⟩
        case measure => simp [intOf]
      · go_wp2
        go_round
        case rel => exact ⟨2, N + 2, by omega, (by have a := HN.out; have b := sn.out; simp at b; show _ = bitsN [f0, true] 1; omega), by go_num, by go_num⟩
        case measure => simp [intOf]
    · have HN : N = bitsN [f0, f1] 1 := hN
      have lt : bitsN [f0, f1] 1 + 1 ≤ 4 := bitsN_lt [f0, f1] 1
      have sn : bitsN [f0, f1, f2] 1 = bitsN [f0, f1] 1 + (if f2 = true then 4 else 0) := bitsN_snoc [f0, f1] f2 1
      have ho : bits BinOp.or IntKind.i64 (N : Int) 4 = ((N + 4 : Nat) : Int) := or_bit N (by omega) 2 (by omega) (by show N / 4 % 2 = 0; omega)
      have hix : ∀ w, (Instr.index 61 (fl f0 f1 f2 f3 f4 f5 f6 f7) (.int .i64 2)).run Try.prog w = .ok (.bool f2) w := fun _ => by kernel_rfl
      replace HN := Lib.hid HN
      replace sn := Lib.hid sn
      clear hN lt
      cases f2
      · go_wp2
        go_round
        case rel => exact ⟨3, N, by omega, (by have a := HN.out; have b := sn.out; simp at b; show _ = bitsN [f0, f1, false] 1; omega), by go_num, by go_num⟩
        case measure => simp [intOf]
      · go_wp2
        go_round
        case rel => exact ⟨3, N + 4, by omega, (by have a := HN.out; have b := sn.out; simp at b; show _ = bitsN [f0, f1, true] 1; omega), by go_num, by go_num⟩
        case measure => simp [intOf]
    · have HN : N = bitsN [f0, f1, f2] 1 := hN
      have lt : bitsN [f0, f1, f2] 1 + 1 ≤ 8 := bitsN_lt [f0, f1, f2] 1
      have sn : bitsN [f0, f1, f2, f3] 1 = bitsN [f0, f1, f2] 1 + (if f3 = true then 8 else 0) := bitsN_snoc [f0, f1, f2] f3 1
      have ho : bits BinOp.or IntKind.i64 (N : Int) 8 = ((N + 8 : Nat) : Int) := or_bit N (by omega) 3 (by omega) (by show N / 8 % 2 = 0; omega)
      have hix : ∀ w, (Instr.index 61 (fl f0 f1 f2 f3 f4 f5 f6 f7) (.int .i64 3)).run Try.prog w = .ok (.bool f3) w := fun _ => by kernel_rfl
      replace HN := Lib.hid HN
      replace sn := Lib.hid sn
      clear hN lt
      cases f3
      · go_wp2
        go_round
        case rel => exact ⟨4, N, by omega, (by have a := HN.out; have b := sn.out; simp at b; show _ = bitsN [f0, f1, f2, false] 1; omega), by go_num, by go_num⟩
        case measure => simp [intOf]
      · go_wp2
        go_round
        case rel => exact ⟨4, N + 8, by omega, (by have a := HN.out; have b := sn.out; simp at b; show _ = bitsN [f0, f1, f2, true] 1; omega), by go_num, by go_num⟩
        case measure => simp [intOf]
    · have HN : N = bitsN [f0, f1, f2, f3] 1 := hN
      have lt : bitsN [f0, f1, f2, f3] 1 + 1 ≤ 16 := bitsN_lt [f0, f1, f2, f3] 1
      have sn : bitsN [f0, f1, f2, f3, f4] 1 = bitsN [f0, f1, f2, f3] 1 + (if f4 = true then 16 else 0) := bitsN_snoc [f0, f1, f2, f3] f4 1
      have ho : bits BinOp.or IntKind.i64 (N : Int) 16 = ((N + 16 : Nat) : Int) := or_bit N (by omega) 4 (by omega) (by show N / 16 % 2 = 0; omega)
      have hix : ∀ w, (Instr.index 61 (fl f0 f1 f2 f3 f4 f5 f6 f7) (.int .i64 4)).run Try.prog w = .ok (.bool f4) w := fun _ => by kernel_rfl
      replace HN := Lib.hid HN
      replace sn := Lib.hid sn
      clear hN lt
      cases f4
      · go_wp2
        go_round
        case rel => exact ⟨5, N, by omega, (by have a := HN.out; have b := sn.out; simp at b; show _ = bitsN [f0, f1, f2, f3, false] 1; omega), by go_num, by go_num⟩
        case measure => simp [intOf]
      · go_wp2
        go_round
        case rel => exact ⟨5, N + 16, by omega, (by have a := HN.out; have b := sn.out; simp at b; show _ = bitsN [f0, f1, f2, f3, true] 1; omega), by go_num, by go_num⟩
        case measure => simp [intOf]
    · have HN : N = bitsN [f0, f1, f2, f3, f4] 1 := hN
      have lt : bitsN [f0, f1, f2, f3, f4] 1 + 1 ≤ 32 := bitsN_lt [f0, f1, f2, f3, f4] 1
      have sn : bitsN [f0, f1, f2, f3, f4, f5] 1 = bitsN [f0, f1, f2, f3, f4] 1 + (if f5 = true then 32 else 0) := bitsN_snoc [f0, f1, f2, f3, f4] f5 1
      have ho : bits BinOp.or IntKind.i64 (N : Int) 32 = ((N + 32 : Nat) : Int) := or_bit N (by omega) 5 (by omega) (by show N / 32 % 2 = 0; omega)
      have hix : ∀ w, (Instr.index 61 (fl f0 f1 f2 f3 f4 f5 f6 f7) (.int .i64 5)).run Try.prog w = .ok (.bool f5) w := fun _ => by kernel_rfl
      replace HN := Lib.hid HN
      replace sn := Lib.hid sn
      clear hN lt
      cases f5
      · go_wp2
        go_round
        case rel => exact ⟨6, N, by omega, (by have a := HN.out; have b := sn.out; simp at b; show _ = bitsN [f0, f1, f2, f3, f4, false] 1; omega), by go_num, by go_num⟩
        case measure => simp [intOf]
      · go_wp2
        go_round
        case rel => exact ⟨6, N + 32, by omega, (by have a := HN.out; have b := sn.out; simp at b; show _ = bitsN [f0, f1, f2, f3, f4, true] 1; omega), by go_num, by go_num⟩
        case measure => simp [intOf]
    · have HN : N = bitsN [f0, f1, f2, f3, f4, f5] 1 := hN
      have lt : bitsN [f0, f1, f2, f3, f4, f5] 1 + 1 ≤ 64 := bitsN_lt [f0, f1, f2, f3, f4, f5] 1
      have sn : bitsN [f0, f1, f2, f3, f4, f5, f6] 1 = bitsN [f0, f1, f2, f3, f4, f5] 1 + (if f6 = true then 64 else 0) := bitsN_snoc [f0, f1, f2, f3, f4, f5] f6 1
      have ho : bits BinOp.or IntKind.i64 (N : Int) 64 = ((N + 64 : Nat) : Int) := or_bit N (by omega) 6 (by omega) (by show N / 64 % 2 = 0; omega)
      have hix : ∀ w, (Instr.index 61 (fl f0 f1 f2 f3 f4 f5 f6 f7) (.int .i64 6)).run Try.prog w = .ok (.bool f6) w := fun _ => by kernel_rfl
      replace HN := Lib.hid HN
      replace sn := Lib.hid sn
      clear hN lt
      cases f6
      · go_wp2
        go_round
        case rel => exact ⟨7, N, by omega, (by have a := HN.out; have b := sn.out; simp at b; show _ = bitsN [f0, f1, f2, f3, f4, f5, false] 1; omega), by go_num, by go_num⟩
        case measure => simp [intOf]
      · go_wp2
        go_round
        case rel => exact ⟨7, N + 64, by omega, (by have a := HN.out; have b := sn.out; simp at b; show _ = bitsN [f0, f1, f2, f3, f4, f5, true] 1; omega), by go_num, by go_num⟩
        case measure => simp [intOf]
    · have HN : N = bitsN [f0, f1, f2, f3, f4, f5, f6] 1 := hN
      have lt : bitsN [f0, f1, f2, f3, f4, f5, f6] 1 + 1 ≤ 128 := bitsN_lt [f0, f1, f2, f3, f4, f5, f6] 1
      have sn : bitsN [f0, f1, f2, f3, f4, f5, f6, f7] 1 = bitsN [f0, f1, f2, f3, f4, f5, f6] 1 + (if f7 = true then 128 else 0) := bitsN_snoc [f0, f1, f2, f3, f4, f5, f6] f7 1
      have ho : bits BinOp.or IntKind.i64 (N : Int) 128 = ((N + 128 : Nat) : Int) := or_bit N (by omega) 7 (by omega) (by show N / 128 % 2 = 0; omega)
      have hix : ∀ w, (Instr.index 61 (fl f0 f1 f2 f3 f4 f5 f6 f7) (.int .i64 7)).run Try.prog w = .ok (.bool f7) w := fun _ => by kernel_rfl
      replace HN := Lib.hid HN
      replace sn := Lib.hid sn
      clear hN lt
      cases f7
      · go_wp2
        go_round
        case rel => exact ⟨8, N, by omega, (by have a := HN.out; have b := sn.out; simp at b; show _ = bitsN [f0, f1, f2, f3, f4, f5, f6, false] 1; omega), by go_num, by go_num⟩
        case measure => simp [intOf]
      · go_wp2
        go_round
        case rel => exact ⟨8, N + 128, by omega, (by have a := HN.out; have b := sn.out; simp at b; show _ = bitsN [f0, f1, f2, f3, f4, f5, f6, true] 1; omega), by go_num, by go_num⟩
        case measure => simp [intOf]
    · have HN := Lib.hid (show N = bitsN [f0, f1, f2, f3, f4, f5, f6, f7] 1 from hN)
      clear hN
      go_wp2
      go_ret
      exact ⟨by rw [HN.out]; rfl, bel⟩

set_option maxHeartbeats 2000000 in
theorem rflags_walk (b : Bp) (f0 f1 f4 f5 f6 f7 : Bool) (ro : Int) (q : Nat) (hq : ro % 4 = q) (w : World) :
    Calls Try.prog 18 #[.agg #[.int .i64 b.k, .bool f0, .bool f1, .int .i64 ro, .bool f4, .bool f5, .bool f6, .bool f7, .int .u64 b.r, .int .u64 b.c, .int .u64 b.g, .int .i64 b.p, .int .i64 b.a, .int .i64 b.m, .int .i64 b.h, .int .i64 b.d]] w fun e w' => e = .returned (.int .i64 (4 * q + bitsN [f0, f1, false, false, f4, f5, f6, f7] 1)) ∧ Below w.heap.size w w' := by
  have q1 : bits BinOp.and IntKind.i64 ro 3 = (q : Int) := by rw [and3]; exact hq
  have q2 : IntKind.i64.wrap ((q : Int) * 4) = ((4 * q : Nat) : Int) := by rw [IntWalk.i64_in _ (by omega)]; omega
  go_enter Try.func18, Try.ntmps18
  go_wp2_with fail
  have bel := Bx.bel_refl w
  have B0 := Lib.hid (Bx.Blk.new w [.int .i64 b.k, .bool f0, .bool f1, .int .i64 ro, .bool f4, .bool f5, .bool f6, .bool f7, .int .u64 b.r, .int .u64 b.c, .int .u64 b.g, .int .i64 b.p, .int .i64 b.a, .int .i64 b.m, .int .i64 b.h, .int .i64 b.d] 26)
  replace bel := Bx.bel_box bel (Obj.cells #[.int .i64 b.k, .bool f0, .bool f1, .int .i64 ro, .bool f4, .bool f5, .bool f6, .bool f7, .int .u64 b.r, .int .u64 b.c, .int .u64 b.g, .int .i64 b.p, .int .i64 b.a, .int .i64 b.m, .int .i64 b.h, .int .i64 b.d] 26)
  obtain ⟨c0_0, c0_1, c0_2, c0_3, c0_4, c0_5, c0_6, c0_7, c0_8, c0_9, c0_10, c0_11, c0_12, c0_13, c0_14, c0_15⟩ := B0.out.all16
  clear c0_0 c0_1 c0_2 c0_3 c0_4 c0_5 c0_6 c0_7 c0_8 c0_9 c0_10 c0_11 c0_12 c0_13 c0_14 c0_15
  go_loop [3, 23] (fun n i => ∃ k N : Nat, k ≤ 8 ∧ N = 4 * q + bitsN ([f0, f1, false, false, f4, f5, f6, f7].take k) 1 ∧ i = .int .i64 k ∧ n = .int .i64 N) (fun _ i => 8 - (intOf i).toNat)
  case atStart => exact ⟨0, 4 * q, by omega, by simp [bitsN], rfl, rfl⟩
  case round =>
    obtain ⟨k, N, hk, hN, rfl, rfl⟩ := hrel
    have hk' : k = 0 ∨ k = 1 ∨ k = 2 ∨ k = 3 ∨ k = 4 ∨ k = 5 ∨ k = 6 ∨ k = 7 ∨ k = 8 := by omega
    clear hk
    rcases hk' with rfl | rfl | rfl | rfl | rfl | rfl | rfl | rfl | rfl
    · have HN : N = 4 * q + bitsN [] 1 := hN
      have lt : bitsN [] 1 + 1 ≤ 1 := bitsN_lt [] 1
      have sn : bitsN [f0] 1 = bitsN [] 1 + (if f0 = true then 1 else 0) := bitsN_snoc [] f0 1
      have ho : bits BinOp.or IntKind.i64 (N : Int) 1 = ((N + 1 : Nat) : Int) := or_bit N (by omega) 0 (by omega) (by show N / 1 % 2 = 0; omega)
      have hix : ∀ w, (Instr.index 60 (fl f0 f1 false false f4 f5 f6 f7) (.int .i64 0)).run Try.prog w = .ok (.bool f0) w := fun _ => by kernel_rfl
      replace HN := Lib.hid HN
      replace sn := Lib.hid sn
      clear hN lt
      cases f0
      · go_wp2
        go_round
        case rel => exact ⟨1, N, by omega, (by have a := HN.out; have b := sn.out; simp at b; show _ = 4 * q + bitsN [false] 1; omega), by go_num, by go_num⟩
        case measure => simp [intOf]
      · go_wp2
        go_round
        case rel => exact ⟨1, N + 1, by omega, (by have a := HN.out; have b := sn.out; simp at b; show _ = 4 * q + bitsN [true] 1; omega), by go_num, by go_num⟩
        case measure => simp [intOf]
    · have HN : N = 4 * q + bitsN [f0] 1 := hN
      have lt : bitsN [f0] 1 + 1 ≤ 2 := bitsN_lt [f0] 1
      have sn : bitsN [f0, f1] 1 = bitsN [f0] 1 + (if f1 = true then 2 else 0) := bitsN_snoc [f0] f1 1
      have ho : bits BinOp.or IntKind.i64 (N : Int) 2 = ((N + 2 : Nat) : Int) := or_bit N (by omega) 1 (by omega) (by show N / 2 % 2 = 0; omega)
      have hix : ∀ w, (Instr.index 60 (fl f0 f1 false false f4 f5 f6 f7) (.int .i64 1)).run Try.prog w = .ok (.bool f1) w := fun _ => by kernel_rfl
      replace HN := Lib.hid HN
      replace sn := Lib.hid sn
      clear hN lt
      cases f1
      · go_wp2
        go_round
        case rel => exact ⟨2, N, by omega, (by have a := HN.out; have b := sn.out; simp at b; show _ = 4 * q + bitsN [f0, false] 1; omega), by go_num, by go_num⟩
        case measure => simp [intOf]
      · go_wp2
        go_round
        case rel => exact ⟨2, N + 2, by omega, (by have a := HN.out; have b := sn.out; simp at b; show _ = 4 * q + bitsN [f0, true] 1; omega), by go_num, by go_num⟩
        case measure => simp [intOf]
    · have HN : N = 4 * q + bitsN [f0, f1] 1 := hN
      have lt : bitsN [f0, f1] 1 + 1 ≤ 4 := bitsN_lt [f0, f1] 1
      have sn : bitsN [f0, f1, false] 1 = bitsN [f0, f1] 1 + (if false = true then 4 else 0) := bitsN_snoc [f0, f1] false 1
      have hix : ∀ w, (Instr.index 60 (fl f0 f1 false false f4 f5 f6 f7) (.int .i64 2)).run Try.prog w = .ok (.bool false) w := fun _ => by kernel_rfl
      replace HN := Lib.hid HN
      replace sn := Lib.hid sn
      clear hN lt
      go_wp2
      go_round
      case rel => exact ⟨3, N, by omega, (by have a := HN.out; have b := sn.out; simp at b; show _ = 4 * q + bitsN [f0, f1, false] 1; omega), by go_num, by go_num⟩
      case measure => simp [intOf]
    · have HN : N = 4 * q + bitsN [f0, f1, false] 1 := hN
      have lt : bitsN [f0, f1, false] 1 + 1 ≤ 8 := bitsN_lt [f0, f1, false] 1
      have sn : bitsN [f0, f1, false, false] 1 = bitsN [f0, f1, false] 1 + (if false = true then 8 else 0) := bitsN_snoc [f0, f1, false] false 1
      have hix : ∀ w, (Instr.index 60 (fl f0 f1 false false f4 f5 f6 f7) (.int .i64 3)).run Try.prog w = .ok (.bool false) w := fun _ => by kernel_rfl
      replace HN := Lib.hid HN
      replace sn := Lib.hid sn
      clear hN lt
      go_wp2
      go_round
      case rel => exact ⟨4, N, by omega, (by have a := HN.out; have b := sn.out; simp at b; show _ = 4 * q + bitsN [f0, f1, false, false] 1; omega), by go_num, by go_num⟩
      case measure => simp [intOf]
    · have HN : N = 4 * q + bitsN [f0, f1, false, false] 1 := hN
      have lt : bitsN [f0, f1, false, false] 1 + 13 ≤ 16 := (show ∀ f0 f1 : Bool, bitsN [f0, f1, false, false] 1 + 13 ≤ 16 by decide) f0 f1
      have sn : bitsN [f0, f1, false, false, f4] 1 = bitsN [f0, f1, false, false] 1 + (if f4 = true then 16 else 0) := bitsN_snoc [f0, f1, false, false] f4 1
      have ho : bits BinOp.or IntKind.i64 (N : Int) 16 = ((N + 16 : Nat) : Int) := or_bit N (by omega) 4 (by omega) (by show N / 16 % 2 = 0; omega)
      have hix : ∀ w, (Instr.index 60 (fl f0 f1 false false f4 f5 f6 f7) (.int .i64 4)).run Try.prog w = .ok (.bool f4) w := fun _ => by kernel_rfl
      replace HN := Lib.hid HN
      replace sn := Lib.hid sn
      clear hN lt
      cases f4
      · go_wp2
        go_round
        case rel => exact ⟨5, N, by omega, (by have a := HN.out; have b := sn.out; simp at b; show _ = 4 * q + bitsN [f0, f1, false, false, false] 1; omega), by go_num, by go_num⟩
        case measure => simp [intOf]
      · go_wp2
        go_round
        case rel => exact ⟨5, N + 16, by omega, (by have a := HN.out; have b := sn.out; simp at b; show _ = 4 * q + bitsN [f0, f1, false, false, true] 1; omega), by go_num, by go_num⟩
        case measure => simp [intOf]
    · have HN : N = 4 * q + bitsN [f0, f1, false, false, f4] 1 := hN
      have lt : bitsN [f0, f1, false, false, f4] 1 + 13 ≤ 32 := (show ∀ f0 f1 f4 : Bool, bitsN [f0, f1, false, false, f4] 1 + 13 ≤ 32 by decide) f0 f1 f4
      have sn : bitsN [f0, f1, false, false, f4, f5] 1 = bitsN [f0, f1, false, false, f4] 1 + (if f5 = true then 32 else 0) := bitsN_snoc [f0, f1, false, false, f4] f5 1
      have ho : bits BinOp.or IntKind.i64 (N : Int) 32 = ((N + 32 : Nat) : Int) := or_bit N (by omega) 5 (by omega) (by show N / 32 % 2 = 0; omega)
      have hix : ∀ w, (Instr.index 60 (fl f0 f1 false false f4 f5 f6 f7) (.int .i64 5)).run Try.prog w = .ok (.bool f5) w := fun _ => by kernel_rfl
      replace HN := Lib.hid HN
      replace sn := Lib.hid sn
      clear hN lt
      cases f5
      · go_wp2
        go_round
        case rel => exact ⟨6, N, by omega, (by have a := HN.out; have b := sn.out; simp at b; show _ = 4 * q + bitsN [f0, f1, false, false, f4, false] 1; omega), by go_num, by go_num⟩
        case measure => simp [intOf]
      · go_wp2
        go_round
        case rel => exact ⟨6, N + 32, by omega, (by have a := HN.out; have b := sn.out; simp at b; show _ = 4 * q + bitsN [f0, f1, false, false, f4, true] 1; omega), by go_num, by go_num⟩
        case measure => simp [intOf]
    · have HN : N = 4 * q + bitsN [f0, f1, false, false, f4, f5] 1 := hN
      have lt : bitsN [f0, f1, false, false, f4, f5] 1 + 13 ≤ 64 := (show ∀ f0 f1 f4 f5 : Bool, bitsN [f0, f1, false, false, f4, f5] 1 + 13 ≤ 64 by decide) f0 f1 f4 f5
      have sn : bitsN [f0, f1, false, false, f4, f5, f6] 1 = bitsN [f0, f1, false, false, f4, f5] 1 + (if f6 = true then 64 else 0) := bitsN_snoc [f0, f1, false, false, f4, f5] f6 1
      have ho : bits BinOp.or IntKind.i64 (N : Int) 64 = ((N + 64 : Nat) : Int) := or_bit N (by omega) 6 (by omega) (by show N / 64 % 2 = 0; omega)
      have hix : ∀ w, (Instr.index 60 (fl f0 f1 false false f4 f5 f6 f7) (.int .i64 6)).run Try.prog w = .ok (.bool f6) w := fun _ => by kernel_rfl
      replace HN := Lib.hid HN
      replace sn := Lib.hid sn
      clear hN lt
      cases f6
      · go_wp2
        go_round
        case rel => exact ⟨7, N, by omega, (by have a := HN.out; have b := sn.out; simp at b; show _ = 4 * q + bitsN [f0, f1, false, false, f4, f5, false] 1; omega), by go_num, by go_num⟩
        case measure => simp [intOf]
      · go_wp2
        go_round
        case rel => exact ⟨7, N + 64, by omega, (by have a := HN.out; have b := sn.out; simp at b; show _ = 4 * q + bitsN [f0, f1, false, false, f4, f5, true] 1; omega), by go_num, by go_num⟩
        case measure => simp [intOf]
    · have HN : N = 4 * q + bitsN [f0, f1, false, false, f4, f5, f6] 1 := hN
      have lt : bitsN [f0, f1, false, false, f4, f5, f6] 1 + 13 ≤ 128 := (show ∀ f0 f1 f4 f5 f6 : Bool, bitsN [f0, f1, false, false, f4, f5, f6] 1 + 13 ≤ 128 by decide) f0 f1 f4 f5 f6
      have sn : bitsN [f0, f1, false, false, f4, f5, f6, f7] 1 = bitsN [f0, f1, false, false, f4, f5, f6] 1 + (if f7 = true then 128 else 0) := bitsN_snoc [f0, f1, false, false, f4, f5, f6] f7 1
      have ho : bits BinOp.or IntKind.i64 (N : Int) 128 = ((N + 128 : Nat) : Int) := or_bit N (by omega) 7 (by omega) (by show N / 128 % 2 = 0; omega)
      have hix : ∀ w, (Instr.index 60 (fl f0 f1 false false f4 f5 f6 f7) (.int .i64 7)).run Try.prog w = .ok (.bool f7) w := fun _ => by kernel_rfl
      replace HN := Lib.hid HN
      replace sn := Lib.hid sn
      clear hN lt
      cases f7
      · go_wp2
        go_round
        case rel => exact ⟨8, N, by omega, (by have a := HN.out; have b := sn.out; simp at b; show _ = 4 * q + bitsN [f0, f1, false, false, f4, f5, f6, false] 1; omega), by go_num, by go_num⟩
        case measure => simp [intOf]
      · go_wp2
        go_round
        case rel => exact ⟨8, N + 128, by omega, (by have a := HN.out; have b := sn.out; simp at b; show _ = 4 * q + bitsN [f0, f1, false, false, f4, f5, f6, true] 1; omega), by go_num, by go_num⟩
        case measure => simp [intOf]
    · have HN := Lib.hid (show N = 4 * q + bitsN [f0, f1, false, false, f4, f5, f6, f7] 1 from hN)
      clear hN
      go_wp2
      go_ret
      exact ⟨by rw [HN.out]; rfl, bel⟩

theorem flags_any (b : Bp) (w : World) :
    Calls Try.prog 17 #[bp b] w fun e w' => e = .returned (.int .i64 (flagN b)) ∧ Below w.heap.size w w' :=
  flags_walk b _ _ _ _ _ _ _ _ w (Lib.hid fun w => flags_of b w)

theorem rflags_any (b : Bp) (w : World) :
    Calls Try.prog 18 #[bp b] w fun e w' => e = .returned (.int .i64 (flagN b)) ∧ Below w.heap.size w w' := by
  have h := rflags_walk b b.ch b.pr b.le b.fo b.ag b.ac b.ro (b.ro % 4).toNat (by omega) w
  rw [show flagN b = 4 * (b.ro % 4).toNat + bitsN [b.ch, b.pr, false, false, b.le, b.fo, b.ag, b.ac] 1 by
    unfold flagN flagL
    have hr : b.ro % 4 = 0 ∨ b.ro % 4 = 1 ∨ b.ro % 4 = 2 ∨ b.ro % 4 = 3 := by omega
    have h2 : b.ro % 2 = b.ro % 4 % 2 := by omega
    simp only [bitsN, lowB, highB, h2]
    rcases hr with e | e | e | e <;> simp [e] <;> omega]
  exact h

end Bpd
end Go.Proofs.Ytiokkahldhmhlaa
