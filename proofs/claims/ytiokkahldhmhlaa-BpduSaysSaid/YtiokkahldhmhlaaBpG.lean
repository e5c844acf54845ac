/-
  What bpdu's readers of flags, of a role, of a vector and of the whole answer; and that they change nothing that was there.
-/
import Derived.Test.YtiokkahldhmhlaaBpB
import Derived.Test.YtiokkahldhmhlaaOct
import Derived.Test.YtiokkahldhmhlaaEplNum
namespace Go.Proofs.Ytiokkahldhmhlaa
open Go.RowKit
namespace Bpd
open Oct Mac Eth Epl

theorem and_u8 (m : Nat) (hm : m < 256) : (bits BinOp.and IntKind.u8 (m : Int) 1 != 0) = decide (m % 2 = 1) := by
  have h : ∀ m : Fin 256, (bits BinOp.and IntKind.u8 (m.1 : Int) 1 != 0) = decide (m.1 % 2 = 1) := by decide +kernel
  exact h ⟨m, hm⟩

set_option maxHeartbeats 1000000 in
theorem flags_in (n : Nat) (hn : n < 256) (w : World) :
    Calls Try.prog 39 #[.int .u8 n] w fun e w' => e = .returned (fl (bitB n 0) (bitB n 1) (bitB n 2) (bitB n 3) (bitB n 4) (bitB n 5) (bitB n 6) (bitB n 7)) ∧ Below w.heap.size w w' := by
  have b0 : (bits BinOp.and IntKind.u8 (n : Int) 1 != 0) = bitB n 0 := by rw [and_u8 n hn]; simp [bitB]
  have b1 : (bits BinOp.and IntKind.u8 ((n : Int) / 2) 1 != 0) = bitB n 1 := by rw [show (n : Int) / 2 = ((n / 2 : Nat) : Int) by omega, and_u8 _ (by omega)]; rfl
  have b2 : (bits BinOp.and IntKind.u8 ((n : Int) / 4) 1 != 0) = bitB n 2 := by rw [show (n : Int) / 4 = ((n / 4 : Nat) : Int) by omega, and_u8 _ (by omega)]; rfl
  have b3 : (bits BinOp.and IntKind.u8 ((n : Int) / 8) 1 != 0) = bitB n 3 := by rw [show (n : Int) / 8 = ((n / 8 : Nat) : Int) by omega, and_u8 _ (by omega)]; rfl
  have b4 : (bits BinOp.and IntKind.u8 ((n : Int) / 16) 1 != 0) = bitB n 4 := by rw [show (n : Int) / 16 = ((n / 16 : Nat) : Int) by omega, and_u8 _ (by omega)]; rfl
  have b5 : (bits BinOp.and IntKind.u8 ((n : Int) / 32) 1 != 0) = bitB n 5 := by rw [show (n : Int) / 32 = ((n / 32 : Nat) : Int) by omega, and_u8 _ (by omega)]; rfl
  have b6 : (bits BinOp.and IntKind.u8 ((n : Int) / 64) 1 != 0) = bitB n 6 := by rw [show (n : Int) / 64 = ((n / 64 : Nat) : Int) by omega, and_u8 _ (by omega)]; rfl
  have b7 : (bits BinOp.and IntKind.u8 ((n : Int) / 128) 1 != 0) = bitB n 7 := by rw [show (n : Int) / 128 = ((n / 128 : Nat) : Int) by omega, and_u8 _ (by omega)]; rfl
  go_enter Try.func39, Try.ntmps39
  go_wp2
  refine wp_loop_rounds 9 ?_
  rw [rounds_succ]
  go_wp2
  rw [rounds_succ]
  go_wp2
  rw [rounds_succ]
  go_wp2
  rw [rounds_succ]
  go_wp2
  rw [rounds_succ]
  go_wp2
  rw [rounds_succ]
  go_wp2
  rw [rounds_succ]
  go_wp2
  rw [rounds_succ]
  go_wp2
  rw [rounds_succ]
  go_wp2
  refine bodyPost_ret (v := fl (bitB n 0) (bitB n 1) (bitB n 2) (bitB n 3) (bitB n 4) (bitB n 5) (bitB n 6) (bitB n 7)) ?_ rfl ⟨rfl, ?_⟩
  · simp [results, Try.results39, go_sem]
  · exact Bx.bel_box (Bx.box_below _ _) _

set_option maxHeartbeats 1000000 in
theorem role_0 (f0 f1 f4 f5 f6 f7 : Bool) (w : World) :
    Calls Try.prog 40 #[fl f0 f1 false false f4 f5 f6 f7] w fun e w' => e = .returned (.int .i64 0) ∧ Below w.heap.size w w' := by
  have q0 : bits BinOp.or IntKind.i64 0 1 = 1 := by decide +kernel
  have q1 : bits BinOp.or IntKind.i64 0 2 = 2 := by decide +kernel
  have q2 : bits BinOp.or IntKind.i64 1 2 = 3 := by decide +kernel
  go_enter Try.func40, Try.ntmps40
  go_wp2
  go_ret
  exact ⟨rfl, Bx.box_below _ _⟩

set_option maxHeartbeats 1000000 in
theorem role_2 (f0 f1 f4 f5 f6 f7 : Bool) (w : World) :
    Calls Try.prog 40 #[fl f0 f1 false true f4 f5 f6 f7] w fun e w' => e = .returned (.int .i64 2) ∧ Below w.heap.size w w' := by
  have q0 : bits BinOp.or IntKind.i64 0 1 = 1 := by decide +kernel
  have q1 : bits BinOp.or IntKind.i64 0 2 = 2 := by decide +kernel
  have q2 : bits BinOp.or IntKind.i64 1 2 = 3 := by decide +kernel
  go_enter Try.func40, Try.ntmps40
  go_wp2
  go_ret
  exact ⟨rfl, Bx.box_below _ _⟩

set_option maxHeartbeats 1000000 in
theorem role_1 (f0 f1 f4 f5 f6 f7 : Bool) (w : World) :
    Calls Try.prog 40 #[fl f0 f1 true false f4 f5 f6 f7] w fun e w' => e = .returned (.int .i64 1) ∧ Below w.heap.size w w' := by
  have q0 : bits BinOp.or IntKind.i64 0 1 = 1 := by decide +kernel
  have q1 : bits BinOp.or IntKind.i64 0 2 = 2 := by decide +kernel
  have q2 : bits BinOp.or IntKind.i64 1 2 = 3 := by decide +kernel
  go_enter Try.func40, Try.ntmps40
  go_wp2
  go_ret
  exact ⟨rfl, Bx.box_below _ _⟩

set_option maxHeartbeats 1000000 in
theorem role_3 (f0 f1 f4 f5 f6 f7 : Bool) (w : World) :
    Calls Try.prog 40 #[fl f0 f1 true true f4 f5 f6 f7] w fun e w' => e = .returned (.int .i64 3) ∧ Below w.heap.size w w' := by
  have q0 : bits BinOp.or IntKind.i64 0 1 = 1 := by decide +kernel
  have q1 : bits BinOp.or IntKind.i64 0 2 = 2 := by decide +kernel
  have q2 : bits BinOp.or IntKind.i64 1 2 = 3 := by decide +kernel
  go_enter Try.func40, Try.ntmps40
  go_wp2
  go_ret
  exact ⟨rfl, Bx.box_below _ _⟩

theorem role_of (f0 f1 f2 f3 f4 f5 f6 f7 : Bool) (w : World) :
    Calls Try.prog 40 #[fl f0 f1 f2 f3 f4 f5 f6 f7] w fun e w' => e = .returned (.int .i64 (roleN f2 f3)) ∧ Below w.heap.size w w' := by
  cases f2 <;> cases f3
  · exact role_0 f0 f1 f4 f5 f6 f7 w
  · exact role_2 f0 f1 f4 f5 f6 f7 w
  · exact role_1 f0 f1 f4 f5 f6 f7 w
  · exact role_3 f0 f1 f4 f5 f6 f7 w

set_option maxHeartbeats 1000000 in
theorem vector_in (s : ByteArray) (R C G P : Nat) (E0 E1 E2 E3 : Int) (w : World) (hP : P < 65536)
    (H0 : Hid (∀ w, Calls Try.prog 49 #[.string s, .int .i64 5, .int .i64 8] w fun e w' => e = .returned (.tuple #[.int .u64 R, .int .i64 E0]) ∧ w = w'))
    (H1 : Hid (∀ w, Calls Try.prog 49 #[.string s, .int .i64 13, .int .i64 4] w fun e w' => e = .returned (.tuple #[.int .u64 C, .int .i64 E1]) ∧ w = w'))
    (H2 : Hid (∀ w, Calls Try.prog 49 #[.string s, .int .i64 17, .int .i64 8] w fun e w' => e = .returned (.tuple #[.int .u64 G, .int .i64 E2]) ∧ w = w'))
    (H3 : Hid (∀ w, Calls Try.prog 49 #[.string s, .int .i64 25, .int .i64 2] w fun e w' => e = .returned (.tuple #[.int .u64 P, .int .i64 E3]) ∧ w = w')) :
    Calls Try.prog 41 #[.string s] w fun e w' => e = .returned (.agg #[.int .u64 R, .int .u64 C, .int .u64 G, .int .i64 P]) ∧ Below w.heap.size w w' := by
  have q : IntKind.i64.wrap (P : Int) = P := IntWalk.i64_in _ (by omega)
  go_enter Try.func41, Try.ntmps41
  go_wp2_with fail
  refine (H0.out _).mono ?_; rintro e w' ⟨rfl, rfl⟩
  go_wp2_with fail
  refine (H1.out _).mono ?_; rintro e w' ⟨rfl, rfl⟩
  go_wp2_with fail
  refine (H2.out _).mono ?_; rintro e w' ⟨rfl, rfl⟩
  go_wp2_with fail
  refine (H3.out _).mono ?_; rintro e w' ⟨rfl, rfl⟩
  go_wp2_with fail
  refine bodyPost_ret (v := .agg #[.int .u64 R, .int .u64 C, .int .u64 G, .int .i64 P]) ?_ rfl ⟨rfl, ?_⟩
  · simp [results, Try.results41, go_sem]
  · exact Bx.box_below _ _

set_option maxRecDepth 100000 in
set_option maxHeartbeats 4000000 in
theorem whole_walk (s : ByteArray) (Kd Ro P : Int) (N R C G A M H D : Nat) (g0 g1 g2 g3 g4 g5 g6 g7 a0 a1 a2 a3 a4 a5 a6 a7 : Bool) (w : World) (hs : 35 ≤ s.size) (h4 : s[4].toNat = N) (h27 : s[27].toNat = A) (h29 : s[29].toNat = M) (h31 : s[31].toNat = H) (h33 : s[33].toNat = D)
    (HI : Hid (∀ w, Calls Try.prog 39 #[.int .u8 N] w fun e w' => e = .returned (fl g0 g1 g2 g3 g4 g5 g6 g7) ∧ Below w.heap.size w w'))
    (HA : Hid (∀ w, Calls Try.prog 38 #[.int .i64 Kd, fl g0 g1 g2 g3 g4 g5 g6 g7] w fun e w' => e = .returned (fl a0 a1 a2 a3 a4 a5 a6 a7) ∧ Below w.heap.size w w'))
    (HR : Hid (∀ w, Calls Try.prog 40 #[fl a0 a1 a2 a3 a4 a5 a6 a7] w fun e w' => e = .returned (.int .i64 Ro) ∧ Below w.heap.size w w'))
    (HV : Hid (∀ w, Calls Try.prog 41 #[.string s] w fun e w' => e = .returned (.agg #[.int .u64 R, .int .u64 C, .int .u64 G, .int .i64 P]) ∧ Below w.heap.size w w')) :
    Calls Try.prog 26 #[.int .i64 Kd, .string s] w fun e w' => e = .returned (bp (⟨Kd, a0, a1, Ro, a4, a5, a6, a7, R, C, G, P, A, M, H, D⟩ : Bp)) ∧ Below w.heap.size w w' := by
  have p4 : 4 < s.size := by omega
  have p27 : 27 < s.size := by omega
  have p29 : 29 < s.size := by omega
  have p31 : 31 < s.size := by omega
  have p33 : 33 < s.size := by omega
  have qA : IntKind.i64.wrap (A : Int) = A := IntWalk.i64_in _ (by have := (s[27]).toNat_lt; omega)
  have qM : IntKind.i64.wrap (M : Int) = M := IntWalk.i64_in _ (by have := (s[29]).toNat_lt; omega)
  have qH : IntKind.i64.wrap (H : Int) = H := IntWalk.i64_in _ (by have := (s[31]).toNat_lt; omega)
  have qD : IntKind.i64.wrap (D : Int) = D := IntWalk.i64_in _ (by have := (s[33]).toNat_lt; omega)
  have r27 : (27 : Int) < (s.size : Int) := by omega
  have r29 : (29 : Int) < (s.size : Int) := by omega
  have r31 : (31 : Int) < (s.size : Int) := by omega
  have r33 : (33 : Int) < (s.size : Int) := by omega
  have bel := Bx.bel_box (Bx.bel_refl w) (Obj.cells (bpl zeroB).toArray 26)
  have O0 := Lib.hid (Bx.Own.new w (bpl zeroB) 26)
  go_enter Try.func26, Try.ntmps26
  go_wp2_with fail
  refine (HI.out _).mono ?_; rintro e w1 ⟨rfl, hb1⟩
  replace bel := Bx.then_below bel hb1
  replace O0 := Lib.hid (O0.out.keep hb1)
  clear hb1
  go_wp2_with fail
  refine (HA.out _).mono ?_; rintro e w2 ⟨rfl, hb2⟩
  replace bel := Bx.then_below bel hb2
  replace O0 := Lib.hid (O0.out.keep hb2)
  clear hb2
  have hne : w2.heap.size ≠ w.heap.size := by have := (O0.out.blk).lt (by simp); omega
  replace O0 := Lib.hid (O0.out.more (Obj.cells #[.bool a0, .bool a1, .bool a2, .bool a3, .bool a4, .bool a5, .bool a6, .bool a7] 61))
  have B0 := Lib.hid (Bx.Blk.new w2 [.bool a0, .bool a1, .bool a2, .bool a3, .bool a4, .bool a5, .bool a6, .bool a7] 61)
  replace bel := Bx.bel_box bel (Obj.cells #[.bool a0, .bool a1, .bool a2, .bool a3, .bool a4, .bool a5, .bool a6, .bool a7] 61)
  obtain ⟨c0_0, c0_1, c0_2, c0_3, c0_4, c0_5, c0_6, c0_7⟩ := B0.out.all8
  go_wp2_with fail
  generalize w2.heap.size = m0 at *
  generalize w2.alloc (Obj.cells #[.bool a0, .bool a1, .bool a2, .bool a3, .bool a4, .bool a5, .bool a6, .bool a7] 61) = W0 at *
  refine wp_region_noPanic ?_
  refine wp_region_held_drew (S := fun w' => w'.cell? ⟨m0, 0, none⟩ = some (.bool a0) ∧ w'.cell? ⟨m0, 1, none⟩ = some (.bool a1) ∧ w'.cell? ⟨m0, 2, none⟩ = some (.bool a2) ∧ w'.cell? ⟨m0, 3, none⟩ = some (.bool a3) ∧ w'.cell? ⟨m0, 4, none⟩ = some (.bool a4) ∧ w'.cell? ⟨m0, 5, none⟩ = some (.bool a5) ∧ w'.cell? ⟨m0, 6, none⟩ = some (.bool a6) ∧ w'.cell? ⟨m0, 7, none⟩ = some (.bool a7)) (by kernel_rfl) (by exact ⟨c0_0, c0_1, c0_2, c0_3, c0_4, c0_5, c0_6, c0_7⟩) (fun hHeld => ?_)
  replace bel := Bx.bel_drewn bel
  replace O0 := Lib.hid (O0.out.draw)
  refine wpAnyH_take (i := 0) (oi := ?o0_1) (v := ?v0_1) ?hi0_1 (by kernel_rfl) (by kernel_rfl) (by kernel_rfl) (fun _ _ _ h => h) ?y0_1 (by assumption) ?r0_1
  case hi0_1 => (simp only [List.getElem?_toArray, List.getElem?_cons_zero]; rfl)
  case y0_1 => (refine Or.inl ⟨by rfl, ?_⟩; intro w' hSw; (try dsimp only at hSw); go_simp; (try with_reducible rfl))
  try simp only [Act.put, List.setIfInBounds_toArray, List.set_cons_zero, List.set_cons_succ]
  refine wpAnyH_take (i := 1) (oi := ?o1_2) (v := ?v1_2) ?hi1_2 (by kernel_rfl) (by kernel_rfl) (by kernel_rfl) (fun _ _ _ h => h) ?y1_2 (by assumption) ?r1_2
  case hi1_2 => (simp only [List.getElem?_toArray, List.getElem?_cons_succ, List.getElem?_cons_zero]; rfl)
  case y1_2 => (refine Or.inl ⟨by rfl, ?_⟩; intro w' hSw; (try dsimp only at hSw); go_simp; (try with_reducible rfl))
  try simp only [Act.put, List.setIfInBounds_toArray, List.set_cons_zero, List.set_cons_succ]
  refine wpAnyH_take (i := 2) (oi := ?o2_3) (v := ?v2_3) ?hi2_3 (by kernel_rfl) (by kernel_rfl) (by kernel_rfl) (fun _ _ _ h => h) ?y2_3 (by assumption) ?r2_3
  case hi2_3 => (simp only [List.getElem?_toArray, List.getElem?_cons_succ, List.getElem?_cons_zero]; rfl)
  case y2_3 => (refine Or.inl ⟨by rfl, ?_⟩; intro w' hSw; (try dsimp only at hSw); go_simp; (try with_reducible rfl))
  try simp only [Act.put, List.setIfInBounds_toArray, List.set_cons_zero, List.set_cons_succ]
  refine wpAnyH_take (i := 3) (oi := ?o3_4) (v := ?v3_4) ?hi3_4 (by kernel_rfl) (by kernel_rfl) (by kernel_rfl) (fun _ _ _ h => h) ?y3_4 (by assumption) ?r3_4
  case hi3_4 => (simp only [List.getElem?_toArray, List.getElem?_cons_succ, List.getElem?_cons_zero]; rfl)
  case y3_4 => (refine Or.inl ⟨by rfl, ?_⟩; intro w' hSw; (try dsimp only at hSw); go_simp; (try with_reducible rfl))
  try simp only [Act.put, List.setIfInBounds_toArray, List.set_cons_zero, List.set_cons_succ]
  refine wpAnyH_take (i := 4) (oi := ?o4_5) (v := ?v4_5) ?hi4_5 (by kernel_rfl) (by kernel_rfl) (by kernel_rfl) (fun _ _ _ h => h) ?y4_5 (by assumption) ?r4_5
  case hi4_5 => (simp only [List.getElem?_toArray, List.getElem?_cons_succ, List.getElem?_cons_zero]; rfl)
  case y4_5 => (refine Or.inl ⟨by rfl, ?_⟩; intro w' hSw; (try dsimp only at hSw); go_simp; (try with_reducible rfl))
  try simp only [Act.put, List.setIfInBounds_toArray, List.set_cons_zero, List.set_cons_succ]
  refine wpAnyH_take (i := 5) (oi := ?o5_6) (v := ?v5_6) ?hi5_6 (by kernel_rfl) (by kernel_rfl) (by kernel_rfl) (fun _ _ _ h => h) ?y5_6 (by assumption) ?r5_6
  case hi5_6 => (simp only [List.getElem?_toArray, List.getElem?_cons_succ, List.getElem?_cons_zero]; rfl)
  case y5_6 => (refine Or.inl ⟨by rfl, ?_⟩; intro w' hSw; (try dsimp only at hSw); go_simp; (try with_reducible rfl))
  try simp only [Act.put, List.setIfInBounds_toArray, List.set_cons_zero, List.set_cons_succ]
  refine wpAnyH_take (i := 7) (oi := ?o7_7) (v := ?v7_7) ?hi7_7 (by kernel_rfl) (by kernel_rfl) (by kernel_rfl) (fun _ _ _ h => h) ?y7_7 (by assumption) ?r7_7
  case hi7_7 => (simp only [List.getElem?_toArray, List.getElem?_cons_succ, List.getElem?_cons_zero]; rfl)
  case y7_7 => (refine Or.inl ⟨by rfl, ?_⟩; intro w' hSw; (try dsimp only at hSw); go_simp; (try with_reducible rfl))
  try simp only [Act.put, List.setIfInBounds_toArray, List.set_cons_zero, List.set_cons_succ]
  refine wpAnyH_take (i := 8) (oi := ?o8_8) (v := ?v8_8) ?hi8_8 (by kernel_rfl) (by kernel_rfl) (by kernel_rfl) (fun _ _ _ h => h) ?y8_8 (by assumption) ?r8_8
  case hi8_8 => (simp only [List.getElem?_toArray, List.getElem?_cons_succ, List.getElem?_cons_zero]; rfl)
  case y8_8 => (refine Or.inl ⟨by rfl, ?_⟩; intro w' hSw; (try dsimp only at hSw); go_simp; (try with_reducible rfl))
  try simp only [Act.put, List.setIfInBounds_toArray, List.set_cons_zero, List.set_cons_succ]
  refine wpAnyH_take (i := 9) (oi := ?o9_9) (v := ?v9_9) ?hi9_9 (by kernel_rfl) (by kernel_rfl) (by kernel_rfl) (fun _ _ _ h => h) ?y9_9 (by assumption) ?r9_9
  case hi9_9 => (simp only [List.getElem?_toArray, List.getElem?_cons_succ, List.getElem?_cons_zero]; rfl)
  case y9_9 => (refine Or.inl ⟨by rfl, ?_⟩; intro w' hSw; (try dsimp only at hSw); go_simp; (try with_reducible rfl))
  try simp only [Act.put, List.setIfInBounds_toArray, List.set_cons_zero, List.set_cons_succ]
  refine wpAnyH_take (i := 10) (oi := ?o10_10) (v := ?v10_10) ?hi10_10 (by kernel_rfl) (by kernel_rfl) (by kernel_rfl) (fun _ _ _ h => h) ?y10_10 (by assumption) ?r10_10
  case hi10_10 => (simp only [List.getElem?_toArray, List.getElem?_cons_succ, List.getElem?_cons_zero]; rfl)
  case y10_10 => (refine Or.inl ⟨by rfl, ?_⟩; intro w' hSw; (try dsimp only at hSw); go_simp; (try with_reducible rfl))
  try simp only [Act.put, List.setIfInBounds_toArray, List.set_cons_zero, List.set_cons_succ]
  refine wpAnyH_take (i := 11) (oi := ?o11_11) (v := ?v11_11) ?hi11_11 (by kernel_rfl) (by kernel_rfl) (by kernel_rfl) (fun _ _ _ h => h) ?y11_11 (by assumption) ?r11_11
  case hi11_11 => (simp only [List.getElem?_toArray, List.getElem?_cons_succ, List.getElem?_cons_zero]; rfl)
  case y11_11 => (refine Or.inl ⟨by rfl, ?_⟩; intro w' hSw; (try dsimp only at hSw); go_simp; (try with_reducible rfl))
  try simp only [Act.put, List.setIfInBounds_toArray, List.set_cons_zero, List.set_cons_succ]
  refine wpAnyH_take (i := 12) (oi := ?o12_12) (v := ?v12_12) ?hi12_12 (by kernel_rfl) (by kernel_rfl) (by kernel_rfl) (fun _ _ _ h => h) ?y12_12 (by assumption) ?r12_12
  case hi12_12 => (simp only [List.getElem?_toArray, List.getElem?_cons_succ, List.getElem?_cons_zero]; rfl)
  case y12_12 => (refine Or.inl ⟨by rfl, ?_⟩; intro w' hSw; (try dsimp only at hSw); go_simp; (try with_reducible rfl))
  try simp only [Act.put, List.setIfInBounds_toArray, List.set_cons_zero, List.set_cons_succ]
  refine wpAnyH_take (i := 13) (oi := ?o13_13) (v := ?v13_13) ?hi13_13 (by kernel_rfl) (by kernel_rfl) (by kernel_rfl) (fun _ _ _ h => h) ?y13_13 (by assumption) ?r13_13
  case hi13_13 => (simp only [List.getElem?_toArray, List.getElem?_cons_succ, List.getElem?_cons_zero]; rfl)
  case y13_13 => (refine Or.inl ⟨by rfl, ?_⟩; intro w' hSw; (try dsimp only at hSw); go_simp; (try with_reducible rfl))
  try simp only [Act.put, List.setIfInBounds_toArray, List.set_cons_zero, List.set_cons_succ]
  refine wpAnyH_take (i := 14) (oi := ?o14_14) (v := ?v14_14) ?hi14_14 (by kernel_rfl) (by kernel_rfl) (by kernel_rfl) (fun _ _ _ h => h) ?y14_14 (by assumption) ?r14_14
  case hi14_14 => (simp only [List.getElem?_toArray, List.getElem?_cons_succ, List.getElem?_cons_zero]; rfl)
  case y14_14 => (refine Or.inl ⟨by rfl, ?_⟩; intro w' hSw; (try dsimp only at hSw); go_simp; (try with_reducible rfl))
  try simp only [Act.put, List.setIfInBounds_toArray, List.set_cons_zero, List.set_cons_succ]
  refine wpAnyH_take (i := 15) (oi := ?o15_15) (v := ?v15_15) ?hi15_15 (by kernel_rfl) (by kernel_rfl) (by kernel_rfl) (fun _ _ _ h => h) ?y15_15 (by assumption) ?r15_15
  case hi15_15 => (simp only [List.getElem?_toArray, List.getElem?_cons_succ, List.getElem?_cons_zero]; rfl)
  case y15_15 => (refine Or.inl ⟨by rfl, ?_⟩; intro w' hSw; (try dsimp only at hSw); go_simp; (try with_reducible rfl))
  try simp only [Act.put, List.setIfInBounds_toArray, List.set_cons_zero, List.set_cons_succ]
  refine wpAnyH_take (i := 17) (oi := ?o17_16) (v := ?v17_16) ?hi17_16 (by kernel_rfl) (by kernel_rfl) (by kernel_rfl) (fun _ _ _ h => h) ?y17_16 (by assumption) ?r17_16
  case hi17_16 => (simp only [List.getElem?_toArray, List.getElem?_cons_succ, List.getElem?_cons_zero]; rfl)
  case y17_16 => (refine Or.inl ⟨by rfl, ?_⟩; intro w' hSw; (try dsimp only at hSw); go_simp; (try with_reducible rfl))
  try simp only [Act.put, List.setIfInBounds_toArray, List.set_cons_zero, List.set_cons_succ]
  refine wpAnyH_take (i := 18) (oi := ?o18_17) (v := ?v18_17) ?hi18_17 (by kernel_rfl) (by kernel_rfl) (by kernel_rfl) (fun _ _ _ h => h) ?y18_17 (by assumption) ?r18_17
  case hi18_17 => (simp only [List.getElem?_toArray, List.getElem?_cons_succ, List.getElem?_cons_zero]; rfl)
  case y18_17 => (refine Or.inl ⟨by rfl, ?_⟩; intro w' hSw; (try dsimp only at hSw); go_simp; (try with_reducible rfl))
  try simp only [Act.put, List.setIfInBounds_toArray, List.set_cons_zero, List.set_cons_succ]
  refine wpAnyH_take (i := 19) (oi := ?o19_18) (v := ?v19_18) ?hi19_18 (by kernel_rfl) (by kernel_rfl) (by kernel_rfl) (fun _ _ _ h => h) ?y19_18 (by assumption) ?r19_18
  case hi19_18 => (simp only [List.getElem?_toArray, List.getElem?_cons_succ, List.getElem?_cons_zero]; rfl)
  case y19_18 => (refine Or.inl ⟨by rfl, ?_⟩; intro w' hSw; (try dsimp only at hSw); go_simp; (try with_reducible rfl))
  try simp only [Act.put, List.setIfInBounds_toArray, List.set_cons_zero, List.set_cons_succ]
  refine wpAnyH_take (i := 20) (oi := ?o20_19) (v := ?v20_19) ?hi20_19 (by kernel_rfl) (by kernel_rfl) (by kernel_rfl) (fun _ _ _ h => h) ?y20_19 (by assumption) ?r20_19
  case hi20_19 => (simp only [List.getElem?_toArray, List.getElem?_cons_succ, List.getElem?_cons_zero]; rfl)
  case y20_19 => (refine Or.inl ⟨by rfl, ?_⟩; intro w' hSw; (try dsimp only at hSw); go_simp; (try with_reducible rfl))
  try simp only [Act.put, List.setIfInBounds_toArray, List.set_cons_zero, List.set_cons_succ]
  refine wpAnyH_take (i := 21) (oi := ?o21_20) (v := ?v21_20) ?hi21_20 (by kernel_rfl) (by kernel_rfl) (by kernel_rfl) (fun _ _ _ h => h) ?y21_20 (by assumption) ?r21_20
  case hi21_20 => (simp only [List.getElem?_toArray, List.getElem?_cons_succ, List.getElem?_cons_zero]; rfl)
  case y21_20 => (refine Or.inl ⟨by rfl, ?_⟩; intro w' hSw; (try dsimp only at hSw); go_simp; (try with_reducible rfl))
  try simp only [Act.put, List.setIfInBounds_toArray, List.set_cons_zero, List.set_cons_succ]
  refine wpAnyH_take (i := 22) (oi := ?o22_21) (v := ?v22_21) ?hi22_21 (by kernel_rfl) (by kernel_rfl) (by kernel_rfl) (fun _ _ _ h => h) ?y22_21 (by assumption) ?r22_21
  case hi22_21 => (simp only [List.getElem?_toArray, List.getElem?_cons_succ, List.getElem?_cons_zero]; rfl)
  case y22_21 => (refine Or.inl ⟨by rfl, ?_⟩; intro w' hSw; (try dsimp only at hSw); go_simp; (try with_reducible rfl))
  try simp only [Act.put, List.setIfInBounds_toArray, List.set_cons_zero, List.set_cons_succ]
  refine wpAnyH_take (i := 23) (oi := ?o23_22) (v := ?v23_22) ?hi23_22 (by kernel_rfl) (by kernel_rfl) (by kernel_rfl) (fun _ _ _ h => h) ?y23_22 (by assumption) ?r23_22
  case hi23_22 => (simp only [List.getElem?_toArray, List.getElem?_cons_succ, List.getElem?_cons_zero]; rfl)
  case y23_22 => (refine Or.inl ⟨by rfl, ?_⟩; intro w' hSw; (try dsimp only at hSw); go_simp; (try with_reducible rfl))
  try simp only [Act.put, List.setIfInBounds_toArray, List.set_cons_zero, List.set_cons_succ]
  refine wpAnyH_take (i := 24) (oi := ?o24_23) (v := ?v24_23) ?hi24_23 (by kernel_rfl) (by kernel_rfl) (by kernel_rfl) (fun _ _ _ h => h) ?y24_23 (by assumption) ?r24_23
  case hi24_23 => (simp only [List.getElem?_toArray, List.getElem?_cons_succ, List.getElem?_cons_zero]; rfl)
  case y24_23 => (refine Or.inl ⟨by rfl, ?_⟩; intro w' hSw; (try dsimp only at hSw); go_simp; (try with_reducible rfl))
  try simp only [Act.put, List.setIfInBounds_toArray, List.set_cons_zero, List.set_cons_succ]
  refine wpAnyH_take (i := 25) (oi := ?o25_24) (v := ?v25_24) ?hi25_24 (by kernel_rfl) (by kernel_rfl) (by kernel_rfl) (fun _ _ _ h => h) ?y25_24 (by assumption) ?r25_24
  case hi25_24 => (simp only [List.getElem?_toArray, List.getElem?_cons_succ, List.getElem?_cons_zero]; rfl)
  case y25_24 => (refine Or.inl ⟨by rfl, ?_⟩; intro w' hSw; (try dsimp only at hSw); go_simp; (try with_reducible rfl))
  try simp only [Act.put, List.setIfInBounds_toArray, List.set_cons_zero, List.set_cons_succ]
  refine wpAnyH_take (i := 26) (oi := ?o26_25) (v := ?v26_25) ?hi26_25 (by kernel_rfl) (by kernel_rfl) (by kernel_rfl) (fun _ _ _ h => h) ?y26_25 (by assumption) ?r26_25
  case hi26_25 => (simp only [List.getElem?_toArray, List.getElem?_cons_succ, List.getElem?_cons_zero]; rfl)
  case y26_25 => (refine Or.inl ⟨by rfl, ?_⟩; intro w' hSw; (try dsimp only at hSw); go_simp; (try with_reducible rfl))
  try simp only [Act.put, List.setIfInBounds_toArray, List.set_cons_zero, List.set_cons_succ]
  refine wpAnyH_take (i := 27) (oi := ?o27_26) (v := ?v27_26) ?hi27_26 (by kernel_rfl) (by kernel_rfl) (by kernel_rfl) (fun _ _ _ h => h) ?y27_26 (by assumption) ?r27_26
  case hi27_26 => (simp only [List.getElem?_toArray, List.getElem?_cons_succ, List.getElem?_cons_zero]; rfl)
  case y27_26 => (refine Or.inl ⟨by rfl, ?_⟩; intro w' hSw; (try dsimp only at hSw); go_simp; (try with_reducible rfl))
  try simp only [Act.put, List.setIfInBounds_toArray, List.set_cons_zero, List.set_cons_succ]
  refine wpAnyH_take (i := 28) (oi := ?o28_27) (v := ?v28_27) ?hi28_27 (by kernel_rfl) (by kernel_rfl) (by kernel_rfl) (fun _ _ _ h => h) ?y28_27 (by assumption) ?r28_27
  case hi28_27 => (simp only [List.getElem?_toArray, List.getElem?_cons_succ, List.getElem?_cons_zero]; rfl)
  case y28_27 => (refine Or.inl ⟨by rfl, ?_⟩; intro w' hSw; (try dsimp only at hSw); go_simp; (try with_reducible rfl))
  try simp only [Act.put, List.setIfInBounds_toArray, List.set_cons_zero, List.set_cons_succ]
  refine wpAnyH_ready (rs := [6]) (by kernel_rfl) (by simp) ?_
  refine AllReadyH.cons (o := ?o6_28) ?hi6_28 ?hst6_28 AllReadyH.nil
  case hi6_28 => (simp only [List.getElem?_toArray, List.getElem?_cons_succ, List.getElem?_cons_zero]; rfl)
  intro K hK
  go_simp
  (go_at_call 40; (with_reducible refine (HR.out _).mono ?_); rintro e w3 ⟨rfl, hb3⟩)
  go_wp2_with fail
  refine hK.out _ _ ⟨Bx.keep_cell hb3 hHeld.1, Bx.keep_cell hb3 hHeld.2.1, Bx.keep_cell hb3 hHeld.2.2.1, Bx.keep_cell hb3 hHeld.2.2.2.1, Bx.keep_cell hb3 hHeld.2.2.2.2.1, Bx.keep_cell hb3 hHeld.2.2.2.2.2.1, Bx.keep_cell hb3 hHeld.2.2.2.2.2.2.1, Bx.keep_cell hb3 hHeld.2.2.2.2.2.2.2⟩ (fun hNew => ?_)
  clear hHeld
  have hHeld := hNew
  clear hNew hK K
  replace bel := Bx.then_below bel hb3
  replace O0 := Lib.hid (O0.out.keep hb3)
  refine wpAnyH_ready (rs := [16]) (by kernel_rfl) (by simp) ?_
  refine AllReadyH.cons (o := ?o16_29) ?hi16_29 ?hst16_29 AllReadyH.nil
  case hi16_29 => (simp only [List.getElem?_toArray, List.getElem?_cons_succ, List.getElem?_cons_zero]; rfl)
  intro K hK
  go_simp
  (go_at_call 41; (with_reducible refine (HV.out _).mono ?_); rintro e w4 ⟨rfl, hb4⟩)
  go_wp2_with fail
  refine hK.out _ _ ⟨Bx.keep_cell hb4 hHeld.1, Bx.keep_cell hb4 hHeld.2.1, Bx.keep_cell hb4 hHeld.2.2.1, Bx.keep_cell hb4 hHeld.2.2.2.1, Bx.keep_cell hb4 hHeld.2.2.2.2.1, Bx.keep_cell hb4 hHeld.2.2.2.2.2.1, Bx.keep_cell hb4 hHeld.2.2.2.2.2.2.1, Bx.keep_cell hb4 hHeld.2.2.2.2.2.2.2⟩ (fun hNew => ?_)
  clear hHeld
  have hHeld := hNew
  clear hNew hK K
  replace bel := Bx.then_below bel hb4
  replace O0 := Lib.hid (O0.out.keep hb4)
  refine wpAnyH_take (i := 29) (oi := ?o29_30) (v := ?v29_30) ?hi29_30 (by kernel_rfl) (by kernel_rfl) (by kernel_rfl) (fun _ _ _ h => h) ?y29_30 (by assumption) ?r29_30
  case hi29_30 => (simp only [List.getElem?_toArray, List.getElem?_cons_succ, List.getElem?_cons_zero]; rfl)
  case y29_30 => (refine Or.inl ⟨by rfl, ?_⟩; intro w' hSw; (try dsimp only at hSw); go_simp; (try with_reducible rfl))
  try simp only [Act.put, List.setIfInBounds_toArray, List.set_cons_zero, List.set_cons_succ]
  refine wpAnyH_ready (rs := [30]) (by kernel_rfl) (by simp) ?_
  refine AllReadyH.cons (o := ?o30_31) ?hi30_31 ?hst30_31 AllReadyH.nil
  case hi30_31 => (simp only [List.getElem?_toArray, List.getElem?_cons_succ, List.getElem?_cons_zero]; rfl)
  intro K hK
  rw [if_pos (by rfl)]
  refine wp_store_bp _ _ rfl w.heap.size zeroB (⟨Kd, a0, a1, Ro, a4, a5, a6, a7, R, C, G, P, A, M, H, D⟩ : Bp) rfl rfl O0.out ?_
  refine hK.out _ _ ⟨Bx.cell_cells hHeld.1 hne, Bx.cell_cells hHeld.2.1 hne, Bx.cell_cells hHeld.2.2.1 hne, Bx.cell_cells hHeld.2.2.2.1 hne, Bx.cell_cells hHeld.2.2.2.2.1 hne, Bx.cell_cells hHeld.2.2.2.2.2.1 hne, Bx.cell_cells hHeld.2.2.2.2.2.2.1 hne, Bx.cell_cells hHeld.2.2.2.2.2.2.2 hne⟩ (fun hNew => ?_)
  clear hHeld
  have hHeld := hNew
  clear hNew hK K
  replace bel := Bx.bel_cells (m := bpl (⟨Kd, a0, a1, Ro, a4, a5, a6, a7, R, C, G, P, A, M, H, D⟩ : Bp)) bel (Nat.le_refl w.heap.size)
  replace O0 := Lib.hid (O0.out.put (m := bpl (⟨Kd, a0, a1, Ro, a4, a5, a6, a7, R, C, G, P, A, M, H, D⟩ : Bp)) rfl)
  refine wpAnyH_done (by kernel_rfl) ?_ _
  refine NoPanic.normal ?_
  have HL := var_bp O0.out.blk
  go_wp2_with fail
  refine bodyPost_ret (v := bp (⟨Kd, a0, a1, Ro, a4, a5, a6, a7, R, C, G, P, A, M, H, D⟩ : Bp)) ?_ rfl ⟨rfl, bel⟩
  simp [results, Try.results26, asAddr, Act.put, HL]

end Bpd
end Go.Proofs.Ytiokkahldhmhlaa
