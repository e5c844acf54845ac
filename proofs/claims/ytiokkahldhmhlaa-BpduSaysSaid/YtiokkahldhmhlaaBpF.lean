/-
  What the document's answer of Bytes writes of anything that bridges tell; and that it changes nothing that was there.
-/
import Derived.Test.YtiokkahldhmhlaaBpE
import Derived.Test.YtiokkahldhmhlaaBpD
import Derived.Test.YtiokkahldhmhlaaOctRef
namespace Go.Proofs.Ytiokkahldhmhlaa
open Go.RowKit
namespace Bpd
open Oct Mac Eth Epl

set_option maxHeartbeats 1000000 in
theorem rbytes_wrong (b : Bp) (w : World)
    (HR : Hid (∀ w, Calls Try.prog 16 #[bp b] w fun e w' => e = .returned (.bool false) ∧ Below w.heap.size w w')) :
    Calls Try.prog 8 #[bp b] w fun e w' => e = .returned (.tuple #[.string ⟨#[]⟩, .int .i64 1]) ∧ Below w.heap.size w w' := by
  have bel := Bx.bel_refl w
  have B0 := Lib.hid (Bx.Blk.new w (bpl b) 26)
  replace bel := Bx.bel_box bel (Obj.cells (bpl b).toArray 26)
  go_enter Try.func8, Try.ntmps8
  go_wp2_with (first | ((with_reducible refine load_at ?_ ?_ (w.heap.size) ?_ b ?_ ?_); (· rfl); (· rfl); (· rfl); (· exact B0.out)))
  refine (HR.out _).mono ?_; rintro e w1 ⟨rfl, hb1⟩
  replace bel := Bx.then_below bel hb1
  replace B0 := Lib.hid (B0.out.keep hb1)
  clear hb1
  go_wp2_with (first | ((with_reducible refine load_at ?_ ?_ (w.heap.size) ?_ b ?_ ?_); (· rfl); (· rfl); (· rfl); (· exact B0.out)))
  go_ret2
  exact ⟨rfl, bel⟩

set_option maxHeartbeats 1000000 in
theorem rbytes_change (b : Bp) (V1 K1 : ByteArray) (w : World) (h : (b.k == 128) = true) (h2 : (b.k == 2) = false) (hk : 0 ≤ b.k) (hk' : b.k < 256) (zV : V1.size = 1) (zK : K1.size = 1) 
    (HR : Hid (∀ w, Calls Try.prog 16 #[bp b] w fun e w' => e = .returned (.bool true) ∧ Below w.heap.size w w'))
    (HV : Hid (∀ w, Calls Try.prog 24 #[.int .u64 0, .int .i64 1] w fun e w' => e = .returned (.string V1) ∧ Below w.heap.size w w'))
    (HK : Hid (∀ w, Calls Try.prog 24 #[.int .u64 b.k, .int .i64 1] w fun e w' => e = .returned (.string K1) ∧ Below w.heap.size w w')) :
    Calls Try.prog 8 #[bp b] w fun e w' => e = .returned (.tuple #[.string (⟨#[0, 0]⟩ ++ V1 ++ K1), .int .i64 0]) ∧ Below w.heap.size w w' := by
  have qv : IntKind.u64.wrap 0 = 0 := by decide
  have q0 : IntKind.u64.wrap b.k = b.k := by rw [IntKind.wrap_u64]; omega
  have bel := Bx.bel_refl w
  have B0 := Lib.hid (Bx.Blk.new w (bpl b) 26)
  replace bel := Bx.bel_box bel (Obj.cells (bpl b).toArray 26)
  have c0_0 := B0.out.at 0 rfl
  go_enter Try.func8, Try.ntmps8
  go_wp2_with (first | ((with_reducible refine load_at ?_ ?_ (w.heap.size) ?_ b ?_ ?_); (· rfl); (· rfl); (· rfl); (· exact B0.out)))
  refine (HR.out _).mono ?_; rintro e w1 ⟨rfl, hb1⟩
  replace bel := Bx.then_below bel hb1
  replace B0 := Lib.hid (B0.out.keep hb1)
  clear hb1
  clear c0_0
  have c0_0 := B0.out.at 0 rfl
  go_wp2_with (first | ((with_reducible refine load_at ?_ ?_ (w.heap.size) ?_ b ?_ ?_); (· rfl); (· rfl); (· rfl); (· exact B0.out)))
  refine wp_region_noPanic ?_
  refine wp_region_held_drew (S := fun w' => w'.cell? ⟨w.heap.size, 0, none⟩ = some (.int .i64 b.k) ∧ Bx.Blk w' w.heap.size (bpl b)) (by kernel_rfl) (by exact ⟨c0_0, B0.out⟩) (fun hHeld => ?_)
  replace bel := Bx.bel_drewn bel
  refine wpAnyH_take (i := 0) (oi := ?o0_1) (v := ?v0_1) ?hi0_1 (by kernel_rfl) (by kernel_rfl) (by kernel_rfl) (fun _ _ _ h => h) ?y0_1 (by assumption) ?r0_1
  case hi0_1 => (simp only [List.getElem?_toArray, List.getElem?_cons_zero]; rfl)
  case y0_1 => (refine Or.inl ⟨by rfl, ?_⟩; intro w' hSw; (try dsimp only at hSw); go_simp; (try with_reducible rfl))
  try simp only [Act.put, List.setIfInBounds_toArray, List.set_cons_zero, List.set_cons_succ]
  refine wpAnyH_take (i := 1) (oi := ?o1_2) (v := ?v1_2) ?hi1_2 (by kernel_rfl) (by kernel_rfl) (by kernel_rfl) (fun _ _ _ h => h) ?y1_2 (by assumption) ?r1_2
  case hi1_2 => (simp only [List.getElem?_toArray, List.getElem?_cons_succ, List.getElem?_cons_zero]; rfl)
  case y1_2 => (refine Or.inl ⟨by rfl, ?_⟩; intro w' hSw; (try dsimp only at hSw); go_simp; (try with_reducible rfl))
  try simp only [Act.put, List.setIfInBounds_toArray, List.set_cons_zero, List.set_cons_succ]
  refine wpAnyH_take (i := 4) (oi := ?o4_3) (v := ?v4_3) ?hi4_3 (by kernel_rfl) (by kernel_rfl) (by kernel_rfl) (fun _ _ _ h => h) ?y4_3 (by assumption) ?r4_3
  case hi4_3 => (simp only [List.getElem?_toArray, List.getElem?_cons_succ, List.getElem?_cons_zero]; rfl)
  case y4_3 => (refine Or.inl ⟨by rfl, ?_⟩; intro w' hSw; (try dsimp only at hSw); go_simp; (try with_reducible rfl))
  try simp only [Act.put, List.setIfInBounds_toArray, List.set_cons_zero, List.set_cons_succ]
  refine wpAnyH_take (i := 5) (oi := ?o5_4) (v := ?v5_4) ?hi5_4 (by kernel_rfl) (by kernel_rfl) (by kernel_rfl) (fun _ _ _ h => h) ?y5_4 (by assumption) ?r5_4
  case hi5_4 => (simp only [List.getElem?_toArray, List.getElem?_cons_succ, List.getElem?_cons_zero]; rfl)
  case y5_4 => (refine Or.inl ⟨by rfl, ?_⟩; intro w' hSw; (try dsimp only at hSw); go_simp; (try with_reducible rfl))
  try simp only [Act.put, List.setIfInBounds_toArray, List.set_cons_zero, List.set_cons_succ]
  refine wpAnyH_take (i := 6) (oi := ?o6_5) (v := ?v6_5) ?hi6_5 (by kernel_rfl) (by kernel_rfl) (by kernel_rfl) (fun _ _ _ h => h) ?y6_5 (by assumption) ?r6_5
  case hi6_5 => (simp only [List.getElem?_toArray, List.getElem?_cons_succ, List.getElem?_cons_zero]; rfl)
  case y6_5 => (refine Or.inl ⟨by rfl, ?_⟩; intro w' hSw; (try dsimp only at hSw); go_simp; (try with_reducible rfl))
  try simp only [Act.put, List.setIfInBounds_toArray, List.set_cons_zero, List.set_cons_succ]
  refine wpAnyH_ready (rs := [2]) (by kernel_rfl) (by simp) ?_
  refine AllReadyH.cons (o := ?o2_6) ?hi2_6 ?hst2_6 AllReadyH.nil
  case hi2_6 => (simp only [List.getElem?_toArray, List.getElem?_cons_succ, List.getElem?_cons_zero]; rfl)
  intro K hK
  go_simp
  (go_at_call 24; (with_reducible refine (HV.out _).mono ?_); rintro e w2 ⟨rfl, hb2⟩)
  go_wp2_with fail
  refine hK.out _ _ ⟨Bx.keep_cell hb2 hHeld.1, Bx.Blk.keep hHeld.2 hb2⟩ (fun hNew => ?_)
  clear hHeld
  have hHeld := hNew
  clear hNew hK K
  replace bel := Bx.then_below bel hb2
  refine wpAnyH_take (i := 3) (oi := ?o3_7) (v := ?v3_7) ?hi3_7 (by kernel_rfl) (by kernel_rfl) (by kernel_rfl) (fun _ _ _ h => h) ?y3_7 (by assumption) ?r3_7
  case hi3_7 => (simp only [List.getElem?_toArray, List.getElem?_cons_succ, List.getElem?_cons_zero]; rfl)
  case y3_7 => (refine Or.inl ⟨by rfl, ?_⟩; intro w' hSw; (try dsimp only at hSw); go_simp; (try with_reducible rfl))
  try simp only [Act.put, List.setIfInBounds_toArray, List.set_cons_zero, List.set_cons_succ]
  refine wpAnyH_ready (rs := [7]) (by kernel_rfl) (by simp) ?_
  refine AllReadyH.cons (o := ?o7_8) ?hi7_8 ?hst7_8 AllReadyH.nil
  case hi7_8 => (simp only [List.getElem?_toArray, List.getElem?_cons_succ, List.getElem?_cons_zero]; rfl)
  intro K hK
  go_simp
  (go_at_call 24; (with_reducible refine (HK.out _).mono ?_); rintro e w3 ⟨rfl, hb3⟩)
  go_wp2_with fail
  refine hK.out _ _ ⟨Bx.keep_cell hb3 hHeld.1, Bx.Blk.keep hHeld.2 hb3⟩ (fun hNew => ?_)
  clear hHeld
  have hHeld := hNew
  clear hNew hK K
  replace bel := Bx.then_below bel hb3
  refine wpAnyH_take (i := 8) (oi := ?o8_9) (v := ?v8_9) ?hi8_9 (by kernel_rfl) (by kernel_rfl) (by kernel_rfl) (fun _ _ _ h => h) ?y8_9 (by assumption) ?r8_9
  case hi8_9 => (simp only [List.getElem?_toArray, List.getElem?_cons_succ, List.getElem?_cons_zero]; rfl)
  case y8_9 => (refine Or.inl ⟨by rfl, ?_⟩; intro w' hSw; (try dsimp only at hSw); go_simp; (try with_reducible rfl))
  try simp only [Act.put, List.setIfInBounds_toArray, List.set_cons_zero, List.set_cons_succ]
  refine wpAnyH_take (i := 9) (oi := ?o9_10) (v := ?v9_10) ?hi9_10 (by kernel_rfl) (by kernel_rfl) (by kernel_rfl) (fun _ _ _ h => h) ?y9_10 (by assumption) ?r9_10
  case hi9_10 => (simp only [List.getElem?_toArray, List.getElem?_cons_succ, List.getElem?_cons_zero]; rfl)
  case y9_10 => (refine Or.inl ⟨by rfl, ?_⟩; intro w' hSw; (try dsimp only at hSw); go_simp; (try with_reducible rfl))
  try simp only [Act.put, List.setIfInBounds_toArray, List.set_cons_zero, List.set_cons_succ]
  refine wpAnyH_done (by kernel_rfl) ?_ _
  refine NoPanic.normal ?_
  replace B0 := Lib.hid hHeld.2
  clear hHeld c0_0
  have c0_0 := B0.out.at 0 rfl
  go_wp2_with (first | ((with_reducible refine load_at ?_ ?_ (w.heap.size) ?_ b ?_ ?_); (· rfl); (· rfl); (· rfl); (· exact B0.out)))
  go_ret2
  exact ⟨rfl, bel⟩

set_option maxRecDepth 100000 in
set_option maxHeartbeats 4000000 in
theorem rbytes_else (b : Bp) (F : Int) (V1 K1 F1 R1 C1 G1 P1 A1 M1 H1 D1 Y : ByteArray) (w : World) (HY : Hid (Y = (((⟨#[0, 0]⟩ : ByteArray) ++ V1 ++ K1) ++ (F1 ++ R1 ++ C1 ++ G1 ++ P1) ++ (A1 ++ ⟨#[0]⟩) ++ (M1 ++ ⟨#[0]⟩) ++ (H1 ++ ⟨#[0]⟩) ++ (D1 ++ ⟨#[0]⟩)))) (h : (b.k == 128) = false) (h2 : (b.k == 2) = false) (hk : 0 ≤ b.k) (hk' : b.k < 256) (hf : 0 ≤ F) (hf' : F < 256) (hp : 0 ≤ b.p) (hp' : b.p < 65536) (ha : 0 ≤ b.a) (ha' : b.a < 256) (hm : 0 ≤ b.m) (hm' : b.m < 256) (hh : 0 ≤ b.h) (hh' : b.h < 256) (hd : 0 ≤ b.d) (hd' : b.d < 256) (zV : V1.size = 1) (zK : K1.size = 1) (zF : F1.size = 1) (zR : R1.size = 8) (zC : C1.size = 4) (zG : G1.size = 8) (zP : P1.size = 2) (zA : A1.size = 1) (zM : M1.size = 1) (zH : H1.size = 1) (zD : D1.size = 1) 
    (HR : Hid (∀ w, Calls Try.prog 16 #[bp b] w fun e w' => e = .returned (.bool true) ∧ Below w.heap.size w w'))
    (HV : Hid (∀ w, Calls Try.prog 24 #[.int .u64 0, .int .i64 1] w fun e w' => e = .returned (.string V1) ∧ Below w.heap.size w w'))
    (HK : Hid (∀ w, Calls Try.prog 24 #[.int .u64 b.k, .int .i64 1] w fun e w' => e = .returned (.string K1) ∧ Below w.heap.size w w'))
    (HF : Hid (∀ w, Calls Try.prog 18 #[bp b] w fun e w' => e = .returned (.int .i64 F) ∧ Below w.heap.size w w'))
    (HF1 : Hid (∀ w, Calls Try.prog 24 #[.int .u64 F, .int .i64 1] w fun e w' => e = .returned (.string F1) ∧ Below w.heap.size w w'))
    (HR1 : Hid (∀ w, Calls Try.prog 24 #[.int .u64 b.r, .int .i64 8] w fun e w' => e = .returned (.string R1) ∧ Below w.heap.size w w'))
    (HC1 : Hid (∀ w, Calls Try.prog 24 #[.int .u64 b.c, .int .i64 4] w fun e w' => e = .returned (.string C1) ∧ Below w.heap.size w w'))
    (HG1 : Hid (∀ w, Calls Try.prog 24 #[.int .u64 b.g, .int .i64 8] w fun e w' => e = .returned (.string G1) ∧ Below w.heap.size w w'))
    (HP1 : Hid (∀ w, Calls Try.prog 24 #[.int .u64 b.p, .int .i64 2] w fun e w' => e = .returned (.string P1) ∧ Below w.heap.size w w'))
    (HA : Hid (∀ w, Calls Try.prog 24 #[.int .u64 b.a, .int .i64 1] w fun e w' => e = .returned (.string A1) ∧ Below w.heap.size w w'))
    (HM : Hid (∀ w, Calls Try.prog 24 #[.int .u64 b.m, .int .i64 1] w fun e w' => e = .returned (.string M1) ∧ Below w.heap.size w w'))
    (HH : Hid (∀ w, Calls Try.prog 24 #[.int .u64 b.h, .int .i64 1] w fun e w' => e = .returned (.string H1) ∧ Below w.heap.size w w'))
    (HD : Hid (∀ w, Calls Try.prog 24 #[.int .u64 b.d, .int .i64 1] w fun e w' => e = .returned (.string D1) ∧ Below w.heap.size w w')) :
    Calls Try.prog 8 #[bp b] w fun e w' => e = .returned (.tuple #[.string Y, .int .i64 0]) ∧ Below w.heap.size w w' := by
  have qv : IntKind.u64.wrap 0 = 0 := by decide
  have q0 : IntKind.u64.wrap b.k = b.k := by rw [IntKind.wrap_u64]; omega
  have qF : IntKind.u64.wrap F = F := by rw [IntKind.wrap_u64]; omega
  have qp : IntKind.u64.wrap b.p = b.p := by rw [IntKind.wrap_u64]; omega
  have qa : IntKind.u64.wrap b.a = b.a := by rw [IntKind.wrap_u64]; omega
  have x0 : ∀ w, (Instr.index 52 (.agg #[.int .i64 b.a, .int .i64 b.m, .int .i64 b.h, .int .i64 b.d]) (.int .i64 0)).run Try.prog w = .ok (.int .i64 b.a) w := fun _ => by kernel_rfl
  have qm : IntKind.u64.wrap b.m = b.m := by rw [IntKind.wrap_u64]; omega
  have x1 : ∀ w, (Instr.index 52 (.agg #[.int .i64 b.a, .int .i64 b.m, .int .i64 b.h, .int .i64 b.d]) (.int .i64 1)).run Try.prog w = .ok (.int .i64 b.m) w := fun _ => by kernel_rfl
  have qh : IntKind.u64.wrap b.h = b.h := by rw [IntKind.wrap_u64]; omega
  have x2 : ∀ w, (Instr.index 52 (.agg #[.int .i64 b.a, .int .i64 b.m, .int .i64 b.h, .int .i64 b.d]) (.int .i64 2)).run Try.prog w = .ok (.int .i64 b.h) w := fun _ => by kernel_rfl
  have qd : IntKind.u64.wrap b.d = b.d := by rw [IntKind.wrap_u64]; omega
  have x3 : ∀ w, (Instr.index 52 (.agg #[.int .i64 b.a, .int .i64 b.m, .int .i64 b.h, .int .i64 b.d]) (.int .i64 3)).run Try.prog w = .ok (.int .i64 b.d) w := fun _ => by kernel_rfl
  have bel := Bx.bel_refl w
  have B0 := Lib.hid (Bx.Blk.new w (bpl b) 26)
  replace bel := Bx.bel_box bel (Obj.cells (bpl b).toArray 26)
  have c0_0 := B0.out.at 0 rfl
  have c0_8 := B0.out.at 8 rfl
  have c0_9 := B0.out.at 9 rfl
  have c0_10 := B0.out.at 10 rfl
  have c0_11 := B0.out.at 11 rfl
  have c0_12 := B0.out.at 12 rfl
  have c0_13 := B0.out.at 13 rfl
  have c0_14 := B0.out.at 14 rfl
  have c0_15 := B0.out.at 15 rfl
  go_enter Try.func8, Try.ntmps8
  go_wp2_with (first | ((with_reducible refine load_at ?_ ?_ (w.heap.size) ?_ b ?_ ?_); (· rfl); (· rfl); (· rfl); (· exact B0.out)))
  refine (HR.out _).mono ?_; rintro e w1 ⟨rfl, hb1⟩
  replace bel := Bx.then_below bel hb1
  replace B0 := Lib.hid (B0.out.keep hb1)
  clear hb1
  clear c0_0 c0_8 c0_9 c0_10 c0_11 c0_12 c0_13 c0_14 c0_15
  have c0_0 := B0.out.at 0 rfl
  have c0_8 := B0.out.at 8 rfl
  have c0_9 := B0.out.at 9 rfl
  have c0_10 := B0.out.at 10 rfl
  have c0_11 := B0.out.at 11 rfl
  have c0_12 := B0.out.at 12 rfl
  have c0_13 := B0.out.at 13 rfl
  have c0_14 := B0.out.at 14 rfl
  have c0_15 := B0.out.at 15 rfl
  go_wp2_with (first | ((with_reducible refine load_at ?_ ?_ (w.heap.size) ?_ b ?_ ?_); (· rfl); (· rfl); (· rfl); (· exact B0.out)))
  refine wp_region_noPanic ?_
  refine wp_region_held_drew (S := fun w' => w'.cell? ⟨w.heap.size, 0, none⟩ = some (.int .i64 b.k) ∧ Bx.Blk w' w.heap.size (bpl b)) (by kernel_rfl) (by exact ⟨c0_0, B0.out⟩) (fun hHeld => ?_)
  replace bel := Bx.bel_drewn bel
  refine wpAnyH_take (i := 0) (oi := ?o0_11) (v := ?v0_11) ?hi0_11 (by kernel_rfl) (by kernel_rfl) (by kernel_rfl) (fun _ _ _ h => h) ?y0_11 (by assumption) ?r0_11
  case hi0_11 => (simp only [List.getElem?_toArray, List.getElem?_cons_zero]; rfl)
  case y0_11 => (refine Or.inl ⟨by rfl, ?_⟩; intro w' hSw; (try dsimp only at hSw); go_simp; (try with_reducible rfl))
  try simp only [Act.put, List.setIfInBounds_toArray, List.set_cons_zero, List.set_cons_succ]
  refine wpAnyH_take (i := 1) (oi := ?o1_12) (v := ?v1_12) ?hi1_12 (by kernel_rfl) (by kernel_rfl) (by kernel_rfl) (fun _ _ _ h => h) ?y1_12 (by assumption) ?r1_12
  case hi1_12 => (simp only [List.getElem?_toArray, List.getElem?_cons_succ, List.getElem?_cons_zero]; rfl)
  case y1_12 => (refine Or.inl ⟨by rfl, ?_⟩; intro w' hSw; (try dsimp only at hSw); go_simp; (try with_reducible rfl))
  try simp only [Act.put, List.setIfInBounds_toArray, List.set_cons_zero, List.set_cons_succ]
  refine wpAnyH_take (i := 4) (oi := ?o4_13) (v := ?v4_13) ?hi4_13 (by kernel_rfl) (by kernel_rfl) (by kernel_rfl) (fun _ _ _ h => h) ?y4_13 (by assumption) ?r4_13
  case hi4_13 => (simp only [List.getElem?_toArray, List.getElem?_cons_succ, List.getElem?_cons_zero]; rfl)
  case y4_13 => (refine Or.inl ⟨by rfl, ?_⟩; intro w' hSw; (try dsimp only at hSw); go_simp; (try with_reducible rfl))
  try simp only [Act.put, List.setIfInBounds_toArray, List.set_cons_zero, List.set_cons_succ]
  refine wpAnyH_take (i := 5) (oi := ?o5_14) (v := ?v5_14) ?hi5_14 (by kernel_rfl) (by kernel_rfl) (by kernel_rfl) (fun _ _ _ h => h) ?y5_14 (by assumption) ?r5_14
  case hi5_14 => (simp only [List.getElem?_toArray, List.getElem?_cons_succ, List.getElem?_cons_zero]; rfl)
  case y5_14 => (refine Or.inl ⟨by rfl, ?_⟩; intro w' hSw; (try dsimp only at hSw); go_simp; (try with_reducible rfl))
  try simp only [Act.put, List.setIfInBounds_toArray, List.set_cons_zero, List.set_cons_succ]
  refine wpAnyH_take (i := 6) (oi := ?o6_15) (v := ?v6_15) ?hi6_15 (by kernel_rfl) (by kernel_rfl) (by kernel_rfl) (fun _ _ _ h => h) ?y6_15 (by assumption) ?r6_15
  case hi6_15 => (simp only [List.getElem?_toArray, List.getElem?_cons_succ, List.getElem?_cons_zero]; rfl)
  case y6_15 => (refine Or.inl ⟨by rfl, ?_⟩; intro w' hSw; (try dsimp only at hSw); go_simp; (try with_reducible rfl))
  try simp only [Act.put, List.setIfInBounds_toArray, List.set_cons_zero, List.set_cons_succ]
  refine wpAnyH_ready (rs := [2]) (by kernel_rfl) (by simp) ?_
  refine AllReadyH.cons (o := ?o2_16) ?hi2_16 ?hst2_16 AllReadyH.nil
  case hi2_16 => (simp only [List.getElem?_toArray, List.getElem?_cons_succ, List.getElem?_cons_zero]; rfl)
  intro K hK
  go_simp
  (go_at_call 24; (with_reducible refine (HV.out _).mono ?_); rintro e w2 ⟨rfl, hb2⟩)
  go_wp2_with fail
  refine hK.out _ _ ⟨Bx.keep_cell hb2 hHeld.1, Bx.Blk.keep hHeld.2 hb2⟩ (fun hNew => ?_)
  clear hHeld
  have hHeld := hNew
  clear hNew hK K
  replace bel := Bx.then_below bel hb2
  refine wpAnyH_take (i := 3) (oi := ?o3_17) (v := ?v3_17) ?hi3_17 (by kernel_rfl) (by kernel_rfl) (by kernel_rfl) (fun _ _ _ h => h) ?y3_17 (by assumption) ?r3_17
  case hi3_17 => (simp only [List.getElem?_toArray, List.getElem?_cons_succ, List.getElem?_cons_zero]; rfl)
  case y3_17 => (refine Or.inl ⟨by rfl, ?_⟩; intro w' hSw; (try dsimp only at hSw); go_simp; (try with_reducible rfl))
  try simp only [Act.put, List.setIfInBounds_toArray, List.set_cons_zero, List.set_cons_succ]
  refine wpAnyH_ready (rs := [7]) (by kernel_rfl) (by simp) ?_
  refine AllReadyH.cons (o := ?o7_18) ?hi7_18 ?hst7_18 AllReadyH.nil
  case hi7_18 => (simp only [List.getElem?_toArray, List.getElem?_cons_succ, List.getElem?_cons_zero]; rfl)
  intro K hK
  go_simp
  (go_at_call 24; (with_reducible refine (HK.out _).mono ?_); rintro e w3 ⟨rfl, hb3⟩)
  go_wp2_with fail
  refine hK.out _ _ ⟨Bx.keep_cell hb3 hHeld.1, Bx.Blk.keep hHeld.2 hb3⟩ (fun hNew => ?_)
  clear hHeld
  have hHeld := hNew
  clear hNew hK K
  replace bel := Bx.then_below bel hb3
  refine wpAnyH_take (i := 8) (oi := ?o8_19) (v := ?v8_19) ?hi8_19 (by kernel_rfl) (by kernel_rfl) (by kernel_rfl) (fun _ _ _ h => h) ?y8_19 (by assumption) ?r8_19
  case hi8_19 => (simp only [List.getElem?_toArray, List.getElem?_cons_succ, List.getElem?_cons_zero]; rfl)
  case y8_19 => (refine Or.inl ⟨by rfl, ?_⟩; intro w' hSw; (try dsimp only at hSw); go_simp; (try with_reducible rfl))
  try simp only [Act.put, List.setIfInBounds_toArray, List.set_cons_zero, List.set_cons_succ]
  refine wpAnyH_take (i := 9) (oi := ?o9_20) (v := ?v9_20) ?hi9_20 (by kernel_rfl) (by kernel_rfl) (by kernel_rfl) (fun _ _ _ h => h) ?y9_20 (by assumption) ?r9_20
  case hi9_20 => (simp only [List.getElem?_toArray, List.getElem?_cons_succ, List.getElem?_cons_zero]; rfl)
  case y9_20 => (refine Or.inl ⟨by rfl, ?_⟩; intro w' hSw; (try dsimp only at hSw); go_simp; (try with_reducible rfl))
  try simp only [Act.put, List.setIfInBounds_toArray, List.set_cons_zero, List.set_cons_succ]
  refine wpAnyH_done (by kernel_rfl) ?_ _
  refine NoPanic.normal ?_
  replace B0 := Lib.hid hHeld.2
  clear hHeld c0_0 c0_8 c0_9 c0_10 c0_11 c0_12 c0_13 c0_14 c0_15
  have c0_0 := B0.out.at 0 rfl
  have c0_8 := B0.out.at 8 rfl
  have c0_9 := B0.out.at 9 rfl
  have c0_10 := B0.out.at 10 rfl
  have c0_11 := B0.out.at 11 rfl
  have c0_12 := B0.out.at 12 rfl
  have c0_13 := B0.out.at 13 rfl
  have c0_14 := B0.out.at 14 rfl
  have c0_15 := B0.out.at 15 rfl
  have zE : ((⟨#[0, 0]⟩ : ByteArray) ++ V1 ++ K1).size = 4 := by rw [ByteArray.size_append, ByteArray.size_append, zV, zK]; rfl
  generalize ((⟨#[0, 0]⟩ : ByteArray) ++ V1 ++ K1) = O4 at *
  go_wp2_with (first | ((with_reducible refine load_at ?_ ?_ (w.heap.size) ?_ b ?_ ?_); (· rfl); (· rfl); (· rfl); (· exact B0.out)))
  replace B0 := Lib.hid (B0.out.more (Obj.cells #[.int .u64 b.r, .int .u64 b.c, .int .u64 b.g, .int .i64 b.p] 24))
  have B1 := Lib.hid (Bx.Blk.new w3 [.int .u64 b.r, .int .u64 b.c, .int .u64 b.g, .int .i64 b.p] 24)
  replace bel := Bx.bel_box bel (Obj.cells #[.int .u64 b.r, .int .u64 b.c, .int .u64 b.g, .int .i64 b.p] 24)
  clear c0_0 c0_8 c0_9 c0_10 c0_11 c0_12 c0_13 c0_14 c0_15
  have c0_0 := B0.out.at 0 rfl
  have c0_8 := B0.out.at 8 rfl
  have c0_9 := B0.out.at 9 rfl
  have c0_10 := B0.out.at 10 rfl
  have c0_11 := B0.out.at 11 rfl
  have c0_12 := B0.out.at 12 rfl
  have c0_13 := B0.out.at 13 rfl
  have c0_14 := B0.out.at 14 rfl
  have c0_15 := B0.out.at 15 rfl
  obtain ⟨c1_0, c1_1, c1_2, c1_3⟩ := B1.out.all4
  generalize w3.heap.size = m1 at *
  generalize w3.alloc (Obj.cells #[.int .u64 b.r, .int .u64 b.c, .int .u64 b.g, .int .i64 b.p] 24) = W0 at *
  refine wp_region_noPanic ?_
  refine wp_region_held_drew (S := fun w' => Bx.Blk w' w.heap.size (bpl b) ∧ w'.cell? ⟨m1, 0, none⟩ = some (.int .u64 b.r) ∧ w'.cell? ⟨m1, 1, none⟩ = some (.int .u64 b.c) ∧ w'.cell? ⟨m1, 2, none⟩ = some (.int .u64 b.g) ∧ w'.cell? ⟨m1, 3, none⟩ = some (.int .i64 b.p)) (by kernel_rfl) (by exact ⟨B0.out, c1_0, c1_1, c1_2, c1_3⟩) (fun hHeld => ?_)
  replace bel := Bx.bel_drewn bel
  refine wpAnyH_take (i := 0) (oi := ?o0_21) (v := ?v0_21) ?hi0_21 (by kernel_rfl) (by kernel_rfl) (by kernel_rfl) (fun _ _ _ h => h) ?y0_21 (by assumption) ?r0_21
  case hi0_21 => (simp only [List.getElem?_toArray, List.getElem?_cons_zero]; rfl)
  case y0_21 => (refine Or.inl ⟨by rfl, ?_⟩; intro w' hSw; (try dsimp only at hSw); go_simp; (try with_reducible rfl))
  try simp only [Act.put, List.setIfInBounds_toArray, List.set_cons_zero, List.set_cons_succ]
  refine wpAnyH_take (i := 1) (oi := ?o1_22) (v := bp b) ?hi1_22 (by kernel_rfl) (by kernel_rfl) (by kernel_rfl) (fun _ _ _ h => h) ?y1_22 (by assumption) ?r1_22
  case hi1_22 => (simp only [List.getElem?_toArray, List.getElem?_cons_succ, List.getElem?_cons_zero]; rfl)
  case y1_22 => (refine yields_bp rfl _ rfl w.heap.size rfl b ?_; intro w' hS; exact hS.1)
  try simp only [Act.put, List.setIfInBounds_toArray, List.set_cons_zero, List.set_cons_succ]
  refine wpAnyH_take (i := 5) (oi := ?o5_23) (v := ?v5_23) ?hi5_23 (by kernel_rfl) (by kernel_rfl) (by kernel_rfl) (fun _ _ _ h => h) ?y5_23 (by assumption) ?r5_23
  case hi5_23 => (simp only [List.getElem?_toArray, List.getElem?_cons_succ, List.getElem?_cons_zero]; rfl)
  case y5_23 => (refine Or.inl ⟨by rfl, ?_⟩; intro w' hSw; (try dsimp only at hSw); go_simp; (try with_reducible rfl))
  try simp only [Act.put, List.setIfInBounds_toArray, List.set_cons_zero, List.set_cons_succ]
  refine wpAnyH_take (i := 6) (oi := ?o6_24) (v := ?v6_24) ?hi6_24 (by kernel_rfl) (by kernel_rfl) (by kernel_rfl) (fun _ _ _ h => h) ?y6_24 (by assumption) ?r6_24
  case hi6_24 => (simp only [List.getElem?_toArray, List.getElem?_cons_succ, List.getElem?_cons_zero]; rfl)
  case y6_24 => (refine Or.inl ⟨by rfl, ?_⟩; intro w' hSw; (try dsimp only at hSw); go_simp; (try with_reducible rfl))
  try simp only [Act.put, List.setIfInBounds_toArray, List.set_cons_zero, List.set_cons_succ]
  refine wpAnyH_take (i := 9) (oi := ?o9_25) (v := ?v9_25) ?hi9_25 (by kernel_rfl) (by kernel_rfl) (by kernel_rfl) (fun _ _ _ h => h) ?y9_25 (by assumption) ?r9_25
  case hi9_25 => (simp only [List.getElem?_toArray, List.getElem?_cons_succ, List.getElem?_cons_zero]; rfl)
  case y9_25 => (refine Or.inl ⟨by rfl, ?_⟩; intro w' hSw; (try dsimp only at hSw); go_simp; (try with_reducible rfl))
  try simp only [Act.put, List.setIfInBounds_toArray, List.set_cons_zero, List.set_cons_succ]
  refine wpAnyH_take (i := 10) (oi := ?o10_26) (v := ?v10_26) ?hi10_26 (by kernel_rfl) (by kernel_rfl) (by kernel_rfl) (fun _ _ _ h => h) ?y10_26 (by assumption) ?r10_26
  case hi10_26 => (simp only [List.getElem?_toArray, List.getElem?_cons_succ, List.getElem?_cons_zero]; rfl)
  case y10_26 => (refine Or.inl ⟨by rfl, ?_⟩; intro w' hSw; (try dsimp only at hSw); go_simp; (try with_reducible rfl))
  try simp only [Act.put, List.setIfInBounds_toArray, List.set_cons_zero, List.set_cons_succ]
  refine wpAnyH_take (i := 13) (oi := ?o13_27) (v := ?v13_27) ?hi13_27 (by kernel_rfl) (by kernel_rfl) (by kernel_rfl) (fun _ _ _ h => h) ?y13_27 (by assumption) ?r13_27
  case hi13_27 => (simp only [List.getElem?_toArray, List.getElem?_cons_succ, List.getElem?_cons_zero]; rfl)
  case y13_27 => (refine Or.inl ⟨by rfl, ?_⟩; intro w' hSw; (try dsimp only at hSw); go_simp; (try with_reducible rfl))
  try simp only [Act.put, List.setIfInBounds_toArray, List.set_cons_zero, List.set_cons_succ]
  refine wpAnyH_take (i := 14) (oi := ?o14_28) (v := ?v14_28) ?hi14_28 (by kernel_rfl) (by kernel_rfl) (by kernel_rfl) (fun _ _ _ h => h) ?y14_28 (by assumption) ?r14_28
  case hi14_28 => (simp only [List.getElem?_toArray, List.getElem?_cons_succ, List.getElem?_cons_zero]; rfl)
  case y14_28 => (refine Or.inl ⟨by rfl, ?_⟩; intro w' hSw; (try dsimp only at hSw); go_simp; (try with_reducible rfl))
  try simp only [Act.put, List.setIfInBounds_toArray, List.set_cons_zero, List.set_cons_succ]
  refine wpAnyH_take (i := 17) (oi := ?o17_29) (v := ?v17_29) ?hi17_29 (by kernel_rfl) (by kernel_rfl) (by kernel_rfl) (fun _ _ _ h => h) ?y17_29 (by assumption) ?r17_29
  case hi17_29 => (simp only [List.getElem?_toArray, List.getElem?_cons_succ, List.getElem?_cons_zero]; rfl)
  case y17_29 => (refine Or.inl ⟨by rfl, ?_⟩; intro w' hSw; (try dsimp only at hSw); go_simp; (try with_reducible rfl))
  try simp only [Act.put, List.setIfInBounds_toArray, List.set_cons_zero, List.set_cons_succ]
  refine wpAnyH_take (i := 18) (oi := ?o18_30) (v := ?v18_30) ?hi18_30 (by kernel_rfl) (by kernel_rfl) (by kernel_rfl) (fun _ _ _ h => h) ?y18_30 (by assumption) ?r18_30
  case hi18_30 => (simp only [List.getElem?_toArray, List.getElem?_cons_succ, List.getElem?_cons_zero]; rfl)
  case y18_30 => (refine Or.inl ⟨by rfl, ?_⟩; intro w' hSw; (try dsimp only at hSw); go_simp; (try with_reducible rfl))
  try simp only [Act.put, List.setIfInBounds_toArray, List.set_cons_zero, List.set_cons_succ]
  refine wpAnyH_take (i := 19) (oi := ?o19_31) (v := ?v19_31) ?hi19_31 (by kernel_rfl) (by kernel_rfl) (by kernel_rfl) (fun _ _ _ h => h) ?y19_31 (by assumption) ?r19_31
  case hi19_31 => (simp only [List.getElem?_toArray, List.getElem?_cons_succ, List.getElem?_cons_zero]; rfl)
  case y19_31 => (refine Or.inl ⟨by rfl, ?_⟩; intro w' hSw; (try dsimp only at hSw); go_simp; (try with_reducible rfl))
  try simp only [Act.put, List.setIfInBounds_toArray, List.set_cons_zero, List.set_cons_succ]
  refine wpAnyH_ready (rs := [2]) (by kernel_rfl) (by simp) ?_
  refine AllReadyH.cons (o := ?o2_32) ?hi2_32 ?hst2_32 AllReadyH.nil
  case hi2_32 => (simp only [List.getElem?_toArray, List.getElem?_cons_succ, List.getElem?_cons_zero]; rfl)
  intro K hK
  go_simp
  (go_at_call 18; (with_reducible refine (HF.out _).mono ?_); rintro e w4 ⟨rfl, hb4⟩)
  go_wp2_with fail
  refine hK.out _ _ ⟨Bx.Blk.keep hHeld.1 hb4, Bx.keep_cell hb4 hHeld.2.1, Bx.keep_cell hb4 hHeld.2.2.1, Bx.keep_cell hb4 hHeld.2.2.2.1, Bx.keep_cell hb4 hHeld.2.2.2.2⟩ (fun hNew => ?_)
  clear hHeld
  have hHeld := hNew
  clear hNew hK K
  replace bel := Bx.then_below bel hb4
  refine wpAnyH_take (i := 3) (oi := ?o3_33) (v := ?v3_33) ?hi3_33 (by kernel_rfl) (by kernel_rfl) (by kernel_rfl) (fun _ _ _ h => h) ?y3_33 (by assumption) ?r3_33
  case hi3_33 => (simp only [List.getElem?_toArray, List.getElem?_cons_succ, List.getElem?_cons_zero]; rfl)
  case y3_33 => (refine Or.inl ⟨by rfl, ?_⟩; intro w' hSw; (try dsimp only at hSw); go_simp; (try with_reducible rfl))
  try simp only [Act.put, List.setIfInBounds_toArray, List.set_cons_zero, List.set_cons_succ]
  refine wpAnyH_ready (rs := [4]) (by kernel_rfl) (by simp) ?_
  refine AllReadyH.cons (o := ?o4_34) ?hi4_34 ?hst4_34 AllReadyH.nil
  case hi4_34 => (simp only [List.getElem?_toArray, List.getElem?_cons_succ, List.getElem?_cons_zero]; rfl)
  intro K hK
  go_simp
  (go_at_call 24; (with_reducible refine (HF1.out _).mono ?_); rintro e w5 ⟨rfl, hb5⟩)
  go_wp2_with fail
  refine hK.out _ _ ⟨Bx.Blk.keep hHeld.1 hb5, Bx.keep_cell hb5 hHeld.2.1, Bx.keep_cell hb5 hHeld.2.2.1, Bx.keep_cell hb5 hHeld.2.2.2.1, Bx.keep_cell hb5 hHeld.2.2.2.2⟩ (fun hNew => ?_)
  clear hHeld
  have hHeld := hNew
  clear hNew hK K
  replace bel := Bx.then_below bel hb5
  refine wpAnyH_ready (rs := [7]) (by kernel_rfl) (by simp) ?_
  refine AllReadyH.cons (o := ?o7_35) ?hi7_35 ?hst7_35 AllReadyH.nil
  case hi7_35 => (simp only [List.getElem?_toArray, List.getElem?_cons_succ, List.getElem?_cons_zero]; rfl)
  intro K hK
  go_simp
  (go_at_call 24; (with_reducible refine (HR1.out _).mono ?_); rintro e w6 ⟨rfl, hb6⟩)
  go_wp2_with fail
  refine hK.out _ _ ⟨Bx.Blk.keep hHeld.1 hb6, Bx.keep_cell hb6 hHeld.2.1, Bx.keep_cell hb6 hHeld.2.2.1, Bx.keep_cell hb6 hHeld.2.2.2.1, Bx.keep_cell hb6 hHeld.2.2.2.2⟩ (fun hNew => ?_)
  clear hHeld
  have hHeld := hNew
  clear hNew hK K
  replace bel := Bx.then_below bel hb6
  refine wpAnyH_take (i := 8) (oi := ?o8_36) (v := ?v8_36) ?hi8_36 (by kernel_rfl) (by kernel_rfl) (by kernel_rfl) (fun _ _ _ h => h) ?y8_36 (by assumption) ?r8_36
  case hi8_36 => (simp only [List.getElem?_toArray, List.getElem?_cons_succ, List.getElem?_cons_zero]; rfl)
  case y8_36 => (refine Or.inl ⟨by rfl, ?_⟩; intro w' hSw; (try dsimp only at hSw); go_simp; (try with_reducible rfl))
  try simp only [Act.put, List.setIfInBounds_toArray, List.set_cons_zero, List.set_cons_succ]
  refine wpAnyH_ready (rs := [11]) (by kernel_rfl) (by simp) ?_
  refine AllReadyH.cons (o := ?o11_37) ?hi11_37 ?hst11_37 AllReadyH.nil
  case hi11_37 => (simp only [List.getElem?_toArray, List.getElem?_cons_succ, List.getElem?_cons_zero]; rfl)
  intro K hK
  go_simp
  (go_at_call 24; (with_reducible refine (HC1.out _).mono ?_); rintro e w7 ⟨rfl, hb7⟩)
  go_wp2_with fail
  refine hK.out _ _ ⟨Bx.Blk.keep hHeld.1 hb7, Bx.keep_cell hb7 hHeld.2.1, Bx.keep_cell hb7 hHeld.2.2.1, Bx.keep_cell hb7 hHeld.2.2.2.1, Bx.keep_cell hb7 hHeld.2.2.2.2⟩ (fun hNew => ?_)
  clear hHeld
  have hHeld := hNew
  clear hNew hK K
  replace bel := Bx.then_below bel hb7
  refine wpAnyH_take (i := 12) (oi := ?o12_38) (v := ?v12_38) ?hi12_38 (by kernel_rfl) (by kernel_rfl) (by kernel_rfl) (fun _ _ _ h => h) ?y12_38 (by assumption) ?r12_38
  case hi12_38 => (simp only [List.getElem?_toArray, List.getElem?_cons_succ, List.getElem?_cons_zero]; rfl)
  case y12_38 => (refine Or.inl ⟨by rfl, ?_⟩; intro w' hSw; (try dsimp only at hSw); go_simp; (try with_reducible rfl))
  try simp only [Act.put, List.setIfInBounds_toArray, List.set_cons_zero, List.set_cons_succ]
  refine wpAnyH_ready (rs := [15]) (by kernel_rfl) (by simp) ?_
  refine AllReadyH.cons (o := ?o15_39) ?hi15_39 ?hst15_39 AllReadyH.nil
  case hi15_39 => (simp only [List.getElem?_toArray, List.getElem?_cons_succ, List.getElem?_cons_zero]; rfl)
  intro K hK
  go_simp
  (go_at_call 24; (with_reducible refine (HG1.out _).mono ?_); rintro e w8 ⟨rfl, hb8⟩)
  go_wp2_with fail
  refine hK.out _ _ ⟨Bx.Blk.keep hHeld.1 hb8, Bx.keep_cell hb8 hHeld.2.1, Bx.keep_cell hb8 hHeld.2.2.1, Bx.keep_cell hb8 hHeld.2.2.2.1, Bx.keep_cell hb8 hHeld.2.2.2.2⟩ (fun hNew => ?_)
  clear hHeld
  have hHeld := hNew
  clear hNew hK K
  replace bel := Bx.then_below bel hb8
  refine wpAnyH_take (i := 16) (oi := ?o16_40) (v := ?v16_40) ?hi16_40 (by kernel_rfl) (by kernel_rfl) (by kernel_rfl) (fun _ _ _ h => h) ?y16_40 (by assumption) ?r16_40
  case hi16_40 => (simp only [List.getElem?_toArray, List.getElem?_cons_succ, List.getElem?_cons_zero]; rfl)
  case y16_40 => (refine Or.inl ⟨by rfl, ?_⟩; intro w' hSw; (try dsimp only at hSw); go_simp; (try with_reducible rfl))
  try simp only [Act.put, List.setIfInBounds_toArray, List.set_cons_zero, List.set_cons_succ]
  refine wpAnyH_ready (rs := [20]) (by kernel_rfl) (by simp) ?_
  refine AllReadyH.cons (o := ?o20_41) ?hi20_41 ?hst20_41 AllReadyH.nil
  case hi20_41 => (simp only [List.getElem?_toArray, List.getElem?_cons_succ, List.getElem?_cons_zero]; rfl)
  intro K hK
  go_simp
  (go_at_call 24; (with_reducible refine (HP1.out _).mono ?_); rintro e w9 ⟨rfl, hb9⟩)
  go_wp2_with fail
  refine hK.out _ _ ⟨Bx.Blk.keep hHeld.1 hb9, Bx.keep_cell hb9 hHeld.2.1, Bx.keep_cell hb9 hHeld.2.2.1, Bx.keep_cell hb9 hHeld.2.2.2.1, Bx.keep_cell hb9 hHeld.2.2.2.2⟩ (fun hNew => ?_)
  clear hHeld
  have hHeld := hNew
  clear hNew hK K
  replace bel := Bx.then_below bel hb9
  refine wpAnyH_take (i := 21) (oi := ?o21_42) (v := ?v21_42) ?hi21_42 (by kernel_rfl) (by kernel_rfl) (by kernel_rfl) (fun _ _ _ h => h) ?y21_42 (by assumption) ?r21_42
  case hi21_42 => (simp only [List.getElem?_toArray, List.getElem?_cons_succ, List.getElem?_cons_zero]; rfl)
  case y21_42 => (refine Or.inl ⟨by rfl, ?_⟩; intro w' hSw; (try dsimp only at hSw); go_simp; (try with_reducible rfl))
  try simp only [Act.put, List.setIfInBounds_toArray, List.set_cons_zero, List.set_cons_succ]
  refine wpAnyH_take (i := 22) (oi := ?o22_43) (v := ?v22_43) ?hi22_43 (by kernel_rfl) (by kernel_rfl) (by kernel_rfl) (fun _ _ _ h => h) ?y22_43 (by assumption) ?r22_43
  case hi22_43 => (simp only [List.getElem?_toArray, List.getElem?_cons_succ, List.getElem?_cons_zero]; rfl)
  case y22_43 => (refine Or.inl ⟨by rfl, ?_⟩; intro w' hSw; (try dsimp only at hSw); go_simp; (try with_reducible rfl))
  try simp only [Act.put, List.setIfInBounds_toArray, List.set_cons_zero, List.set_cons_succ]
  refine wpAnyH_take (i := 23) (oi := ?o23_44) (v := ?v23_44) ?hi23_44 (by kernel_rfl) (by kernel_rfl) (by kernel_rfl) (fun _ _ _ h => h) ?y23_44 (by assumption) ?r23_44
  case hi23_44 => (simp only [List.getElem?_toArray, List.getElem?_cons_succ, List.getElem?_cons_zero]; rfl)
  case y23_44 => (refine Or.inl ⟨by rfl, ?_⟩; intro w' hSw; (try dsimp only at hSw); go_simp; (try with_reducible rfl))
  try simp only [Act.put, List.setIfInBounds_toArray, List.set_cons_zero, List.set_cons_succ]
  refine wpAnyH_done (by kernel_rfl) ?_ _
  refine NoPanic.normal ?_
  replace B0 := Lib.hid hHeld.1
  clear hHeld B1 c0_0 c0_8 c0_9 c0_10 c0_11 c0_12 c0_13 c0_14 c0_15 c1_0 c1_1 c1_2 c1_3
  have c0_0 := B0.out.at 0 rfl
  have c0_8 := B0.out.at 8 rfl
  have c0_9 := B0.out.at 9 rfl
  have c0_10 := B0.out.at 10 rfl
  have c0_11 := B0.out.at 11 rfl
  have c0_12 := B0.out.at 12 rfl
  have c0_13 := B0.out.at 13 rfl
  have c0_14 := B0.out.at 14 rfl
  have c0_15 := B0.out.at 15 rfl
  have zO : (O4 ++ (F1 ++ R1 ++ C1 ++ G1 ++ P1)).size = 27 := by rw [ByteArray.size_append, ByteArray.size_append, ByteArray.size_append, ByteArray.size_append, ByteArray.size_append, zE, zF, zR, zC, zG, zP]
  generalize O4 ++ (F1 ++ R1 ++ C1 ++ G1 ++ P1) = O at *
  go_wp2_with (first | ((with_reducible refine load_at ?_ ?_ (w.heap.size) ?_ b ?_ ?_); (· rfl); (· rfl); (· rfl); (· exact B0.out)))
  refine wp_loop_rounds 5 ?_
  rw [rounds_succ]
  go_wp2_with (first | ((with_reducible refine load_at ?_ ?_ (w.heap.size) ?_ b ?_ ?_); (· rfl); (· rfl); (· rfl); (· exact B0.out)))
  refine (HA.out _).mono ?_; rintro e w10 ⟨rfl, hb10⟩
  replace bel := Bx.then_below bel hb10
  replace B0 := Lib.hid (B0.out.keep hb10)
  clear hb10
  clear c0_0 c0_8 c0_9 c0_10 c0_11 c0_12 c0_13 c0_14 c0_15
  have c0_0 := B0.out.at 0 rfl
  have c0_8 := B0.out.at 8 rfl
  have c0_9 := B0.out.at 9 rfl
  have c0_10 := B0.out.at 10 rfl
  have c0_11 := B0.out.at 11 rfl
  have c0_12 := B0.out.at 12 rfl
  have c0_13 := B0.out.at 13 rfl
  have c0_14 := B0.out.at 14 rfl
  have c0_15 := B0.out.at 15 rfl
  go_wp2_with (first | ((with_reducible refine load_at ?_ ?_ (w.heap.size) ?_ b ?_ ?_); (· rfl); (· rfl); (· rfl); (· exact B0.out)))
  have z1' : (O ++ (A1 ++ ⟨#[0]⟩)).size = 29 := by rw [ByteArray.size_append, ByteArray.size_append, zO, zA]; rfl
  generalize O ++ (A1 ++ ⟨#[0]⟩) = O5 at *
  rw [rounds_succ]
  go_wp2_with (first | ((with_reducible refine load_at ?_ ?_ (w.heap.size) ?_ b ?_ ?_); (· rfl); (· rfl); (· rfl); (· exact B0.out)))
  refine (HM.out _).mono ?_; rintro e w11 ⟨rfl, hb11⟩
  replace bel := Bx.then_below bel hb11
  replace B0 := Lib.hid (B0.out.keep hb11)
  clear hb11
  clear c0_0 c0_8 c0_9 c0_10 c0_11 c0_12 c0_13 c0_14 c0_15
  have c0_0 := B0.out.at 0 rfl
  have c0_8 := B0.out.at 8 rfl
  have c0_9 := B0.out.at 9 rfl
  have c0_10 := B0.out.at 10 rfl
  have c0_11 := B0.out.at 11 rfl
  have c0_12 := B0.out.at 12 rfl
  have c0_13 := B0.out.at 13 rfl
  have c0_14 := B0.out.at 14 rfl
  have c0_15 := B0.out.at 15 rfl
  go_wp2_with (first | ((with_reducible refine load_at ?_ ?_ (w.heap.size) ?_ b ?_ ?_); (· rfl); (· rfl); (· rfl); (· exact B0.out)))
  have z2' : (O5 ++ (M1 ++ ⟨#[0]⟩)).size = 31 := by rw [ByteArray.size_append, ByteArray.size_append, z1', zM]; rfl
  generalize O5 ++ (M1 ++ ⟨#[0]⟩) = O6 at *
  rw [rounds_succ]
  go_wp2_with (first | ((with_reducible refine load_at ?_ ?_ (w.heap.size) ?_ b ?_ ?_); (· rfl); (· rfl); (· rfl); (· exact B0.out)))
  refine (HH.out _).mono ?_; rintro e w12 ⟨rfl, hb12⟩
  replace bel := Bx.then_below bel hb12
  replace B0 := Lib.hid (B0.out.keep hb12)
  clear hb12
  clear c0_0 c0_8 c0_9 c0_10 c0_11 c0_12 c0_13 c0_14 c0_15
  have c0_0 := B0.out.at 0 rfl
  have c0_8 := B0.out.at 8 rfl
  have c0_9 := B0.out.at 9 rfl
  have c0_10 := B0.out.at 10 rfl
  have c0_11 := B0.out.at 11 rfl
  have c0_12 := B0.out.at 12 rfl
  have c0_13 := B0.out.at 13 rfl
  have c0_14 := B0.out.at 14 rfl
  have c0_15 := B0.out.at 15 rfl
  go_wp2_with (first | ((with_reducible refine load_at ?_ ?_ (w.heap.size) ?_ b ?_ ?_); (· rfl); (· rfl); (· rfl); (· exact B0.out)))
  have z3' : (O6 ++ (H1 ++ ⟨#[0]⟩)).size = 33 := by rw [ByteArray.size_append, ByteArray.size_append, z2', zH]; rfl
  generalize O6 ++ (H1 ++ ⟨#[0]⟩) = O7 at *
  rw [rounds_succ]
  go_wp2_with (first | ((with_reducible refine load_at ?_ ?_ (w.heap.size) ?_ b ?_ ?_); (· rfl); (· rfl); (· rfl); (· exact B0.out)))
  refine (HD.out _).mono ?_; rintro e w13 ⟨rfl, hb13⟩
  replace bel := Bx.then_below bel hb13
  replace B0 := Lib.hid (B0.out.keep hb13)
  clear hb13
  clear c0_0 c0_8 c0_9 c0_10 c0_11 c0_12 c0_13 c0_14 c0_15
  have c0_0 := B0.out.at 0 rfl
  have c0_8 := B0.out.at 8 rfl
  have c0_9 := B0.out.at 9 rfl
  have c0_10 := B0.out.at 10 rfl
  have c0_11 := B0.out.at 11 rfl
  have c0_12 := B0.out.at 12 rfl
  have c0_13 := B0.out.at 13 rfl
  have c0_14 := B0.out.at 14 rfl
  have c0_15 := B0.out.at 15 rfl
  go_wp2_with (first | ((with_reducible refine load_at ?_ ?_ (w.heap.size) ?_ b ?_ ?_); (· rfl); (· rfl); (· rfl); (· exact B0.out)))
  have z4' : (O7 ++ (D1 ++ ⟨#[0]⟩)).size = 35 := by rw [ByteArray.size_append, ByteArray.size_append, z3', zD]; rfl
  generalize O7 ++ (D1 ++ ⟨#[0]⟩) = O8 at *
  rw [rounds_succ]
  go_wp2_with (first | ((with_reducible refine load_at ?_ ?_ (w.heap.size) ?_ b ?_ ?_); (· rfl); (· rfl); (· rfl); (· exact B0.out)))
  go_ret2
  exact ⟨by rw [HY.out]; rfl, bel⟩

set_option maxRecDepth 100000 in
set_option maxHeartbeats 4000000 in
theorem rbytes_two (b : Bp) (F : Int) (V1 K1 F1 R1 C1 G1 P1 A1 M1 H1 D1 Y : ByteArray) (w : World) (HY : Hid (Y = (((⟨#[0, 0]⟩ : ByteArray) ++ V1 ++ K1) ++ (F1 ++ R1 ++ C1 ++ G1 ++ P1) ++ (A1 ++ ⟨#[0]⟩) ++ (M1 ++ ⟨#[0]⟩) ++ (H1 ++ ⟨#[0]⟩) ++ (D1 ++ ⟨#[0]⟩) ++ ⟨#[0]⟩))) (h : (b.k == 128) = false) (h2 : (b.k == 2) = true) (hk : 0 ≤ b.k) (hk' : b.k < 256) (hf : 0 ≤ F) (hf' : F < 256) (hp : 0 ≤ b.p) (hp' : b.p < 65536) (ha : 0 ≤ b.a) (ha' : b.a < 256) (hm : 0 ≤ b.m) (hm' : b.m < 256) (hh : 0 ≤ b.h) (hh' : b.h < 256) (hd : 0 ≤ b.d) (hd' : b.d < 256) (zV : V1.size = 1) (zK : K1.size = 1) (zF : F1.size = 1) (zR : R1.size = 8) (zC : C1.size = 4) (zG : G1.size = 8) (zP : P1.size = 2) (zA : A1.size = 1) (zM : M1.size = 1) (zH : H1.size = 1) (zD : D1.size = 1) 
    (HR : Hid (∀ w, Calls Try.prog 16 #[bp b] w fun e w' => e = .returned (.bool true) ∧ Below w.heap.size w w'))
    (HV : Hid (∀ w, Calls Try.prog 24 #[.int .u64 2, .int .i64 1] w fun e w' => e = .returned (.string V1) ∧ Below w.heap.size w w'))
    (HK : Hid (∀ w, Calls Try.prog 24 #[.int .u64 b.k, .int .i64 1] w fun e w' => e = .returned (.string K1) ∧ Below w.heap.size w w'))
    (HF : Hid (∀ w, Calls Try.prog 18 #[bp b] w fun e w' => e = .returned (.int .i64 F) ∧ Below w.heap.size w w'))
    (HF1 : Hid (∀ w, Calls Try.prog 24 #[.int .u64 F, .int .i64 1] w fun e w' => e = .returned (.string F1) ∧ Below w.heap.size w w'))
    (HR1 : Hid (∀ w, Calls Try.prog 24 #[.int .u64 b.r, .int .i64 8] w fun e w' => e = .returned (.string R1) ∧ Below w.heap.size w w'))
    (HC1 : Hid (∀ w, Calls Try.prog 24 #[.int .u64 b.c, .int .i64 4] w fun e w' => e = .returned (.string C1) ∧ Below w.heap.size w w'))
    (HG1 : Hid (∀ w, Calls Try.prog 24 #[.int .u64 b.g, .int .i64 8] w fun e w' => e = .returned (.string G1) ∧ Below w.heap.size w w'))
    (HP1 : Hid (∀ w, Calls Try.prog 24 #[.int .u64 b.p, .int .i64 2] w fun e w' => e = .returned (.string P1) ∧ Below w.heap.size w w'))
    (HA : Hid (∀ w, Calls Try.prog 24 #[.int .u64 b.a, .int .i64 1] w fun e w' => e = .returned (.string A1) ∧ Below w.heap.size w w'))
    (HM : Hid (∀ w, Calls Try.prog 24 #[.int .u64 b.m, .int .i64 1] w fun e w' => e = .returned (.string M1) ∧ Below w.heap.size w w'))
    (HH : Hid (∀ w, Calls Try.prog 24 #[.int .u64 b.h, .int .i64 1] w fun e w' => e = .returned (.string H1) ∧ Below w.heap.size w w'))
    (HD : Hid (∀ w, Calls Try.prog 24 #[.int .u64 b.d, .int .i64 1] w fun e w' => e = .returned (.string D1) ∧ Below w.heap.size w w')) :
    Calls Try.prog 8 #[bp b] w fun e w' => e = .returned (.tuple #[.string Y, .int .i64 0]) ∧ Below w.heap.size w w' := by
  have qv : IntKind.u64.wrap 2 = 2 := by decide
  have q0 : IntKind.u64.wrap b.k = b.k := by rw [IntKind.wrap_u64]; omega
  have qF : IntKind.u64.wrap F = F := by rw [IntKind.wrap_u64]; omega
  have qp : IntKind.u64.wrap b.p = b.p := by rw [IntKind.wrap_u64]; omega
  have qa : IntKind.u64.wrap b.a = b.a := by rw [IntKind.wrap_u64]; omega
  have x0 : ∀ w, (Instr.index 52 (.agg #[.int .i64 b.a, .int .i64 b.m, .int .i64 b.h, .int .i64 b.d]) (.int .i64 0)).run Try.prog w = .ok (.int .i64 b.a) w := fun _ => by kernel_rfl
  have qm : IntKind.u64.wrap b.m = b.m := by rw [IntKind.wrap_u64]; omega
  have x1 : ∀ w, (Instr.index 52 (.agg #[.int .i64 b.a, .int .i64 b.m, .int .i64 b.h, .int .i64 b.d]) (.int .i64 1)).run Try.prog w = .ok (.int .i64 b.m) w := fun _ => by kernel_rfl
  have qh : IntKind.u64.wrap b.h = b.h := by rw [IntKind.wrap_u64]; omega
  have x2 : ∀ w, (Instr.index 52 (.agg #[.int .i64 b.a, .int .i64 b.m, .int .i64 b.h, .int .i64 b.d]) (.int .i64 2)).run Try.prog w = .ok (.int .i64 b.h) w := fun _ => by kernel_rfl
  have qd : IntKind.u64.wrap b.d = b.d := by rw [IntKind.wrap_u64]; omega
  have x3 : ∀ w, (Instr.index 52 (.agg #[.int .i64 b.a, .int .i64 b.m, .int .i64 b.h, .int .i64 b.d]) (.int .i64 3)).run Try.prog w = .ok (.int .i64 b.d) w := fun _ => by kernel_rfl
  have bel := Bx.bel_refl w
  have B0 := Lib.hid (Bx.Blk.new w (bpl b) 26)
  replace bel := Bx.bel_box bel (Obj.cells (bpl b).toArray 26)
  have c0_0 := B0.out.at 0 rfl
  have c0_8 := B0.out.at 8 rfl
  have c0_9 := B0.out.at 9 rfl
  have c0_10 := B0.out.at 10 rfl
  have c0_11 := B0.out.at 11 rfl
  have c0_12 := B0.out.at 12 rfl
  have c0_13 := B0.out.at 13 rfl
  have c0_14 := B0.out.at 14 rfl
  have c0_15 := B0.out.at 15 rfl
  go_enter Try.func8, Try.ntmps8
  go_wp2_with (first | ((with_reducible refine load_at ?_ ?_ (w.heap.size) ?_ b ?_ ?_); (· rfl); (· rfl); (· rfl); (· exact B0.out)))
  refine (HR.out _).mono ?_; rintro e w1 ⟨rfl, hb1⟩
  replace bel := Bx.then_below bel hb1
  replace B0 := Lib.hid (B0.out.keep hb1)
  clear hb1
  clear c0_0 c0_8 c0_9 c0_10 c0_11 c0_12 c0_13 c0_14 c0_15
  have c0_0 := B0.out.at 0 rfl
  have c0_8 := B0.out.at 8 rfl
  have c0_9 := B0.out.at 9 rfl
  have c0_10 := B0.out.at 10 rfl
  have c0_11 := B0.out.at 11 rfl
  have c0_12 := B0.out.at 12 rfl
  have c0_13 := B0.out.at 13 rfl
  have c0_14 := B0.out.at 14 rfl
  have c0_15 := B0.out.at 15 rfl
  go_wp2_with (first | ((with_reducible refine load_at ?_ ?_ (w.heap.size) ?_ b ?_ ?_); (· rfl); (· rfl); (· rfl); (· exact B0.out)))
  refine wp_region_noPanic ?_
  refine wp_region_held_drew (S := fun w' => w'.cell? ⟨w.heap.size, 0, none⟩ = some (.int .i64 b.k) ∧ Bx.Blk w' w.heap.size (bpl b)) (by kernel_rfl) (by exact ⟨c0_0, B0.out⟩) (fun hHeld => ?_)
  replace bel := Bx.bel_drewn bel
  refine wpAnyH_take (i := 0) (oi := ?o0_45) (v := ?v0_45) ?hi0_45 (by kernel_rfl) (by kernel_rfl) (by kernel_rfl) (fun _ _ _ h => h) ?y0_45 (by assumption) ?r0_45
  case hi0_45 => (simp only [List.getElem?_toArray, List.getElem?_cons_zero]; rfl)
  case y0_45 => (refine Or.inl ⟨by rfl, ?_⟩; intro w' hSw; (try dsimp only at hSw); go_simp; (try with_reducible rfl))
  try simp only [Act.put, List.setIfInBounds_toArray, List.set_cons_zero, List.set_cons_succ]
  refine wpAnyH_take (i := 1) (oi := ?o1_46) (v := ?v1_46) ?hi1_46 (by kernel_rfl) (by kernel_rfl) (by kernel_rfl) (fun _ _ _ h => h) ?y1_46 (by assumption) ?r1_46
  case hi1_46 => (simp only [List.getElem?_toArray, List.getElem?_cons_succ, List.getElem?_cons_zero]; rfl)
  case y1_46 => (refine Or.inl ⟨by rfl, ?_⟩; intro w' hSw; (try dsimp only at hSw); go_simp; (try with_reducible rfl))
  try simp only [Act.put, List.setIfInBounds_toArray, List.set_cons_zero, List.set_cons_succ]
  refine wpAnyH_take (i := 4) (oi := ?o4_47) (v := ?v4_47) ?hi4_47 (by kernel_rfl) (by kernel_rfl) (by kernel_rfl) (fun _ _ _ h => h) ?y4_47 (by assumption) ?r4_47
  case hi4_47 => (simp only [List.getElem?_toArray, List.getElem?_cons_succ, List.getElem?_cons_zero]; rfl)
  case y4_47 => (refine Or.inl ⟨by rfl, ?_⟩; intro w' hSw; (try dsimp only at hSw); go_simp; (try with_reducible rfl))
  try simp only [Act.put, List.setIfInBounds_toArray, List.set_cons_zero, List.set_cons_succ]
  refine wpAnyH_take (i := 5) (oi := ?o5_48) (v := ?v5_48) ?hi5_48 (by kernel_rfl) (by kernel_rfl) (by kernel_rfl) (fun _ _ _ h => h) ?y5_48 (by assumption) ?r5_48
  case hi5_48 => (simp only [List.getElem?_toArray, List.getElem?_cons_succ, List.getElem?_cons_zero]; rfl)
  case y5_48 => (refine Or.inl ⟨by rfl, ?_⟩; intro w' hSw; (try dsimp only at hSw); go_simp; (try with_reducible rfl))
  try simp only [Act.put, List.setIfInBounds_toArray, List.set_cons_zero, List.set_cons_succ]
  refine wpAnyH_take (i := 6) (oi := ?o6_49) (v := ?v6_49) ?hi6_49 (by kernel_rfl) (by kernel_rfl) (by kernel_rfl) (fun _ _ _ h => h) ?y6_49 (by assumption) ?r6_49
  case hi6_49 => (simp only [List.getElem?_toArray, List.getElem?_cons_succ, List.getElem?_cons_zero]; rfl)
  case y6_49 => (refine Or.inl ⟨by rfl, ?_⟩; intro w' hSw; (try dsimp only at hSw); go_simp; (try with_reducible rfl))
  try simp only [Act.put, List.setIfInBounds_toArray, List.set_cons_zero, List.set_cons_succ]
  refine wpAnyH_ready (rs := [2]) (by kernel_rfl) (by simp) ?_
  refine AllReadyH.cons (o := ?o2_50) ?hi2_50 ?hst2_50 AllReadyH.nil
  case hi2_50 => (simp only [List.getElem?_toArray, List.getElem?_cons_succ, List.getElem?_cons_zero]; rfl)
  intro K hK
  go_simp
  (go_at_call 24; (with_reducible refine (HV.out _).mono ?_); rintro e w2 ⟨rfl, hb2⟩)
  go_wp2_with fail
  refine hK.out _ _ ⟨Bx.keep_cell hb2 hHeld.1, Bx.Blk.keep hHeld.2 hb2⟩ (fun hNew => ?_)
  clear hHeld
  have hHeld := hNew
  clear hNew hK K
  replace bel := Bx.then_below bel hb2
  refine wpAnyH_take (i := 3) (oi := ?o3_51) (v := ?v3_51) ?hi3_51 (by kernel_rfl) (by kernel_rfl) (by kernel_rfl) (fun _ _ _ h => h) ?y3_51 (by assumption) ?r3_51
  case hi3_51 => (simp only [List.getElem?_toArray, List.getElem?_cons_succ, List.getElem?_cons_zero]; rfl)
  case y3_51 => (refine Or.inl ⟨by rfl, ?_⟩; intro w' hSw; (try dsimp only at hSw); go_simp; (try with_reducible rfl))
  try simp only [Act.put, List.setIfInBounds_toArray, List.set_cons_zero, List.set_cons_succ]
  refine wpAnyH_ready (rs := [7]) (by kernel_rfl) (by simp) ?_
  refine AllReadyH.cons (o := ?o7_52) ?hi7_52 ?hst7_52 AllReadyH.nil
  case hi7_52 => (simp only [List.getElem?_toArray, List.getElem?_cons_succ, List.getElem?_cons_zero]; rfl)
  intro K hK
  go_simp
  (go_at_call 24; (with_reducible refine (HK.out _).mono ?_); rintro e w3 ⟨rfl, hb3⟩)
  go_wp2_with fail
  refine hK.out _ _ ⟨Bx.keep_cell hb3 hHeld.1, Bx.Blk.keep hHeld.2 hb3⟩ (fun hNew => ?_)
  clear hHeld
  have hHeld := hNew
  clear hNew hK K
  replace bel := Bx.then_below bel hb3
  refine wpAnyH_take (i := 8) (oi := ?o8_53) (v := ?v8_53) ?hi8_53 (by kernel_rfl) (by kernel_rfl) (by kernel_rfl) (fun _ _ _ h => h) ?y8_53 (by assumption) ?r8_53
  case hi8_53 => (simp only [List.getElem?_toArray, List.getElem?_cons_succ, List.getElem?_cons_zero]; rfl)
  case y8_53 => (refine Or.inl ⟨by rfl, ?_⟩; intro w' hSw; (try dsimp only at hSw); go_simp; (try with_reducible rfl))
  try simp only [Act.put, List.setIfInBounds_toArray, List.set_cons_zero, List.set_cons_succ]
  refine wpAnyH_take (i := 9) (oi := ?o9_54) (v := ?v9_54) ?hi9_54 (by kernel_rfl) (by kernel_rfl) (by kernel_rfl) (fun _ _ _ h => h) ?y9_54 (by assumption) ?r9_54
  case hi9_54 => (simp only [List.getElem?_toArray, List.getElem?_cons_succ, List.getElem?_cons_zero]; rfl)
  case y9_54 => (refine Or.inl ⟨by rfl, ?_⟩; intro w' hSw; (try dsimp only at hSw); go_simp; (try with_reducible rfl))
  try simp only [Act.put, List.setIfInBounds_toArray, List.set_cons_zero, List.set_cons_succ]
  refine wpAnyH_done (by kernel_rfl) ?_ _
  refine NoPanic.normal ?_
  replace B0 := Lib.hid hHeld.2
  clear hHeld c0_0 c0_8 c0_9 c0_10 c0_11 c0_12 c0_13 c0_14 c0_15
  have c0_0 := B0.out.at 0 rfl
  have c0_8 := B0.out.at 8 rfl
  have c0_9 := B0.out.at 9 rfl
  have c0_10 := B0.out.at 10 rfl
  have c0_11 := B0.out.at 11 rfl
  have c0_12 := B0.out.at 12 rfl
  have c0_13 := B0.out.at 13 rfl
  have c0_14 := B0.out.at 14 rfl
  have c0_15 := B0.out.at 15 rfl
  have zE : ((⟨#[0, 0]⟩ : ByteArray) ++ V1 ++ K1).size = 4 := by rw [ByteArray.size_append, ByteArray.size_append, zV, zK]; rfl
  generalize ((⟨#[0, 0]⟩ : ByteArray) ++ V1 ++ K1) = O4 at *
  go_wp2_with (first | ((with_reducible refine load_at ?_ ?_ (w.heap.size) ?_ b ?_ ?_); (· rfl); (· rfl); (· rfl); (· exact B0.out)))
  replace B0 := Lib.hid (B0.out.more (Obj.cells #[.int .u64 b.r, .int .u64 b.c, .int .u64 b.g, .int .i64 b.p] 24))
  have B1 := Lib.hid (Bx.Blk.new w3 [.int .u64 b.r, .int .u64 b.c, .int .u64 b.g, .int .i64 b.p] 24)
  replace bel := Bx.bel_box bel (Obj.cells #[.int .u64 b.r, .int .u64 b.c, .int .u64 b.g, .int .i64 b.p] 24)
  clear c0_0 c0_8 c0_9 c0_10 c0_11 c0_12 c0_13 c0_14 c0_15
  have c0_0 := B0.out.at 0 rfl
  have c0_8 := B0.out.at 8 rfl
  have c0_9 := B0.out.at 9 rfl
  have c0_10 := B0.out.at 10 rfl
  have c0_11 := B0.out.at 11 rfl
  have c0_12 := B0.out.at 12 rfl
  have c0_13 := B0.out.at 13 rfl
  have c0_14 := B0.out.at 14 rfl
  have c0_15 := B0.out.at 15 rfl
  obtain ⟨c1_0, c1_1, c1_2, c1_3⟩ := B1.out.all4
  generalize w3.heap.size = m1 at *
  generalize w3.alloc (Obj.cells #[.int .u64 b.r, .int .u64 b.c, .int .u64 b.g, .int .i64 b.p] 24) = W0 at *
  refine wp_region_noPanic ?_
  refine wp_region_held_drew (S := fun w' => Bx.Blk w' w.heap.size (bpl b) ∧ w'.cell? ⟨m1, 0, none⟩ = some (.int .u64 b.r) ∧ w'.cell? ⟨m1, 1, none⟩ = some (.int .u64 b.c) ∧ w'.cell? ⟨m1, 2, none⟩ = some (.int .u64 b.g) ∧ w'.cell? ⟨m1, 3, none⟩ = some (.int .i64 b.p)) (by kernel_rfl) (by exact ⟨B0.out, c1_0, c1_1, c1_2, c1_3⟩) (fun hHeld => ?_)
  replace bel := Bx.bel_drewn bel
  refine wpAnyH_take (i := 0) (oi := ?o0_55) (v := ?v0_55) ?hi0_55 (by kernel_rfl) (by kernel_rfl) (by kernel_rfl) (fun _ _ _ h => h) ?y0_55 (by assumption) ?r0_55
  case hi0_55 => (simp only [List.getElem?_toArray, List.getElem?_cons_zero]; rfl)
  case y0_55 => (refine Or.inl ⟨by rfl, ?_⟩; intro w' hSw; (try dsimp only at hSw); go_simp; (try with_reducible rfl))
  try simp only [Act.put, List.setIfInBounds_toArray, List.set_cons_zero, List.set_cons_succ]
  refine wpAnyH_take (i := 1) (oi := ?o1_56) (v := bp b) ?hi1_56 (by kernel_rfl) (by kernel_rfl) (by kernel_rfl) (fun _ _ _ h => h) ?y1_56 (by assumption) ?r1_56
  case hi1_56 => (simp only [List.getElem?_toArray, List.getElem?_cons_succ, List.getElem?_cons_zero]; rfl)
  case y1_56 => (refine yields_bp rfl _ rfl w.heap.size rfl b ?_; intro w' hS; exact hS.1)
  try simp only [Act.put, List.setIfInBounds_toArray, List.set_cons_zero, List.set_cons_succ]
  refine wpAnyH_take (i := 5) (oi := ?o5_57) (v := ?v5_57) ?hi5_57 (by kernel_rfl) (by kernel_rfl) (by kernel_rfl) (fun _ _ _ h => h) ?y5_57 (by assumption) ?r5_57
  case hi5_57 => (simp only [List.getElem?_toArray, List.getElem?_cons_succ, List.getElem?_cons_zero]; rfl)
  case y5_57 => (refine Or.inl ⟨by rfl, ?_⟩; intro w' hSw; (try dsimp only at hSw); go_simp; (try with_reducible rfl))
  try simp only [Act.put, List.setIfInBounds_toArray, List.set_cons_zero, List.set_cons_succ]
  refine wpAnyH_take (i := 6) (oi := ?o6_58) (v := ?v6_58) ?hi6_58 (by kernel_rfl) (by kernel_rfl) (by kernel_rfl) (fun _ _ _ h => h) ?y6_58 (by assumption) ?r6_58
  case hi6_58 => (simp only [List.getElem?_toArray, List.getElem?_cons_succ, List.getElem?_cons_zero]; rfl)
  case y6_58 => (refine Or.inl ⟨by rfl, ?_⟩; intro w' hSw; (try dsimp only at hSw); go_simp; (try with_reducible rfl))
  try simp only [Act.put, List.setIfInBounds_toArray, List.set_cons_zero, List.set_cons_succ]
  refine wpAnyH_take (i := 9) (oi := ?o9_59) (v := ?v9_59) ?hi9_59 (by kernel_rfl) (by kernel_rfl) (by kernel_rfl) (fun _ _ _ h => h) ?y9_59 (by assumption) ?r9_59
  case hi9_59 => (simp only [List.getElem?_toArray, List.getElem?_cons_succ, List.getElem?_cons_zero]; rfl)
  case y9_59 => (refine Or.inl ⟨by rfl, ?_⟩; intro w' hSw; (try dsimp only at hSw); go_simp; (try with_reducible rfl))
  try simp only [Act.put, List.setIfInBounds_toArray, List.set_cons_zero, List.set_cons_succ]
  refine wpAnyH_take (i := 10) (oi := ?o10_60) (v := ?v10_60) ?hi10_60 (by kernel_rfl) (by kernel_rfl) (by kernel_rfl) (fun _ _ _ h => h) ?y10_60 (by assumption) ?r10_60
  case hi10_60 => (simp only [List.getElem?_toArray, List.getElem?_cons_succ, List.getElem?_cons_zero]; rfl)
  case y10_60 => (refine Or.inl ⟨by rfl, ?_⟩; intro w' hSw; (try dsimp only at hSw); go_simp; (try with_reducible rfl))
  try simp only [Act.put, List.setIfInBounds_toArray, List.set_cons_zero, List.set_cons_succ]
  refine wpAnyH_take (i := 13) (oi := ?o13_61) (v := ?v13_61) ?hi13_61 (by kernel_rfl) (by kernel_rfl) (by kernel_rfl) (fun _ _ _ h => h) ?y13_61 (by assumption) ?r13_61
  case hi13_61 => (simp only [List.getElem?_toArray, List.getElem?_cons_succ, List.getElem?_cons_zero]; rfl)
  case y13_61 => (refine Or.inl ⟨by rfl, ?_⟩; intro w' hSw; (try dsimp only at hSw); go_simp; (try with_reducible rfl))
  try simp only [Act.put, List.setIfInBounds_toArray, List.set_cons_zero, List.set_cons_succ]
  refine wpAnyH_take (i := 14) (oi := ?o14_62) (v := ?v14_62) ?hi14_62 (by kernel_rfl) (by kernel_rfl) (by kernel_rfl) (fun _ _ _ h => h) ?y14_62 (by assumption) ?r14_62
  case hi14_62 => (simp only [List.getElem?_toArray, List.getElem?_cons_succ, List.getElem?_cons_zero]; rfl)
  case y14_62 => (refine Or.inl ⟨by rfl, ?_⟩; intro w' hSw; (try dsimp only at hSw); go_simp; (try with_reducible rfl))
  try simp only [Act.put, List.setIfInBounds_toArray, List.set_cons_zero, List.set_cons_succ]
  refine wpAnyH_take (i := 17) (oi := ?o17_63) (v := ?v17_63) ?hi17_63 (by kernel_rfl) (by kernel_rfl) (by kernel_rfl) (fun _ _ _ h => h) ?y17_63 (by assumption) ?r17_63
  case hi17_63 => (simp only [List.getElem?_toArray, List.getElem?_cons_succ, List.getElem?_cons_zero]; rfl)
  case y17_63 => (refine Or.inl ⟨by rfl, ?_⟩; intro w' hSw; (try dsimp only at hSw); go_simp; (try with_reducible rfl))
  try simp only [Act.put, List.setIfInBounds_toArray, List.set_cons_zero, List.set_cons_succ]
  refine wpAnyH_take (i := 18) (oi := ?o18_64) (v := ?v18_64) ?hi18_64 (by kernel_rfl) (by kernel_rfl) (by kernel_rfl) (fun _ _ _ h => h) ?y18_64 (by assumption) ?r18_64
  case hi18_64 => (simp only [List.getElem?_toArray, List.getElem?_cons_succ, List.getElem?_cons_zero]; rfl)
  case y18_64 => (refine Or.inl ⟨by rfl, ?_⟩; intro w' hSw; (try dsimp only at hSw); go_simp; (try with_reducible rfl))
  try simp only [Act.put, List.setIfInBounds_toArray, List.set_cons_zero, List.set_cons_succ]
  refine wpAnyH_take (i := 19) (oi := ?o19_65) (v := ?v19_65) ?hi19_65 (by kernel_rfl) (by kernel_rfl) (by kernel_rfl) (fun _ _ _ h => h) ?y19_65 (by assumption) ?r19_65
  case hi19_65 => (simp only [List.getElem?_toArray, List.getElem?_cons_succ, List.getElem?_cons_zero]; rfl)
  case y19_65 => (refine Or.inl ⟨by rfl, ?_⟩; intro w' hSw; (try dsimp only at hSw); go_simp; (try with_reducible rfl))
  try simp only [Act.put, List.setIfInBounds_toArray, List.set_cons_zero, List.set_cons_succ]
  refine wpAnyH_ready (rs := [2]) (by kernel_rfl) (by simp) ?_
  refine AllReadyH.cons (o := ?o2_66) ?hi2_66 ?hst2_66 AllReadyH.nil
  case hi2_66 => (simp only [List.getElem?_toArray, List.getElem?_cons_succ, List.getElem?_cons_zero]; rfl)
  intro K hK
  go_simp
  (go_at_call 18; (with_reducible refine (HF.out _).mono ?_); rintro e w4 ⟨rfl, hb4⟩)
  go_wp2_with fail
  refine hK.out _ _ ⟨Bx.Blk.keep hHeld.1 hb4, Bx.keep_cell hb4 hHeld.2.1, Bx.keep_cell hb4 hHeld.2.2.1, Bx.keep_cell hb4 hHeld.2.2.2.1, Bx.keep_cell hb4 hHeld.2.2.2.2⟩ (fun hNew => ?_)
  clear hHeld
  have hHeld := hNew
  clear hNew hK K
  replace bel := Bx.then_below bel hb4
  refine wpAnyH_take (i := 3) (oi := ?o3_67) (v := ?v3_67) ?hi3_67 (by kernel_rfl) (by kernel_rfl) (by kernel_rfl) (fun _ _ _ h => h) ?y3_67 (by assumption) ?r3_67
  case hi3_67 => (simp only [List.getElem?_toArray, List.getElem?_cons_succ, List.getElem?_cons_zero]; rfl)
  case y3_67 => (refine Or.inl ⟨by rfl, ?_⟩; intro w' hSw; (try dsimp only at hSw); go_simp; (try with_reducible rfl))
  try simp only [Act.put, List.setIfInBounds_toArray, List.set_cons_zero, List.set_cons_succ]
  refine wpAnyH_ready (rs := [4]) (by kernel_rfl) (by simp) ?_
  refine AllReadyH.cons (o := ?o4_68) ?hi4_68 ?hst4_68 AllReadyH.nil
  case hi4_68 => (simp only [List.getElem?_toArray, List.getElem?_cons_succ, List.getElem?_cons_zero]; rfl)
  intro K hK
  go_simp
  (go_at_call 24; (with_reducible refine (HF1.out _).mono ?_); rintro e w5 ⟨rfl, hb5⟩)
  go_wp2_with fail
  refine hK.out _ _ ⟨Bx.Blk.keep hHeld.1 hb5, Bx.keep_cell hb5 hHeld.2.1, Bx.keep_cell hb5 hHeld.2.2.1, Bx.keep_cell hb5 hHeld.2.2.2.1, Bx.keep_cell hb5 hHeld.2.2.2.2⟩ (fun hNew => ?_)
  clear hHeld
  have hHeld := hNew
  clear hNew hK K
  replace bel := Bx.then_below bel hb5
  refine wpAnyH_ready (rs := [7]) (by kernel_rfl) (by simp) ?_
  refine AllReadyH.cons (o := ?o7_69) ?hi7_69 ?hst7_69 AllReadyH.nil
  case hi7_69 => (simp only [List.getElem?_toArray, List.getElem?_cons_succ, List.getElem?_cons_zero]; rfl)
  intro K hK
  go_simp
  (go_at_call 24; (with_reducible refine (HR1.out _).mono ?_); rintro e w6 ⟨rfl, hb6⟩)
  go_wp2_with fail
  refine hK.out _ _ ⟨Bx.Blk.keep hHeld.1 hb6, Bx.keep_cell hb6 hHeld.2.1, Bx.keep_cell hb6 hHeld.2.2.1, Bx.keep_cell hb6 hHeld.2.2.2.1, Bx.keep_cell hb6 hHeld.2.2.2.2⟩ (fun hNew => ?_)
  clear hHeld
  have hHeld := hNew
  clear hNew hK K
  replace bel := Bx.then_below bel hb6
  refine wpAnyH_take (i := 8) (oi := ?o8_70) (v := ?v8_70) ?hi8_70 (by kernel_rfl) (by kernel_rfl) (by kernel_rfl) (fun _ _ _ h => h) ?y8_70 (by assumption) ?r8_70
  case hi8_70 => (simp only [List.getElem?_toArray, List.getElem?_cons_succ, List.getElem?_cons_zero]; rfl)
  case y8_70 => (refine Or.inl ⟨by rfl, ?_⟩; intro w' hSw; (try dsimp only at hSw); go_simp; (try with_reducible rfl))
  try simp only [Act.put, List.setIfInBounds_toArray, List.set_cons_zero, List.set_cons_succ]
  refine wpAnyH_ready (rs := [11]) (by kernel_rfl) (by simp) ?_
  refine AllReadyH.cons (o := ?o11_71) ?hi11_71 ?hst11_71 AllReadyH.nil
  case hi11_71 => (simp only [List.getElem?_toArray, List.getElem?_cons_succ, List.getElem?_cons_zero]; rfl)
  intro K hK
  go_simp
  (go_at_call 24; (with_reducible refine (HC1.out _).mono ?_); rintro e w7 ⟨rfl, hb7⟩)
  go_wp2_with fail
  refine hK.out _ _ ⟨Bx.Blk.keep hHeld.1 hb7, Bx.keep_cell hb7 hHeld.2.1, Bx.keep_cell hb7 hHeld.2.2.1, Bx.keep_cell hb7 hHeld.2.2.2.1, Bx.keep_cell hb7 hHeld.2.2.2.2⟩ (fun hNew => ?_)
  clear hHeld
  have hHeld := hNew
  clear hNew hK K
  replace bel := Bx.then_below bel hb7
  refine wpAnyH_take (i := 12) (oi := ?o12_72) (v := ?v12_72) ?hi12_72 (by kernel_rfl) (by kernel_rfl) (by kernel_rfl) (fun _ _ _ h => h) ?y12_72 (by assumption) ?r12_72
  case hi12_72 => (simp only [List.getElem?_toArray, List.getElem?_cons_succ, List.getElem?_cons_zero]; rfl)
  case y12_72 => (refine Or.inl ⟨by rfl, ?_⟩; intro w' hSw; (try dsimp only at hSw); go_simp; (try with_reducible rfl))
  try simp only [Act.put, List.setIfInBounds_toArray, List.set_cons_zero, List.set_cons_succ]
  refine wpAnyH_ready (rs := [15]) (by kernel_rfl) (by simp) ?_
  refine AllReadyH.cons (o := ?o15_73) ?hi15_73 ?hst15_73 AllReadyH.nil
  case hi15_73 => (simp only [List.getElem?_toArray, List.getElem?_cons_succ, List.getElem?_cons_zero]; rfl)
  intro K hK
  go_simp
  (go_at_call 24; (with_reducible refine (HG1.out _).mono ?_); rintro e w8 ⟨rfl, hb8⟩)
  go_wp2_with fail
  refine hK.out _ _ ⟨Bx.Blk.keep hHeld.1 hb8, Bx.keep_cell hb8 hHeld.2.1, Bx.keep_cell hb8 hHeld.2.2.1, Bx.keep_cell hb8 hHeld.2.2.2.1, Bx.keep_cell hb8 hHeld.2.2.2.2⟩ (fun hNew => ?_)
  clear hHeld
  have hHeld := hNew
  clear hNew hK K
  replace bel := Bx.then_below bel hb8
  refine wpAnyH_take (i := 16) (oi := ?o16_74) (v := ?v16_74) ?hi16_74 (by kernel_rfl) (by kernel_rfl) (by kernel_rfl) (fun _ _ _ h => h) ?y16_74 (by assumption) ?r16_74
  case hi16_74 => (simp only [List.getElem?_toArray, List.getElem?_cons_succ, List.getElem?_cons_zero]; rfl)
  case y16_74 => (refine Or.inl ⟨by rfl, ?_⟩; intro w' hSw; (try dsimp only at hSw); go_simp; (try with_reducible rfl))
  try simp only [Act.put, List.setIfInBounds_toArray, List.set_cons_zero, List.set_cons_succ]
  refine wpAnyH_ready (rs := [20]) (by kernel_rfl) (by simp) ?_
  refine AllReadyH.cons (o := ?o20_75) ?hi20_75 ?hst20_75 AllReadyH.nil
  case hi20_75 => (simp only [List.getElem?_toArray, List.getElem?_cons_succ, List.getElem?_cons_zero]; rfl)
  intro K hK
  go_simp
  (go_at_call 24; (with_reducible refine (HP1.out _).mono ?_); rintro e w9 ⟨rfl, hb9⟩)
  go_wp2_with fail
  refine hK.out _ _ ⟨Bx.Blk.keep hHeld.1 hb9, Bx.keep_cell hb9 hHeld.2.1, Bx.keep_cell hb9 hHeld.2.2.1, Bx.keep_cell hb9 hHeld.2.2.2.1, Bx.keep_cell hb9 hHeld.2.2.2.2⟩ (fun hNew => ?_)
  clear hHeld
  have hHeld := hNew
  clear hNew hK K
  replace bel := Bx.then_below bel hb9
  refine wpAnyH_take (i := 21) (oi := ?o21_76) (v := ?v21_76) ?hi21_76 (by kernel_rfl) (by kernel_rfl) (by kernel_rfl) (fun _ _ _ h => h) ?y21_76 (by assumption) ?r21_76
  case hi21_76 => (simp only [List.getElem?_toArray, List.getElem?_cons_succ, List.getElem?_cons_zero]; rfl)
  case y21_76 => (refine Or.inl ⟨by rfl, ?_⟩; intro w' hSw; (try dsimp only at hSw); go_simp; (try with_reducible rfl))
  try simp only [Act.put, List.setIfInBounds_toArray, List.set_cons_zero, List.set_cons_succ]
  refine wpAnyH_take (i := 22) (oi := ?o22_77) (v := ?v22_77) ?hi22_77 (by kernel_rfl) (by kernel_rfl) (by kernel_rfl) (fun _ _ _ h => h) ?y22_77 (by assumption) ?r22_77
  case hi22_77 => (simp only [List.getElem?_toArray, List.getElem?_cons_succ, List.getElem?_cons_zero]; rfl)
  case y22_77 => (refine Or.inl ⟨by rfl, ?_⟩; intro w' hSw; (try dsimp only at hSw); go_simp; (try with_reducible rfl))
  try simp only [Act.put, List.setIfInBounds_toArray, List.set_cons_zero, List.set_cons_succ]
  refine wpAnyH_take (i := 23) (oi := ?o23_78) (v := ?v23_78) ?hi23_78 (by kernel_rfl) (by kernel_rfl) (by kernel_rfl) (fun _ _ _ h => h) ?y23_78 (by assumption) ?r23_78
  case hi23_78 => (simp only [List.getElem?_toArray, List.getElem?_cons_succ, List.getElem?_cons_zero]; rfl)
  case y23_78 => (refine Or.inl ⟨by rfl, ?_⟩; intro w' hSw; (try dsimp only at hSw); go_simp; (try with_reducible rfl))
  try simp only [Act.put, List.setIfInBounds_toArray, List.set_cons_zero, List.set_cons_succ]
  refine wpAnyH_done (by kernel_rfl) ?_ _
  refine NoPanic.normal ?_
  replace B0 := Lib.hid hHeld.1
  clear hHeld B1 c0_0 c0_8 c0_9 c0_10 c0_11 c0_12 c0_13 c0_14 c0_15 c1_0 c1_1 c1_2 c1_3
  have c0_0 := B0.out.at 0 rfl
  have c0_8 := B0.out.at 8 rfl
  have c0_9 := B0.out.at 9 rfl
  have c0_10 := B0.out.at 10 rfl
  have c0_11 := B0.out.at 11 rfl
  have c0_12 := B0.out.at 12 rfl
  have c0_13 := B0.out.at 13 rfl
  have c0_14 := B0.out.at 14 rfl
  have c0_15 := B0.out.at 15 rfl
  have zO : (O4 ++ (F1 ++ R1 ++ C1 ++ G1 ++ P1)).size = 27 := by rw [ByteArray.size_append, ByteArray.size_append, ByteArray.size_append, ByteArray.size_append, ByteArray.size_append, zE, zF, zR, zC, zG, zP]
  generalize O4 ++ (F1 ++ R1 ++ C1 ++ G1 ++ P1) = O at *
  go_wp2_with (first | ((with_reducible refine load_at ?_ ?_ (w.heap.size) ?_ b ?_ ?_); (· rfl); (· rfl); (· rfl); (· exact B0.out)))
  refine wp_loop_rounds 5 ?_
  rw [rounds_succ]
  go_wp2_with (first | ((with_reducible refine load_at ?_ ?_ (w.heap.size) ?_ b ?_ ?_); (· rfl); (· rfl); (· rfl); (· exact B0.out)))
  refine (HA.out _).mono ?_; rintro e w10 ⟨rfl, hb10⟩
  replace bel := Bx.then_below bel hb10
  replace B0 := Lib.hid (B0.out.keep hb10)
  clear hb10
  clear c0_0 c0_8 c0_9 c0_10 c0_11 c0_12 c0_13 c0_14 c0_15
  have c0_0 := B0.out.at 0 rfl
  have c0_8 := B0.out.at 8 rfl
  have c0_9 := B0.out.at 9 rfl
  have c0_10 := B0.out.at 10 rfl
  have c0_11 := B0.out.at 11 rfl
  have c0_12 := B0.out.at 12 rfl
  have c0_13 := B0.out.at 13 rfl
  have c0_14 := B0.out.at 14 rfl
  have c0_15 := B0.out.at 15 rfl
  go_wp2_with (first | ((with_reducible refine load_at ?_ ?_ (w.heap.size) ?_ b ?_ ?_); (· rfl); (· rfl); (· rfl); (· exact B0.out)))
  have z1' : (O ++ (A1 ++ ⟨#[0]⟩)).size = 29 := by rw [ByteArray.size_append, ByteArray.size_append, zO, zA]; rfl
  generalize O ++ (A1 ++ ⟨#[0]⟩) = O5 at *
  rw [rounds_succ]
  go_wp2_with (first | ((with_reducible refine load_at ?_ ?_ (w.heap.size) ?_ b ?_ ?_); (· rfl); (· rfl); (· rfl); (· exact B0.out)))
  refine (HM.out _).mono ?_; rintro e w11 ⟨rfl, hb11⟩
  replace bel := Bx.then_below bel hb11
  replace B0 := Lib.hid (B0.out.keep hb11)
  clear hb11
  clear c0_0 c0_8 c0_9 c0_10 c0_11 c0_12 c0_13 c0_14 c0_15
  have c0_0 := B0.out.at 0 rfl
  have c0_8 := B0.out.at 8 rfl
  have c0_9 := B0.out.at 9 rfl
  have c0_10 := B0.out.at 10 rfl
  have c0_11 := B0.out.at 11 rfl
  have c0_12 := B0.out.at 12 rfl
  have c0_13 := B0.out.at 13 rfl
  have c0_14 := B0.out.at 14 rfl
  have c0_15 := B0.out.at 15 rfl
  go_wp2_with (first | ((with_reducible refine load_at ?_ ?_ (w.heap.size) ?_ b ?_ ?_); (· rfl); (· rfl); (· rfl); (· exact B0.out)))
  have z2' : (O5 ++ (M1 ++ ⟨#[0]⟩)).size = 31 := by rw [ByteArray.size_append, ByteArray.size_append, z1', zM]; rfl
  generalize O5 ++ (M1 ++ ⟨#[0]⟩) = O6 at *
  rw [rounds_succ]
  go_wp2_with (first | ((with_reducible refine load_at ?_ ?_ (w.heap.size) ?_ b ?_ ?_); (· rfl); (· rfl); (· rfl); (· exact B0.out)))
  refine (HH.out _).mono ?_; rintro e w12 ⟨rfl, hb12⟩
  replace bel := Bx.then_below bel hb12
  replace B0 := Lib.hid (B0.out.keep hb12)
  clear hb12
  clear c0_0 c0_8 c0_9 c0_10 c0_11 c0_12 c0_13 c0_14 c0_15
  have c0_0 := B0.out.at 0 rfl
  have c0_8 := B0.out.at 8 rfl
  have c0_9 := B0.out.at 9 rfl
  have c0_10 := B0.out.at 10 rfl
  have c0_11 := B0.out.at 11 rfl
  have c0_12 := B0.out.at 12 rfl
  have c0_13 := B0.out.at 13 rfl
  have c0_14 := B0.out.at 14 rfl
  have c0_15 := B0.out.at 15 rfl
  go_wp2_with (first | ((with_reducible refine load_at ?_ ?_ (w.heap.size) ?_ b ?_ ?_); (· rfl); (· rfl); (· rfl); (· exact B0.out)))
  have z3' : (O6 ++ (H1 ++ ⟨#[0]⟩)).size = 33 := by rw [ByteArray.size_append, ByteArray.size_append, z2', zH]; rfl
  generalize O6 ++ (H1 ++ ⟨#[0]⟩) = O7 at *
  rw [rounds_succ]
  go_wp2_with (first | ((with_reducible refine load_at ?_ ?_ (w.heap.size) ?_ b ?_ ?_); (· rfl); (· rfl); (· rfl); (· exact B0.out)))
  refine (HD.out _).mono ?_; rintro e w13 ⟨rfl, hb13⟩
  replace bel := Bx.then_below bel hb13
  replace B0 := Lib.hid (B0.out.keep hb13)
  clear hb13
  clear c0_0 c0_8 c0_9 c0_10 c0_11 c0_12 c0_13 c0_14 c0_15
  have c0_0 := B0.out.at 0 rfl
  have c0_8 := B0.out.at 8 rfl
  have c0_9 := B0.out.at 9 rfl
  have c0_10 := B0.out.at 10 rfl
  have c0_11 := B0.out.at 11 rfl
  have c0_12 := B0.out.at 12 rfl
  have c0_13 := B0.out.at 13 rfl
  have c0_14 := B0.out.at 14 rfl
  have c0_15 := B0.out.at 15 rfl
  go_wp2_with (first | ((with_reducible refine load_at ?_ ?_ (w.heap.size) ?_ b ?_ ?_); (· rfl); (· rfl); (· rfl); (· exact B0.out)))
  have z4' : (O7 ++ (D1 ++ ⟨#[0]⟩)).size = 35 := by rw [ByteArray.size_append, ByteArray.size_append, z3', zD]; rfl
  generalize O7 ++ (D1 ++ ⟨#[0]⟩) = O8 at *
  rw [rounds_succ]
  go_wp2_with (first | ((with_reducible refine load_at ?_ ?_ (w.heap.size) ?_ b ?_ ?_); (· rfl); (· rfl); (· rfl); (· exact B0.out)))
  go_ret2
  exact ⟨by rw [HY.out]; rfl, bel⟩

theorem rout_front (b : Bp) : ((⟨#[0, 0]⟩ : ByteArray) ++ ofL (putL (if b.k = 2 then 2 else 0) 1) ++ ofL (putL b.k.toNat 1) ++ (ofL (putL (flagN b) 1) ++ ofL (putL b.r 8) ++ ofL (putL b.c 4) ++ ofL (putL b.g 8) ++ ofL (putL b.p.toNat 2)) ++ (ofL (putL b.a.toNat 1) ++ ⟨#[0]⟩) ++ (ofL (putL b.m.toNat 1) ++ ⟨#[0]⟩) ++ (ofL (putL b.h.toNat 1) ++ ⟨#[0]⟩) ++ (ofL (putL b.d.toNat 1) ++ ⟨#[0]⟩)) = ofL (frontL b) := by
  show ofL [0, 0] ++ ofL [_] ++ ofL [_] ++ (ofL [_] ++ ofL (putL b.r 8) ++ ofL (putL b.c 4) ++ ofL (putL b.g 8) ++ ofL (putL b.p.toNat 2)) ++ (ofL [_] ++ ofL [0]) ++ (ofL [_] ++ ofL [0]) ++ (ofL [_] ++ ofL [0]) ++ (ofL [_] ++ ofL [0]) = _
  unfold frontL
  simp only [ofL_append, List.append_assoc, List.cons_append, List.nil_append]

theorem rbytes_any (b : Bp) (w : World) (hr : b.r < 18446744073709551616) (hg : b.g < 18446744073709551616) :
    Calls Try.prog 8 #[bp b] w fun e w' => e = .returned (.tuple #[.string (bTxt b), .int .i64 (bErr b)]) ∧ Below w.heap.size w w' := by
  have HR := fun w => rright_any b w
  cases hR : rightB b
  · unfold bTxt bErr
    rw [hR] at HR ⊢
    exact rbytes_wrong b w (Lib.hid HR)
  rw [hR] at HR
  by_cases h128 : b.k = 128
  · obtain rfl := right_change_eq b hR h128
    exact rbytes_change changeB _ _ w rfl rfl (by decide) (by decide) rfl rfl (Lib.hid HR) (Lib.hid fun w => rput_any 0 (by omega) 1 w) (Lib.hid fun w => rput_any 128 (by omega) 1 w)
  obtain ⟨hk, hro, hc, hp, ha, hm, hh, hd⟩ := right_facts b hR h128
  have hF := flagN_lt b
  have hk' : (b.k == 128) = false := by simpa using h128
  have P : ∀ (x : Int) (n : Nat) (k : Int) (w : World), x = n → n < 18446744073709551616 → Calls Try.prog 24 #[.int .u64 x, .int .i64 k] w fun e w' => e = .returned (.string (ofL (putL n (clampW k)))) ∧ Below w.heap.size w w' := fun x n k w hx hn => by
    subst hx; exact rput_any n hn k w
  have sz : ∀ n k, (ofL (putL n k)).size = k := fun n k => by rw [ofL_size, putL_length]
  have fw := front_wire b h128
  unfold bTxt bErr
  rw [hR]
  simp only [if_true]
  by_cases h2 : b.k = 2
  · have h := rbytes_two b (flagN b) _ _ _ _ _ _ _ _ _ _ _ _ w (Lib.hid rfl) hk' (by simpa using h2) (by omega) (by omega) (by omega) (by omega) (by omega) (by omega) (by omega) (by omega) (by omega) (by omega) (by omega) (by omega) (by omega) (by omega)
      (sz 2 1) (sz b.k.toNat 1) (sz (flagN b) 1) (sz b.r 8) (sz b.c 4) (sz b.g 8) (sz b.p.toNat 2) (sz b.a.toNat 1) (sz b.m.toNat 1) (sz b.h.toNat 1) (sz b.d.toNat 1)
      (Lib.hid HR) (Lib.hid fun w => P 2 2 1 w rfl (by omega)) (Lib.hid fun w => P b.k b.k.toNat 1 w (by omega) (by omega)) (Lib.hid fun w => rflags_any b w) (Lib.hid fun w => P _ (flagN b) 1 w rfl (by omega)) (Lib.hid fun w => P _ b.r 8 w rfl hr) (Lib.hid fun w => P _ b.c 4 w rfl (by omega)) (Lib.hid fun w => P _ b.g 8 w rfl hg) (Lib.hid fun w => P b.p b.p.toNat 2 w (by omega) (by omega)) (Lib.hid fun w => P b.a b.a.toNat 1 w (by omega) (by omega)) (Lib.hid fun w => P b.m b.m.toNat 1 w (by omega) (by omega)) (Lib.hid fun w => P b.h b.h.toNat 1 w (by omega) (by omega)) (Lib.hid fun w => P b.d b.d.toNat 1 w (by omega) (by omega))
    have e := rout_front b
    rw [if_pos h2] at e
    rw [e] at h
    rw [fw, if_pos h2, ← ofL_append]
    exact h
  · have h := rbytes_else b (flagN b) _ _ _ _ _ _ _ _ _ _ _ _ w (Lib.hid rfl) hk' (by simpa using h2) (by omega) (by omega) (by omega) (by omega) (by omega) (by omega) (by omega) (by omega) (by omega) (by omega) (by omega) (by omega) (by omega) (by omega)
      (sz 0 1) (sz b.k.toNat 1) (sz (flagN b) 1) (sz b.r 8) (sz b.c 4) (sz b.g 8) (sz b.p.toNat 2) (sz b.a.toNat 1) (sz b.m.toNat 1) (sz b.h.toNat 1) (sz b.d.toNat 1)
      (Lib.hid HR) (Lib.hid fun w => P 0 0 1 w rfl (by omega)) (Lib.hid fun w => P b.k b.k.toNat 1 w (by omega) (by omega)) (Lib.hid fun w => rflags_any b w) (Lib.hid fun w => P _ (flagN b) 1 w rfl (by omega)) (Lib.hid fun w => P _ b.r 8 w rfl hr) (Lib.hid fun w => P _ b.c 4 w rfl (by omega)) (Lib.hid fun w => P _ b.g 8 w rfl hg) (Lib.hid fun w => P b.p b.p.toNat 2 w (by omega) (by omega)) (Lib.hid fun w => P b.a b.a.toNat 1 w (by omega) (by omega)) (Lib.hid fun w => P b.m b.m.toNat 1 w (by omega) (by omega)) (Lib.hid fun w => P b.h b.h.toNat 1 w (by omega) (by omega)) (Lib.hid fun w => P b.d b.d.toNat 1 w (by omega) (by omega))
    have e := rout_front b
    rw [if_neg h2] at e
    rw [e] at h
    rw [fw, if_neg h2, List.append_nil]
    exact h

end Bpd
end Go.Proofs.Ytiokkahldhmhlaa
