/-
  What anew answers.
-/
import Derived.Test.YtihfganogemgkaaRspB
namespace Go.Proofs.Ytihfganogemgkaa
open Go.RowKit
namespace Rsp
open Pre Crd

set_option maxRecDepth 40000 in
set_option maxHeartbeats 8000000 in
theorem anew_no (c : Cd) (b : Bd) (ha : -9223372036854775808 ≤ b.t.a) (hm : b.t.m ≤ 9223372036854775807) (w : World) (hg : goodI b = 0) : Calls Try.prog 28 #[cdv c, bdv b] w fun e w' => e = .returned (cdv { c with v := b.v, t := oldT b.t, info := 0, agd := false, agr := false, png := false, prd := false, syd := false }) ∧ Below w.heap.size w w' := by
  have F0 := Lib.hid (((Bx.Fre.new w (cdl c) 28).more (bdo b)).more (cdo Cd.zero))
  have B0 := F0
  have B1 := Lib.hid ((Bx.Fre.new_at (W := w.alloc (cdo c)) (k := w.heap.size + 1) (bdl b) 49 (by simp)).more (cdo Cd.zero))
  have R0 := Lib.hid (Bx.Fre.new_at (W := (w.alloc (cdo c)).alloc (bdo b)) (k := w.heap.size + 1 + 1) (cdl Cd.zero) 28 (by simp))
  have bel := Lib.hid (Bx.bel_box (Bx.bel_box (Bx.box_below w (cdo c)) (bdo b)) (cdo Cd.zero))
  clear F0
  have HT := Lib.hid (times_any b)
  have HO := Lib.hid (fun w => older_any b.t ha w)
  have HG := Lib.hid (fun w => good_any b hm w)
  rw [hg] at HG
  clear hg
  obtain ⟨c2, hc2⟩ : ∃ c2 : Cd, c2 = { c with v := b.v, t := oldT b.t, info := 0, agd := false, agr := false, png := false, prd := false, syd := false } := ⟨_, rfl⟩
  have HC := Lib.hid hc2
  rw [← hc2]
  clear hc2
  go_enter Try.func28, Try.ntmps28
  go_wp2
  refine wp_region_noPanic ?_
  refine wp_region_held_drew (S := fun w' => Bx.Blk w' (w.heap.size + 1) (bdl b) ∧ w'.cell? ⟨w.heap.size + 1, 8, none⟩ = some (.int .u64 b.v.r) ∧ w'.cell? ⟨w.heap.size + 1, 9, none⟩ = some (.int .u64 b.v.c) ∧ w'.cell? ⟨w.heap.size + 1, 10, none⟩ = some (.int .u64 b.v.b) ∧ w'.cell? ⟨w.heap.size + 1, 11, none⟩ = some (.int .i64 b.v.p)) (by kernel_rfl) (by exact ⟨B1.out.blk, B1.out.at 8 rfl, B1.out.at 9 rfl, B1.out.at 10 rfl, B1.out.at 11 rfl⟩) (fun hHeld => ?_)
  replace bel := Lib.hid (Bx.bel_drewn bel.out)
  replace B0 := Lib.hid (B0.out.drew)
  replace B1 := Lib.hid (B1.out.drew)
  replace R0 := Lib.hid (R0.out.drew)
  refine wpAnyH_take (i := 0) (oi := ?o0) (v := ?v0) ?hi0 (by kernel_rfl) (by kernel_rfl) (by kernel_rfl) (fun _ _ _ h => h) ?y0 (by assumption) ?r0
  case hi0 => (simp only [List.getElem?_toArray, List.getElem?_cons_zero]; rfl)
  case y0 => (refine Or.inl ⟨by rfl, ?_⟩; intro w' hSw; (try dsimp only at hSw); go_simp; (try with_reducible rfl))
  try simp only [Act.put, List.setIfInBounds_toArray, List.set_cons_zero, List.set_cons_succ]
  refine wpAnyH_take (i := 1) (oi := ?o1) (v := ?v1) ?hi1 (by kernel_rfl) (by kernel_rfl) (by kernel_rfl) (fun _ _ _ h => h) ?y1 (by assumption) ?r1
  case hi1 => (simp only [List.getElem?_toArray, List.getElem?_cons_succ, List.getElem?_cons_zero]; rfl)
  case y1 => (refine Or.inl ⟨by rfl, ?_⟩; intro w' hSw; (try dsimp only at hSw); go_simp; (try with_reducible rfl))
  try simp only [Act.put, List.setIfInBounds_toArray, List.set_cons_zero, List.set_cons_succ]
  refine wpAnyH_take (i := 2) (oi := ?o2) (v := bdv b) ?hi2 (by kernel_rfl) (by kernel_rfl) (by kernel_rfl) (fun _ _ _ h => h) ?y2 (by assumption) ?r2
  case hi2 => (simp only [List.getElem?_toArray, List.getElem?_cons_succ, List.getElem?_cons_zero]; rfl)
  case y2 => (refine bd_yields rfl rfl (w.heap.size + 1) rfl b ?_; intro w' hS; exact hS.1)
  try simp only [Act.put, List.setIfInBounds_toArray, List.set_cons_zero, List.set_cons_succ]
  refine wpAnyH_take (i := 5) (oi := ?o5) (v := ?v5) ?hi5 (by kernel_rfl) (by kernel_rfl) (by kernel_rfl) (fun _ _ _ h => h) ?y5 (by assumption) ?r5
  case hi5 => (simp only [List.getElem?_toArray, List.getElem?_cons_succ, List.getElem?_cons_zero]; rfl)
  case y5 => (refine Or.inl ⟨by rfl, ?_⟩; intro w' hSw; (try dsimp only at hSw); go_simp; (try with_reducible rfl))
  try simp only [Act.put, List.setIfInBounds_toArray, List.set_cons_zero, List.set_cons_succ]
  refine wpAnyH_ready (rs := [3]) (by kernel_rfl) (by simp) ?_
  refine AllReadyH.cons (o := ?o3) ?hi3 ?hst3 AllReadyH.nil
  case hi3 => (simp only [List.getElem?_toArray, List.getElem?_cons_succ, List.getElem?_cons_zero]; rfl)
  intro K hK
  go_simp
  (go_at_call 43; (with_reducible refine (HT.out _).mono ?_); rintro e w1 ⟨rfl, hb1⟩)
  go_wp2_with fail
  refine hK.out _ _ ⟨Bx.Blk.keep hHeld.1 hb1, Bx.keep_cell hb1 hHeld.2.1, Bx.keep_cell hb1 hHeld.2.2.1, Bx.keep_cell hb1 hHeld.2.2.2.1, Bx.keep_cell hb1 hHeld.2.2.2.2⟩ (fun hNew => ?_)
  clear hHeld
  have hHeld := hNew
  clear hNew hK K
  replace bel := Lib.hid (Bx.then_below bel.out hb1)
  replace B0 := Lib.hid (B0.out.keep hb1)
  replace B1 := Lib.hid (B1.out.keep hb1)
  replace R0 := Lib.hid (R0.out.keep hb1)
  clear hb1
  refine wpAnyH_ready (rs := [4]) (by kernel_rfl) (by simp) ?_
  refine AllReadyH.cons (o := ?o4) ?hi4 ?hst4 AllReadyH.nil
  case hi4 => (simp only [List.getElem?_toArray, List.getElem?_cons_succ, List.getElem?_cons_zero]; rfl)
  intro K hK
  go_simp
  (go_at_call 42; (with_reducible refine (HO.out _).mono ?_); rintro e w2 ⟨rfl, hb2⟩)
  go_wp2_with fail
  refine hK.out _ _ ⟨Bx.Blk.keep hHeld.1 hb2, Bx.keep_cell hb2 hHeld.2.1, Bx.keep_cell hb2 hHeld.2.2.1, Bx.keep_cell hb2 hHeld.2.2.2.1, Bx.keep_cell hb2 hHeld.2.2.2.2⟩ (fun hNew => ?_)
  clear hHeld
  have hHeld := hNew
  clear hNew hK K
  replace bel := Lib.hid (Bx.then_below bel.out hb2)
  replace B0 := Lib.hid (B0.out.keep hb2)
  replace B1 := Lib.hid (B1.out.keep hb2)
  replace R0 := Lib.hid (R0.out.keep hb2)
  clear hb2
  refine wpAnyH_ready (rs := [6]) (by kernel_rfl) (by simp) ?_
  refine AllReadyH.cons (o := ?o6) ?hi6 ?hst6 AllReadyH.nil
  case hi6 => (simp only [List.getElem?_toArray, List.getElem?_cons_succ, List.getElem?_cons_zero]; rfl)
  intro K hK
  rw [if_pos (by rfl)]
  refine vec_wp rfl (w.heap.size) 5 rfl b.v rfl (cdl c) (by simp) B0.out ?_
  refine hK.out _ _ ⟨Bx.Blk.apart_at _ _ (by omega) hHeld.1, Bx.cell_apart_at _ _ (by omega) hHeld.2.1, Bx.cell_apart_at _ _ (by omega) hHeld.2.2.1, Bx.cell_apart_at _ _ (by omega) hHeld.2.2.2.1, Bx.cell_apart_at _ _ (by omega) hHeld.2.2.2.2⟩ (fun hNew => ?_)
  clear hHeld
  have hHeld := hNew
  clear hNew hK K
  try simp only [Act.put]
  replace bel := Lib.hid (Bx.bel_put_at (k := w.heap.size) (enc b.v) 5 (by omega) bel.out)
  replace B0 := Lib.hid (Bx.Fre.put_at (enc b.v) 5 B0.out)
  replace B1 := Lib.hid (Bx.Fre.apart_at (k' := w.heap.size) (enc b.v) 5 (by omega) B1.out)
  replace R0 := Lib.hid (Bx.Fre.apart_at (k' := w.heap.size) (enc b.v) 5 (by omega) R0.out)
  refine wpAnyH_take (i := 7) (oi := ?o7) (v := ?v7) ?hi7 (by kernel_rfl) (by kernel_rfl) (by kernel_rfl) (fun _ _ _ h => h) ?y7 (by assumption) ?r7
  case hi7 => (simp only [List.getElem?_toArray, List.getElem?_cons_succ, List.getElem?_cons_zero]; rfl)
  case y7 => (refine Or.inl ⟨by rfl, ?_⟩; intro w' hSw; (try dsimp only at hSw); go_simp; (try with_reducible rfl))
  try simp only [Act.put, List.setIfInBounds_toArray, List.set_cons_zero, List.set_cons_succ]
  refine wpAnyH_ready (rs := [8]) (by kernel_rfl) (by simp) ?_
  refine AllReadyH.cons (o := ?o8) ?hi8 ?hst8 AllReadyH.nil
  case hi8 => (simp only [List.getElem?_toArray, List.getElem?_cons_succ, List.getElem?_cons_zero]; rfl)
  intro K hK
  rw [if_pos (by rfl)]
  refine tm_wp rfl (w.heap.size) 9 rfl ⟨olderA b.t.a, b.t.m, b.t.h, b.t.d⟩ rfl (Bx.setL (cdl c) 5 (enc b.v)) (by simp [Bx.setL, enc]) B0.out ?_
  refine hK.out _ _ ⟨Bx.Blk.apart_at _ _ (by omega) hHeld.1, Bx.cell_apart_at _ _ (by omega) hHeld.2.1, Bx.cell_apart_at _ _ (by omega) hHeld.2.2.1, Bx.cell_apart_at _ _ (by omega) hHeld.2.2.2.1, Bx.cell_apart_at _ _ (by omega) hHeld.2.2.2.2⟩ (fun hNew => ?_)
  clear hHeld
  have hHeld := hNew
  clear hNew hK K
  try simp only [Act.put]
  replace bel := Lib.hid (Bx.bel_put_at (k := w.heap.size) (tenc ⟨olderA b.t.a, b.t.m, b.t.h, b.t.d⟩) 9 (by omega) bel.out)
  replace B0 := Lib.hid (Bx.Fre.put_at (tenc ⟨olderA b.t.a, b.t.m, b.t.h, b.t.d⟩) 9 B0.out)
  replace B1 := Lib.hid (Bx.Fre.apart_at (k' := w.heap.size) (tenc ⟨olderA b.t.a, b.t.m, b.t.h, b.t.d⟩) 9 (by omega) B1.out)
  replace R0 := Lib.hid (Bx.Fre.apart_at (k' := w.heap.size) (tenc ⟨olderA b.t.a, b.t.m, b.t.h, b.t.d⟩) 9 (by omega) R0.out)
  refine wpAnyH_take (i := 9) (oi := ?o9) (v := ?v9) ?hi9 (by kernel_rfl) (by kernel_rfl) (by kernel_rfl) (fun _ _ _ h => h) ?y9 (by assumption) ?r9
  case hi9 => (simp only [List.getElem?_toArray, List.getElem?_cons_succ, List.getElem?_cons_zero]; rfl)
  case y9 => (refine Or.inl ⟨by rfl, ?_⟩; intro w' hSw; (try dsimp only at hSw); go_simp; (try with_reducible rfl))
  try simp only [Act.put, List.setIfInBounds_toArray, List.set_cons_zero, List.set_cons_succ]
  refine wpAnyH_ready (rs := [10]) (by kernel_rfl) (by simp) ?_
  refine AllReadyH.cons (o := ?o10) ?hi10 ?hst10 AllReadyH.nil
  case hi10 => (simp only [List.getElem?_toArray, List.getElem?_cons_succ, List.getElem?_cons_zero]; rfl)
  intro K hK
  have a4 := B0.out.at 4 rfl; have z4 := B0.out.2.2 4; go_simp
  refine hK.out _ _ ⟨(by first | exact Bx.Blk.other hHeld.1 (by omega) | exact Bx.Blk.other_drew hHeld.1 (by omega)), (by first | exact Bx.cell_other (by omega) hHeld.2.1 | exact Bx.cell_other_drew (by omega) hHeld.2.1), (by first | exact Bx.cell_other (by omega) hHeld.2.2.1 | exact Bx.cell_other_drew (by omega) hHeld.2.2.1), (by first | exact Bx.cell_other (by omega) hHeld.2.2.2.1 | exact Bx.cell_other_drew (by omega) hHeld.2.2.2.1), (by first | exact Bx.cell_other (by omega) hHeld.2.2.2.2 | exact Bx.cell_other_drew (by omega) hHeld.2.2.2.2)⟩ (fun hNew => ?_)
  clear hHeld
  have hHeld := hNew
  clear hNew hK K
  replace bel := Lib.hid (Bx.bel_set (k := w.heap.size) (o := 4) (x := .int .i64 2) (by omega) bel.out)
  replace B0 := Lib.hid (B0.out.set 4 (.int .i64 2))
  replace B1 := Lib.hid (B1.out.other (k' := w.heap.size) (o := 4) (x := .int .i64 2) (by omega))
  replace R0 := Lib.hid (R0.out.other (k' := w.heap.size) (o := 4) (x := .int .i64 2) (by omega))
  refine wpAnyH_done (by kernel_rfl) ?_ _
  refine NoPanic.normal ?_
  replace B0 := Lib.hid (B0.out.of (m := cdl { c with v := b.v, t := oldT b.t, info := 2 }) rfl)
  generalize ((w2.setCells w.heap.size 5 (enc b.v)).setCells w.heap.size 9 (tenc ⟨olderA b.t.a, b.t.m, b.t.h, b.t.d⟩)).setCell ⟨w.heap.size, 4, none⟩ (.int .i64 2) = w3 at *
  clear hHeld
  go_wp2_with (first | ((with_reducible refine bd_load ?_ ?_ (w.heap.size + 1) ?_ b ?_ ?_); (· rfl); (· rfl); (· rfl); (· exact B1.out.blk)))
  refine (HG.out _).mono ?_; rintro e w4 ⟨rfl, hb⟩
  replace bel := Lib.hid (Bx.then_below bel.out hb)
  replace B0 := Lib.hid (B0.out.keep hb)
  replace R0 := Lib.hid (R0.out.keep hb)
  clear hb B1
  have a4 := B0.out.at 4 rfl
  have f4 := B0.out.2.2 4
  have a15 := B0.out.at 15 rfl
  have f15 := B0.out.2.2 15
  have a16 := B0.out.at 16 rfl
  have f16 := B0.out.2.2 16
  have a17 := B0.out.at 17 rfl
  have f17 := B0.out.2.2 17
  have a18 := B0.out.at 18 rfl
  have f18 := B0.out.2.2 18
  have a20 := B0.out.at 20 rfl
  have f20 := B0.out.2.2 20
  have X0 := Lib.hid ((((((((B0.out.set 4 (.int .i64 0)).set 15 (.bool false)).set 16 (.bool false)).set 17 (.bool false)).set 18 (.bool false)).set 20 (.bool false))).of (m := cdl c2) (by rw [HC.out]; rfl))
  have Y0 := Lib.hid (((((((R0.out.other (k' := w.heap.size) (o := 4) (x := .int .i64 0) (by omega)).other (k' := w.heap.size) (o := 15) (x := .bool false) (by omega)).other (k' := w.heap.size) (o := 16) (x := .bool false) (by omega)).other (k' := w.heap.size) (o := 17) (x := .bool false) (by omega)).other (k' := w.heap.size) (o := 18) (x := .bool false) (by omega)).other (k' := w.heap.size) (o := 20) (x := .bool false) (by omega)))
  have bel2 := Lib.hid ((Bx.bel_set (k := w.heap.size) (o := 20) (x := .bool false) (Nat.le_refl _) (Bx.bel_set (k := w.heap.size) (o := 18) (x := .bool false) (Nat.le_refl _) (Bx.bel_set (k := w.heap.size) (o := 17) (x := .bool false) (Nat.le_refl _) (Bx.bel_set (k := w.heap.size) (o := 16) (x := .bool false) (Nat.le_refl _) (Bx.bel_set (k := w.heap.size) (o := 15) (x := .bool false) (Nat.le_refl _) (Bx.bel_set (k := w.heap.size) (o := 4) (x := .int .i64 0) (Nat.le_refl _) bel.out)))))))
  go_wp2_with (first | ((with_reducible refine cd_load ?_ ?_ (w.heap.size) ?_ c2 ?_ ?_); (· rfl); (· rfl); (· rfl); (· exact X0.out.blk)) | ((with_reducible refine cd_store ?_ ?_ (w.heap.size + 1 + 1) c2 ?_ ?_ (cdl Cd.zero) ?_ ?_ ?_); (· rfl); (· rfl); (· rfl); (· rfl); (· rfl); (· exact Y0.out.own)))
  exact bodyPost_ret (v := cdv c2) (cd_result Try.results28 rfl (Y0.out.full (m := cdl c2) rfl).blk) rfl ⟨rfl, Bx.bel_put_at (cdl c2) 0 (by omega) bel2.out⟩

set_option maxRecDepth 40000 in
set_option maxHeartbeats 8000000 in
theorem anew_yes (c : Cd) (b : Bd) (ha : -9223372036854775808 ≤ b.t.a) (hm : b.t.m ≤ 9223372036854775807) (w : World) (hg : ¬ goodI b = 0) : Calls Try.prog 28 #[cdv c, bdv b] w fun e w' => e = .returned (cdv { c with v := b.v, t := oldT b.t, info := 2, agd := false, agr := false, png := false, prd := false, syd := false }) ∧ Below w.heap.size w w' := by
  have F0 := Lib.hid (((Bx.Fre.new w (cdl c) 28).more (bdo b)).more (cdo Cd.zero))
  have B0 := F0
  have B1 := Lib.hid ((Bx.Fre.new_at (W := w.alloc (cdo c)) (k := w.heap.size + 1) (bdl b) 49 (by simp)).more (cdo Cd.zero))
  have R0 := Lib.hid (Bx.Fre.new_at (W := (w.alloc (cdo c)).alloc (bdo b)) (k := w.heap.size + 1 + 1) (cdl Cd.zero) 28 (by simp))
  have bel := Lib.hid (Bx.bel_box (Bx.bel_box (Bx.box_below w (cdo c)) (bdo b)) (cdo Cd.zero))
  clear F0
  have HT := Lib.hid (times_any b)
  have HO := Lib.hid (fun w => older_any b.t ha w)
  have HG := Lib.hid (fun w => good_any b hm w)
  generalize goodI b = g at *
  have hg' : (g == 0) = false := by simpa using hg
  clear hg
  obtain ⟨c2, hc2⟩ : ∃ c2 : Cd, c2 = { c with v := b.v, t := oldT b.t, info := 2, agd := false, agr := false, png := false, prd := false, syd := false } := ⟨_, rfl⟩
  have HC := Lib.hid hc2
  rw [← hc2]
  clear hc2
  go_enter Try.func28, Try.ntmps28
  go_wp2
  refine wp_region_noPanic ?_
  refine wp_region_held_drew (S := fun w' => Bx.Blk w' (w.heap.size + 1) (bdl b) ∧ w'.cell? ⟨w.heap.size + 1, 8, none⟩ = some (.int .u64 b.v.r) ∧ w'.cell? ⟨w.heap.size + 1, 9, none⟩ = some (.int .u64 b.v.c) ∧ w'.cell? ⟨w.heap.size + 1, 10, none⟩ = some (.int .u64 b.v.b) ∧ w'.cell? ⟨w.heap.size + 1, 11, none⟩ = some (.int .i64 b.v.p)) (by kernel_rfl) (by exact ⟨B1.out.blk, B1.out.at 8 rfl, B1.out.at 9 rfl, B1.out.at 10 rfl, B1.out.at 11 rfl⟩) (fun hHeld => ?_)
  replace bel := Lib.hid (Bx.bel_drewn bel.out)
  replace B0 := Lib.hid (B0.out.drew)
  replace B1 := Lib.hid (B1.out.drew)
  replace R0 := Lib.hid (R0.out.drew)
  refine wpAnyH_take (i := 0) (oi := ?o0) (v := ?v0) ?hi0 (by kernel_rfl) (by kernel_rfl) (by kernel_rfl) (fun _ _ _ h => h) ?y0 (by assumption) ?r0
  case hi0 => (simp only [List.getElem?_toArray, List.getElem?_cons_zero]; rfl)
  case y0 => (refine Or.inl ⟨by rfl, ?_⟩; intro w' hSw; (try dsimp only at hSw); go_simp; (try with_reducible rfl))
  try simp only [Act.put, List.setIfInBounds_toArray, List.set_cons_zero, List.set_cons_succ]
  refine wpAnyH_take (i := 1) (oi := ?o1) (v := ?v1) ?hi1 (by kernel_rfl) (by kernel_rfl) (by kernel_rfl) (fun _ _ _ h => h) ?y1 (by assumption) ?r1
  case hi1 => (simp only [List.getElem?_toArray, List.getElem?_cons_succ, List.getElem?_cons_zero]; rfl)
  case y1 => (refine Or.inl ⟨by rfl, ?_⟩; intro w' hSw; (try dsimp only at hSw); go_simp; (try with_reducible rfl))
  try simp only [Act.put, List.setIfInBounds_toArray, List.set_cons_zero, List.set_cons_succ]
  refine wpAnyH_take (i := 2) (oi := ?o2) (v := bdv b) ?hi2 (by kernel_rfl) (by kernel_rfl) (by kernel_rfl) (fun _ _ _ h => h) ?y2 (by assumption) ?r2
  case hi2 => (simp only [List.getElem?_toArray, List.getElem?_cons_succ, List.getElem?_cons_zero]; rfl)
  case y2 => (refine bd_yields rfl rfl (w.heap.size + 1) rfl b ?_; intro w' hS; exact hS.1)
  try simp only [Act.put, List.setIfInBounds_toArray, List.set_cons_zero, List.set_cons_succ]
  refine wpAnyH_take (i := 5) (oi := ?o5) (v := ?v5) ?hi5 (by kernel_rfl) (by kernel_rfl) (by kernel_rfl) (fun _ _ _ h => h) ?y5 (by assumption) ?r5
  case hi5 => (simp only [List.getElem?_toArray, List.getElem?_cons_succ, List.getElem?_cons_zero]; rfl)
  case y5 => (refine Or.inl ⟨by rfl, ?_⟩; intro w' hSw; (try dsimp only at hSw); go_simp; (try with_reducible rfl))
  try simp only [Act.put, List.setIfInBounds_toArray, List.set_cons_zero, List.set_cons_succ]
  refine wpAnyH_ready (rs := [3]) (by kernel_rfl) (by simp) ?_
  refine AllReadyH.cons (o := ?o3) ?hi3 ?hst3 AllReadyH.nil
  case hi3 => (simp only [List.getElem?_toArray, List.getElem?_cons_succ, List.getElem?_cons_zero]; rfl)
  intro K hK
  go_simp
  (go_at_call 43; (with_reducible refine (HT.out _).mono ?_); rintro e w1 ⟨rfl, hb1⟩)
  go_wp2_with fail
  refine hK.out _ _ ⟨Bx.Blk.keep hHeld.1 hb1, Bx.keep_cell hb1 hHeld.2.1, Bx.keep_cell hb1 hHeld.2.2.1, Bx.keep_cell hb1 hHeld.2.2.2.1, Bx.keep_cell hb1 hHeld.2.2.2.2⟩ (fun hNew => ?_)
  clear hHeld
  have hHeld := hNew
  clear hNew hK K
  replace bel := Lib.hid (Bx.then_below bel.out hb1)
  replace B0 := Lib.hid (B0.out.keep hb1)
  replace B1 := Lib.hid (B1.out.keep hb1)
  replace R0 := Lib.hid (R0.out.keep hb1)
  clear hb1
  refine wpAnyH_ready (rs := [4]) (by kernel_rfl) (by simp) ?_
  refine AllReadyH.cons (o := ?o4) ?hi4 ?hst4 AllReadyH.nil
  case hi4 => (simp only [List.getElem?_toArray, List.getElem?_cons_succ, List.getElem?_cons_zero]; rfl)
  intro K hK
  go_simp
  (go_at_call 42; (with_reducible refine (HO.out _).mono ?_); rintro e w2 ⟨rfl, hb2⟩)
  go_wp2_with fail
  refine hK.out _ _ ⟨Bx.Blk.keep hHeld.1 hb2, Bx.keep_cell hb2 hHeld.2.1, Bx.keep_cell hb2 hHeld.2.2.1, Bx.keep_cell hb2 hHeld.2.2.2.1, Bx.keep_cell hb2 hHeld.2.2.2.2⟩ (fun hNew => ?_)
  clear hHeld
  have hHeld := hNew
  clear hNew hK K
  replace bel := Lib.hid (Bx.then_below bel.out hb2)
  replace B0 := Lib.hid (B0.out.keep hb2)
  replace B1 := Lib.hid (B1.out.keep hb2)
  replace R0 := Lib.hid (R0.out.keep hb2)
  clear hb2
  refine wpAnyH_ready (rs := [6]) (by kernel_rfl) (by simp) ?_
  refine AllReadyH.cons (o := ?o6) ?hi6 ?hst6 AllReadyH.nil
  case hi6 => (simp only [List.getElem?_toArray, List.getElem?_cons_succ, List.getElem?_cons_zero]; rfl)
  intro K hK
  rw [if_pos (by rfl)]
  refine vec_wp rfl (w.heap.size) 5 rfl b.v rfl (cdl c) (by simp) B0.out ?_
  refine hK.out _ _ ⟨Bx.Blk.apart_at _ _ (by omega) hHeld.1, Bx.cell_apart_at _ _ (by omega) hHeld.2.1, Bx.cell_apart_at _ _ (by omega) hHeld.2.2.1, Bx.cell_apart_at _ _ (by omega) hHeld.2.2.2.1, Bx.cell_apart_at _ _ (by omega) hHeld.2.2.2.2⟩ (fun hNew => ?_)
  clear hHeld
  have hHeld := hNew
  clear hNew hK K
  try simp only [Act.put]
  replace bel := Lib.hid (Bx.bel_put_at (k := w.heap.size) (enc b.v) 5 (by omega) bel.out)
  replace B0 := Lib.hid (Bx.Fre.put_at (enc b.v) 5 B0.out)
  replace B1 := Lib.hid (Bx.Fre.apart_at (k' := w.heap.size) (enc b.v) 5 (by omega) B1.out)
  replace R0 := Lib.hid (Bx.Fre.apart_at (k' := w.heap.size) (enc b.v) 5 (by omega) R0.out)
  refine wpAnyH_take (i := 7) (oi := ?o7) (v := ?v7) ?hi7 (by kernel_rfl) (by kernel_rfl) (by kernel_rfl) (fun _ _ _ h => h) ?y7 (by assumption) ?r7
  case hi7 => (simp only [List.getElem?_toArray, List.getElem?_cons_succ, List.getElem?_cons_zero]; rfl)
  case y7 => (refine Or.inl ⟨by rfl, ?_⟩; intro w' hSw; (try dsimp only at hSw); go_simp; (try with_reducible rfl))
  try simp only [Act.put, List.setIfInBounds_toArray, List.set_cons_zero, List.set_cons_succ]
  refine wpAnyH_ready (rs := [8]) (by kernel_rfl) (by simp) ?_
  refine AllReadyH.cons (o := ?o8) ?hi8 ?hst8 AllReadyH.nil
  case hi8 => (simp only [List.getElem?_toArray, List.getElem?_cons_succ, List.getElem?_cons_zero]; rfl)
  intro K hK
  rw [if_pos (by rfl)]
  refine tm_wp rfl (w.heap.size) 9 rfl ⟨olderA b.t.a, b.t.m, b.t.h, b.t.d⟩ rfl (Bx.setL (cdl c) 5 (enc b.v)) (by simp [Bx.setL, enc]) B0.out ?_
  refine hK.out _ _ ⟨Bx.Blk.apart_at _ _ (by omega) hHeld.1, Bx.cell_apart_at _ _ (by omega) hHeld.2.1, Bx.cell_apart_at _ _ (by omega) hHeld.2.2.1, Bx.cell_apart_at _ _ (by omega) hHeld.2.2.2.1, Bx.cell_apart_at _ _ (by omega) hHeld.2.2.2.2⟩ (fun hNew => ?_)
  clear hHeld
  have hHeld := hNew
  clear hNew hK K
  try simp only [Act.put]
  replace bel := Lib.hid (Bx.bel_put_at (k := w.heap.size) (tenc ⟨olderA b.t.a, b.t.m, b.t.h, b.t.d⟩) 9 (by omega) bel.out)
  replace B0 := Lib.hid (Bx.Fre.put_at (tenc ⟨olderA b.t.a, b.t.m, b.t.h, b.t.d⟩) 9 B0.out)
  replace B1 := Lib.hid (Bx.Fre.apart_at (k' := w.heap.size) (tenc ⟨olderA b.t.a, b.t.m, b.t.h, b.t.d⟩) 9 (by omega) B1.out)
  replace R0 := Lib.hid (Bx.Fre.apart_at (k' := w.heap.size) (tenc ⟨olderA b.t.a, b.t.m, b.t.h, b.t.d⟩) 9 (by omega) R0.out)
  refine wpAnyH_take (i := 9) (oi := ?o9) (v := ?v9) ?hi9 (by kernel_rfl) (by kernel_rfl) (by kernel_rfl) (fun _ _ _ h => h) ?y9 (by assumption) ?r9
  case hi9 => (simp only [List.getElem?_toArray, List.getElem?_cons_succ, List.getElem?_cons_zero]; rfl)
  case y9 => (refine Or.inl ⟨by rfl, ?_⟩; intro w' hSw; (try dsimp only at hSw); go_simp; (try with_reducible rfl))
  try simp only [Act.put, List.setIfInBounds_toArray, List.set_cons_zero, List.set_cons_succ]
  refine wpAnyH_ready (rs := [10]) (by kernel_rfl) (by simp) ?_
  refine AllReadyH.cons (o := ?o10) ?hi10 ?hst10 AllReadyH.nil
  case hi10 => (simp only [List.getElem?_toArray, List.getElem?_cons_succ, List.getElem?_cons_zero]; rfl)
  intro K hK
  have a4 := B0.out.at 4 rfl; have z4 := B0.out.2.2 4; go_simp
  refine hK.out _ _ ⟨(by first | exact Bx.Blk.other hHeld.1 (by omega) | exact Bx.Blk.other_drew hHeld.1 (by omega)), (by first | exact Bx.cell_other (by omega) hHeld.2.1 | exact Bx.cell_other_drew (by omega) hHeld.2.1), (by first | exact Bx.cell_other (by omega) hHeld.2.2.1 | exact Bx.cell_other_drew (by omega) hHeld.2.2.1), (by first | exact Bx.cell_other (by omega) hHeld.2.2.2.1 | exact Bx.cell_other_drew (by omega) hHeld.2.2.2.1), (by first | exact Bx.cell_other (by omega) hHeld.2.2.2.2 | exact Bx.cell_other_drew (by omega) hHeld.2.2.2.2)⟩ (fun hNew => ?_)
  clear hHeld
  have hHeld := hNew
  clear hNew hK K
  replace bel := Lib.hid (Bx.bel_set (k := w.heap.size) (o := 4) (x := .int .i64 2) (by omega) bel.out)
  replace B0 := Lib.hid (B0.out.set 4 (.int .i64 2))
  replace B1 := Lib.hid (B1.out.other (k' := w.heap.size) (o := 4) (x := .int .i64 2) (by omega))
  replace R0 := Lib.hid (R0.out.other (k' := w.heap.size) (o := 4) (x := .int .i64 2) (by omega))
  refine wpAnyH_done (by kernel_rfl) ?_ _
  refine NoPanic.normal ?_
  replace B0 := Lib.hid (B0.out.of (m := cdl { c with v := b.v, t := oldT b.t, info := 2 }) rfl)
  generalize ((w2.setCells w.heap.size 5 (enc b.v)).setCells w.heap.size 9 (tenc ⟨olderA b.t.a, b.t.m, b.t.h, b.t.d⟩)).setCell ⟨w.heap.size, 4, none⟩ (.int .i64 2) = w3 at *
  clear hHeld
  go_wp2_with (first | ((with_reducible refine bd_load ?_ ?_ (w.heap.size + 1) ?_ b ?_ ?_); (· rfl); (· rfl); (· rfl); (· exact B1.out.blk)))
  refine (HG.out _).mono ?_; rintro e w4 ⟨rfl, hb⟩
  replace bel := Lib.hid (Bx.then_below bel.out hb)
  replace B0 := Lib.hid (B0.out.keep hb)
  replace R0 := Lib.hid (R0.out.keep hb)
  clear hb B1
  have a4 := B0.out.at 4 rfl
  have f4 := B0.out.2.2 4
  have a15 := B0.out.at 15 rfl
  have f15 := B0.out.2.2 15
  have a16 := B0.out.at 16 rfl
  have f16 := B0.out.2.2 16
  have a17 := B0.out.at 17 rfl
  have f17 := B0.out.2.2 17
  have a18 := B0.out.at 18 rfl
  have f18 := B0.out.2.2 18
  have a20 := B0.out.at 20 rfl
  have f20 := B0.out.2.2 20
  have X0 := Lib.hid (((((((B0.out.set 15 (.bool false)).set 16 (.bool false)).set 17 (.bool false)).set 18 (.bool false)).set 20 (.bool false))).of (m := cdl c2) (by rw [HC.out]; rfl))
  have Y0 := Lib.hid ((((((R0.out.other (k' := w.heap.size) (o := 15) (x := .bool false) (by omega)).other (k' := w.heap.size) (o := 16) (x := .bool false) (by omega)).other (k' := w.heap.size) (o := 17) (x := .bool false) (by omega)).other (k' := w.heap.size) (o := 18) (x := .bool false) (by omega)).other (k' := w.heap.size) (o := 20) (x := .bool false) (by omega)))
  have bel2 := Lib.hid ((Bx.bel_set (k := w.heap.size) (o := 20) (x := .bool false) (Nat.le_refl _) (Bx.bel_set (k := w.heap.size) (o := 18) (x := .bool false) (Nat.le_refl _) (Bx.bel_set (k := w.heap.size) (o := 17) (x := .bool false) (Nat.le_refl _) (Bx.bel_set (k := w.heap.size) (o := 16) (x := .bool false) (Nat.le_refl _) (Bx.bel_set (k := w.heap.size) (o := 15) (x := .bool false) (Nat.le_refl _) bel.out))))))
  go_wp2_with (first | ((with_reducible refine cd_load ?_ ?_ (w.heap.size) ?_ c2 ?_ ?_); (· rfl); (· rfl); (· rfl); (· exact X0.out.blk)) | ((with_reducible refine cd_store ?_ ?_ (w.heap.size + 1 + 1) c2 ?_ ?_ (cdl Cd.zero) ?_ ?_ ?_); (· rfl); (· rfl); (· rfl); (· rfl); (· rfl); (· exact Y0.out.own)))
  exact bodyPost_ret (v := cdv c2) (cd_result Try.results28 rfl (Y0.out.full (m := cdl c2) rfl).blk) rfl ⟨rfl, Bx.bel_put_at (cdl c2) 0 (by omega) bel2.out⟩

theorem anew_any (c : Cd) (b : Bd) (ha : -9223372036854775808 ≤ b.t.a) (hm : b.t.m ≤ 9223372036854775807) (w : World) : Calls Try.prog 28 #[cdv c, bdv b] w fun e w' => e = .returned (cdv (anewC c b)) ∧ Below w.heap.size w w' := by
  unfold anewC
  by_cases hg : goodI b = 0
  · rw [if_pos hg]
    exact anew_no c b ha hm w hg
  · rw [if_neg hg]
    exact anew_yes c b ha hm w hg

end Rsp
end Go.Proofs.Ytihfganogemgkaa
