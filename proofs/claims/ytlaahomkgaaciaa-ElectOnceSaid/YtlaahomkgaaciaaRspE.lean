/-
  What Message and Protocol answer.
-/
import Derived.Test.YtlaahomkgaaciaaRspD
namespace Go.Proofs.Ytlaahomkgaaciaa
open Go.RowKit
namespace Rsp
open Pre Crd

set_option maxRecDepth 40000 in
set_option maxHeartbeats 8000000 in
theorem msg_old (c : Cd) (hr : c.rap = false) (w : World) : Calls Try.prog 31 #[cdv c] w fun e w' => e = .returned (bdv ⟨0, decide (0 < c.chg), false, 0, false, false, false, c.ack, c.v, c.t⟩) ∧ Below w.heap.size w w' := by
  obtain ⟨b9, hb9⟩ : ∃ b9 : Bd, b9 = ⟨0, decide (0 < c.chg), false, 0, false, false, false, c.ack, c.v, c.t⟩ := ⟨_, rfl⟩
  have H9 := Lib.hid hb9
  rw [← hb9]
  clear hb9
  have B0 := Lib.hid ((Bx.Fre.new w (cdl c) 28).more (bdo Bd.zero))
  have R0 := Lib.hid (Bx.Fre.new_at (W := w.alloc (cdo c)) (k := w.heap.size + 1) (bdl Bd.zero) 54 (by simp))
  have bel := Lib.hid (Bx.bel_box (Bx.box_below w (cdo c)) (bdo Bd.zero))
  have M0 := Lib.hid (Bx.Fre.new_at (W := (w.alloc (cdo c)).alloc (bdo Bd.zero)) (k := w.heap.size + 1 + 1) (bdl ⟨0, decide (0 < c.chg), false, 0, false, false, false, false, c.v, c.t⟩) 54 (by simp))
  have B2 := Lib.hid (B0.out.more (bdo ⟨0, decide (0 < c.chg), false, 0, false, false, false, false, c.v, c.t⟩))
  have R2 := Lib.hid (R0.out.more (bdo ⟨0, decide (0 < c.chg), false, 0, false, false, false, false, c.v, c.t⟩))
  have bel2 := Lib.hid (Bx.bel_box bel.out (bdo ⟨0, decide (0 < c.chg), false, 0, false, false, false, false, c.v, c.t⟩))
  have a27 := B0.out.at 27 rfl
  have a5 := B0.out.at 5 rfl
  have a6 := B0.out.at 6 rfl
  have a7 := B0.out.at 7 rfl
  have a8 := B0.out.at 8 rfl
  have a9 := B0.out.at 9 rfl
  have a10 := B0.out.at 10 rfl
  have a11 := B0.out.at 11 rfl
  have a12 := B0.out.at 12 rfl
  have r21 := B2.out.at 21 rfl
  rw [hr] at r21
  clear hr
  go_enter Try.func31, Try.ntmps31
  go_wp2_with (first | ((with_reducible refine bd_fresh ?_ ?_ (w.heap.size + 1 + 1) ⟨0, decide (0 < c.chg), false, 0, false, false, false, false, c.v, c.t⟩ ?_ ?_ ((w.alloc (cdo c)).alloc (bdo Bd.zero)) (bdl Bd.zero) ?_ ?_ ?_ ?_); (· rfl); (· rfl); (· rfl); (· rfl); (· rfl); (· rfl); (· first | rfl | (simp; done))))
  generalize ((w.alloc (cdo c)).alloc (bdo Bd.zero)).alloc (bdo ⟨0, decide (0 < c.chg), false, 0, false, false, false, false, c.v, c.t⟩) = w2 at *
  clear r21 B0 R0 bel a27 a5 a6 a7 a8 a9 a10 a11 a12
  have z0 := M0.out.at 0 rfl
  have f0 := M0.out.2.2 0
  have z7 := M0.out.at 7 rfl
  have f7 := M0.out.2.2 7
  refine wp_region_noPanic ?_
  refine wp_region_held_drew (S := fun w' => w'.cell? ⟨w.heap.size, 23, none⟩ = some (.bool c.ack)) (by kernel_rfl) (by exact B2.out.at 23 rfl) (fun hHeld => ?_)
  refine wpAnyH_take (i := 0) (oi := ?o0) (v := ?v0) ?hi0 (by kernel_rfl) (by kernel_rfl) (by kernel_rfl) (fun _ _ _ h => h) ?y0 (by assumption) ?r0
  case hi0 => (simp only [List.getElem?_toArray, List.getElem?_cons_zero]; rfl)
  case y0 => (refine Or.inl ⟨by rfl, ?_⟩; intro w' hSw; (try dsimp only at hSw); go_simp; (try with_reducible rfl))
  try simp only [Act.put, List.setIfInBounds_toArray, List.set_cons_zero, List.set_cons_succ]
  refine wpAnyH_take (i := 1) (oi := ?o1) (v := ?v1) ?hi1 (by kernel_rfl) (by kernel_rfl) (by kernel_rfl) (fun _ _ _ h => h) ?y1 (by assumption) ?r1
  case hi1 => (simp only [List.getElem?_toArray, List.getElem?_cons_succ, List.getElem?_cons_zero]; rfl)
  case y1 => (refine Or.inl ⟨by rfl, ?_⟩; intro w' hSw; (try dsimp only at hSw); go_simp; (try with_reducible rfl))
  try simp only [Act.put, List.setIfInBounds_toArray, List.set_cons_zero, List.set_cons_succ]
  refine wpAnyH_take (i := 2) (oi := ?o2) (v := ?v2) ?hi2 (by kernel_rfl) (by kernel_rfl) (by kernel_rfl) (fun _ _ _ h => h) ?y2 (by assumption) ?r2
  case hi2 => (simp only [List.getElem?_toArray, List.getElem?_cons_succ, List.getElem?_cons_zero]; rfl)
  case y2 => (refine Or.inl ⟨by rfl, ?_⟩; intro w' hSw; (try dsimp only at hSw); go_simp; (try with_reducible rfl))
  try simp only [Act.put, List.setIfInBounds_toArray, List.set_cons_zero, List.set_cons_succ]
  refine wpAnyH_ready (rs := [3]) (by kernel_rfl) (by simp) ?_
  refine AllReadyH.cons (o := ?o3) ?hi3 ?hst3 AllReadyH.nil
  case hi3 => (simp only [List.getElem?_toArray, List.getElem?_cons_succ, List.getElem?_cons_zero]; rfl)
  intro K hK
  go_simp
  refine hK.out _ _ (by exact (by first | exact Bx.cell_other (by omega) hHeld | exact Bx.cell_other_drew (by omega) hHeld)) (fun hNew => ?_)
  clear hHeld
  have hHeld := hNew
  clear hNew hK K
  replace bel2 := Lib.hid (Bx.bel_set (k := w.heap.size + 1 + 1) (o := 0) (x := .int .i64 0) (by omega) bel2.out)
  replace M0 := Lib.hid (M0.out.set 0 (.int .i64 0))
  replace B2 := Lib.hid (B2.out.other (k' := w.heap.size + 1 + 1) (o := 0) (x := .int .i64 0) (by omega))
  replace R2 := Lib.hid (R2.out.other (k' := w.heap.size + 1 + 1) (o := 0) (x := .int .i64 0) (by omega))
  refine wpAnyH_take (i := 4) (oi := ?o4) (v := ?v4) ?hi4 (by kernel_rfl) (by kernel_rfl) (by kernel_rfl) (fun _ _ _ h => h) ?y4 (by assumption) ?r4
  case hi4 => (simp only [List.getElem?_toArray, List.getElem?_cons_succ, List.getElem?_cons_zero]; rfl)
  case y4 => (refine Or.inl ⟨by rfl, ?_⟩; intro w' hSw; (try dsimp only at hSw); go_simp; (try with_reducible rfl))
  try simp only [Act.put, List.setIfInBounds_toArray, List.set_cons_zero, List.set_cons_succ]
  refine wpAnyH_ready (rs := [5]) (by kernel_rfl) (by simp) ?_
  refine AllReadyH.cons (o := ?o5) ?hi5 ?hst5 AllReadyH.nil
  case hi5 => (simp only [List.getElem?_toArray, List.getElem?_cons_succ, List.getElem?_cons_zero]; rfl)
  intro K hK
  go_simp
  refine hK.out _ _ (by exact (by first | exact Bx.cell_other (by omega) hHeld | exact Bx.cell_other_drew (by omega) hHeld)) (fun hNew => ?_)
  clear hHeld
  have hHeld := hNew
  clear hNew hK K
  replace bel2 := Lib.hid (Bx.bel_set (k := w.heap.size + 1 + 1) (o := 7) (x := .bool c.ack) (by omega) bel2.out)
  replace M0 := Lib.hid (M0.out.set 7 (.bool c.ack))
  replace B2 := Lib.hid (B2.out.other (k' := w.heap.size + 1 + 1) (o := 7) (x := .bool c.ack) (by omega))
  replace R2 := Lib.hid (R2.out.other (k' := w.heap.size + 1 + 1) (o := 7) (x := .bool c.ack) (by omega))
  replace bel2 := Lib.hid (Bx.bel_drewn bel2.out)
  replace M0 := Lib.hid (M0.out.drew)
  replace B2 := Lib.hid (B2.out.drew)
  replace R2 := Lib.hid (R2.out.drew)
  refine wpAnyH_done (by kernel_rfl) ?_ _
  refine NoPanic.normal ?_
  clear z0 f0 z7 f7
  replace M0 := Lib.hid (M0.out.of (m := bdl ⟨0, decide (0 < c.chg), false, 0, false, false, false, c.ack, c.v, c.t⟩) rfl)
  generalize ((w2.setCell ⟨w.heap.size + 1 + 1, 0, none⟩ (.int .i64 0)).setCell ⟨w.heap.size + 1 + 1, 7, none⟩ (.bool c.ack)).drew = w3 at *
  clear hHeld
  replace M0 := Lib.hid (M0.out.of (m := bdl b9) (by rw [H9.out]))
  go_wp2_with (first | ((with_reducible refine bd_load ?_ ?_ (w.heap.size + 1 + 1) ?_ b9 ?_ ?_); (· rfl); (· rfl); (· rfl); (· exact M0.out.blk)) | ((with_reducible refine bd_store ?_ ?_ (w.heap.size + 1) b9 ?_ ?_ (bdl Bd.zero) ?_ ?_ ?_); (· rfl); (· rfl); (· rfl); (· rfl); (· rfl); (· exact R2.out.own)))
  exact bodyPost_ret (v := bdv b9) (bd_result Try.results31 rfl (R2.out.full (m := bdl b9) rfl).blk) rfl ⟨rfl, Bx.bel_put_at (k := w.heap.size + 1) (bdl b9) 0 (by omega) bel2.out⟩

set_option maxRecDepth 40000 in
set_option maxHeartbeats 8000000 in
theorem msg_plain (c : Cd) (hr : c.rap = true) (hp : c.png = false) (w : World) : Calls Try.prog 31 #[cdv c] w fun e w' => e = .returned (bdv ⟨2, decide (0 < c.chg), false, c.role, decide (1 ≤ c.st), (c.st == 2), c.agr, false, c.v, c.t⟩) ∧ Below w.heap.size w w' := by
  obtain ⟨b9, hb9⟩ : ∃ b9 : Bd, b9 = ⟨2, decide (0 < c.chg), false, c.role, decide (1 ≤ c.st), (c.st == 2), c.agr, false, c.v, c.t⟩ := ⟨_, rfl⟩
  have H9 := Lib.hid hb9
  rw [← hb9]
  clear hb9
  have hp' := Lib.hid hp
  clear hp
  have B0 := Lib.hid ((Bx.Fre.new w (cdl c) 28).more (bdo Bd.zero))
  have R0 := Lib.hid (Bx.Fre.new_at (W := w.alloc (cdo c)) (k := w.heap.size + 1) (bdl Bd.zero) 54 (by simp))
  have bel := Lib.hid (Bx.bel_box (Bx.box_below w (cdo c)) (bdo Bd.zero))
  have M0 := Lib.hid (Bx.Fre.new_at (W := (w.alloc (cdo c)).alloc (bdo Bd.zero)) (k := w.heap.size + 1 + 1) (bdl ⟨0, decide (0 < c.chg), false, 0, false, false, false, false, c.v, c.t⟩) 54 (by simp))
  have B2 := Lib.hid (B0.out.more (bdo ⟨0, decide (0 < c.chg), false, 0, false, false, false, false, c.v, c.t⟩))
  have R2 := Lib.hid (R0.out.more (bdo ⟨0, decide (0 < c.chg), false, 0, false, false, false, false, c.v, c.t⟩))
  have bel2 := Lib.hid (Bx.bel_box bel.out (bdo ⟨0, decide (0 < c.chg), false, 0, false, false, false, false, c.v, c.t⟩))
  have a27 := B0.out.at 27 rfl
  have a5 := B0.out.at 5 rfl
  have a6 := B0.out.at 6 rfl
  have a7 := B0.out.at 7 rfl
  have a8 := B0.out.at 8 rfl
  have a9 := B0.out.at 9 rfl
  have a10 := B0.out.at 10 rfl
  have a11 := B0.out.at 11 rfl
  have a12 := B0.out.at 12 rfl
  have r21 := B2.out.at 21 rfl
  rw [hr] at r21
  clear hr
  go_enter Try.func31, Try.ntmps31
  go_wp2_with (first | ((with_reducible refine bd_fresh ?_ ?_ (w.heap.size + 1 + 1) ⟨0, decide (0 < c.chg), false, 0, false, false, false, false, c.v, c.t⟩ ?_ ?_ ((w.alloc (cdo c)).alloc (bdo Bd.zero)) (bdl Bd.zero) ?_ ?_ ?_ ?_); (· rfl); (· rfl); (· rfl); (· rfl); (· rfl); (· rfl); (· first | rfl | (simp; done))))
  generalize ((w.alloc (cdo c)).alloc (bdo Bd.zero)).alloc (bdo ⟨0, decide (0 < c.chg), false, 0, false, false, false, false, c.v, c.t⟩) = w2 at *
  clear r21 B0 R0 bel a27 a5 a6 a7 a8 a9 a10 a11 a12
  have z0 := M0.out.at 0 rfl
  have f0 := M0.out.2.2 0
  have z3 := M0.out.at 3 rfl
  have f3 := M0.out.2.2 3
  refine wp_region_noPanic ?_
  refine wp_region_held_drew (S := fun w' => w'.cell? ⟨w.heap.size, 13, none⟩ = some (.int .i64 c.role)) (by kernel_rfl) (by exact B2.out.at 13 rfl) (fun hHeld => ?_)
  refine wpAnyH_take (i := 0) (oi := ?o0) (v := ?v0) ?hi0 (by kernel_rfl) (by kernel_rfl) (by kernel_rfl) (fun _ _ _ h => h) ?y0 (by assumption) ?r0
  case hi0 => (simp only [List.getElem?_toArray, List.getElem?_cons_zero]; rfl)
  case y0 => (refine Or.inl ⟨by rfl, ?_⟩; intro w' hSw; (try dsimp only at hSw); go_simp; (try with_reducible rfl))
  try simp only [Act.put, List.setIfInBounds_toArray, List.set_cons_zero, List.set_cons_succ]
  refine wpAnyH_take (i := 1) (oi := ?o1) (v := ?v1) ?hi1 (by kernel_rfl) (by kernel_rfl) (by kernel_rfl) (fun _ _ _ h => h) ?y1 (by assumption) ?r1
  case hi1 => (simp only [List.getElem?_toArray, List.getElem?_cons_succ, List.getElem?_cons_zero]; rfl)
  case y1 => (refine Or.inl ⟨by rfl, ?_⟩; intro w' hSw; (try dsimp only at hSw); go_simp; (try with_reducible rfl))
  try simp only [Act.put, List.setIfInBounds_toArray, List.set_cons_zero, List.set_cons_succ]
  refine wpAnyH_take (i := 2) (oi := ?o2) (v := ?v2) ?hi2 (by kernel_rfl) (by kernel_rfl) (by kernel_rfl) (fun _ _ _ h => h) ?y2 (by assumption) ?r2
  case hi2 => (simp only [List.getElem?_toArray, List.getElem?_cons_succ, List.getElem?_cons_zero]; rfl)
  case y2 => (refine Or.inl ⟨by rfl, ?_⟩; intro w' hSw; (try dsimp only at hSw); go_simp; (try with_reducible rfl))
  try simp only [Act.put, List.setIfInBounds_toArray, List.set_cons_zero, List.set_cons_succ]
  refine wpAnyH_ready (rs := [3]) (by kernel_rfl) (by simp) ?_
  refine AllReadyH.cons (o := ?o3) ?hi3 ?hst3 AllReadyH.nil
  case hi3 => (simp only [List.getElem?_toArray, List.getElem?_cons_succ, List.getElem?_cons_zero]; rfl)
  intro K hK
  go_simp
  refine hK.out _ _ (by exact (by first | exact Bx.cell_other (by omega) hHeld | exact Bx.cell_other_drew (by omega) hHeld)) (fun hNew => ?_)
  clear hHeld
  have hHeld := hNew
  clear hNew hK K
  replace bel2 := Lib.hid (Bx.bel_set (k := w.heap.size + 1 + 1) (o := 0) (x := .int .i64 2) (by omega) bel2.out)
  replace M0 := Lib.hid (M0.out.set 0 (.int .i64 2))
  replace B2 := Lib.hid (B2.out.other (k' := w.heap.size + 1 + 1) (o := 0) (x := .int .i64 2) (by omega))
  replace R2 := Lib.hid (R2.out.other (k' := w.heap.size + 1 + 1) (o := 0) (x := .int .i64 2) (by omega))
  refine wpAnyH_take (i := 4) (oi := ?o4) (v := ?v4) ?hi4 (by kernel_rfl) (by kernel_rfl) (by kernel_rfl) (fun _ _ _ h => h) ?y4 (by assumption) ?r4
  case hi4 => (simp only [List.getElem?_toArray, List.getElem?_cons_succ, List.getElem?_cons_zero]; rfl)
  case y4 => (refine Or.inl ⟨by rfl, ?_⟩; intro w' hSw; (try dsimp only at hSw); go_simp; (try with_reducible rfl))
  try simp only [Act.put, List.setIfInBounds_toArray, List.set_cons_zero, List.set_cons_succ]
  refine wpAnyH_ready (rs := [5]) (by kernel_rfl) (by simp) ?_
  refine AllReadyH.cons (o := ?o5) ?hi5 ?hst5 AllReadyH.nil
  case hi5 => (simp only [List.getElem?_toArray, List.getElem?_cons_succ, List.getElem?_cons_zero]; rfl)
  intro K hK
  go_simp
  refine hK.out _ _ (by exact (by first | exact Bx.cell_other (by omega) hHeld | exact Bx.cell_other_drew (by omega) hHeld)) (fun hNew => ?_)
  clear hHeld
  have hHeld := hNew
  clear hNew hK K
  replace bel2 := Lib.hid (Bx.bel_set (k := w.heap.size + 1 + 1) (o := 3) (x := .int .i64 c.role) (by omega) bel2.out)
  replace M0 := Lib.hid (M0.out.set 3 (.int .i64 c.role))
  replace B2 := Lib.hid (B2.out.other (k' := w.heap.size + 1 + 1) (o := 3) (x := .int .i64 c.role) (by omega))
  replace R2 := Lib.hid (R2.out.other (k' := w.heap.size + 1 + 1) (o := 3) (x := .int .i64 c.role) (by omega))
  replace bel2 := Lib.hid (Bx.bel_drewn bel2.out)
  replace M0 := Lib.hid (M0.out.drew)
  replace B2 := Lib.hid (B2.out.drew)
  replace R2 := Lib.hid (R2.out.drew)
  refine wpAnyH_done (by kernel_rfl) ?_ _
  refine NoPanic.normal ?_
  clear z0 f0 z3 f3
  replace M0 := Lib.hid (M0.out.of (m := bdl ⟨2, decide (0 < c.chg), false, c.role, false, false, false, false, c.v, c.t⟩) rfl)
  generalize ((w2.setCell ⟨w.heap.size + 1 + 1, 0, none⟩ (.int .i64 2)).setCell ⟨w.heap.size + 1 + 1, 3, none⟩ (.int .i64 c.role)).drew = w3 at *
  clear hHeld
  have a14 := B2.out.at 14 rfl
  have a17 := B2.out.at 17 rfl
  have a13 := B2.out.at 13 rfl
  have a16 := B2.out.at 16 rfl
  have z4 := M0.out.at 4 rfl
  have f4 := M0.out.2.2 4
  have z5 := M0.out.at 5 rfl
  have f5 := M0.out.2.2 5
  have z2 := M0.out.at 2 rfl
  have f2 := M0.out.2.2 2
  have z6 := M0.out.at 6 rfl
  have f6 := M0.out.2.2 6
  rw [hp'.out] at a17
  replace B2 := Lib.hid (B2.out.other (k' := w.heap.size + 1 + 1) (o := 4) (x := .bool (decide (1 ≤ c.st))) (by omega))
  replace R2 := Lib.hid (R2.out.other (k' := w.heap.size + 1 + 1) (o := 4) (x := .bool (decide (1 ≤ c.st))) (by omega))
  replace bel2 := Lib.hid (Bx.bel_set (k := w.heap.size + 1 + 1) (o := 4) (x := .bool (decide (1 ≤ c.st))) (by omega) bel2.out)
  replace M0 := Lib.hid (M0.out.set 4 (.bool (decide (1 ≤ c.st))))
  replace B2 := Lib.hid (B2.out.other (k' := w.heap.size + 1 + 1) (o := 5) (x := .bool (c.st == 2)) (by omega))
  replace R2 := Lib.hid (R2.out.other (k' := w.heap.size + 1 + 1) (o := 5) (x := .bool (c.st == 2)) (by omega))
  replace bel2 := Lib.hid (Bx.bel_set (k := w.heap.size + 1 + 1) (o := 5) (x := .bool (c.st == 2)) (by omega) bel2.out)
  replace M0 := Lib.hid (M0.out.set 5 (.bool (c.st == 2)))
  replace B2 := Lib.hid (B2.out.other (k' := w.heap.size + 1 + 1) (o := 2) (x := .bool false) (by omega))
  replace R2 := Lib.hid (R2.out.other (k' := w.heap.size + 1 + 1) (o := 2) (x := .bool false) (by omega))
  replace bel2 := Lib.hid (Bx.bel_set (k := w.heap.size + 1 + 1) (o := 2) (x := .bool false) (by omega) bel2.out)
  replace M0 := Lib.hid (M0.out.set 2 (.bool false))
  replace B2 := Lib.hid (B2.out.other (k' := w.heap.size + 1 + 1) (o := 6) (x := .bool c.agr) (by omega))
  replace R2 := Lib.hid (R2.out.other (k' := w.heap.size + 1 + 1) (o := 6) (x := .bool c.agr) (by omega))
  replace bel2 := Lib.hid (Bx.bel_set (k := w.heap.size + 1 + 1) (o := 6) (x := .bool c.agr) (by omega) bel2.out)
  replace M0 := Lib.hid (M0.out.set 6 (.bool c.agr))
  replace M0 := Lib.hid (M0.out.of (m := bdl b9) (by rw [H9.out]; rfl))
  go_wp2_with (first | ((with_reducible refine bd_load ?_ ?_ (w.heap.size + 1 + 1) ?_ b9 ?_ ?_); (· rfl); (· rfl); (· rfl); (· exact M0.out.blk)) | ((with_reducible refine bd_store ?_ ?_ (w.heap.size + 1) b9 ?_ ?_ (bdl Bd.zero) ?_ ?_ ?_); (· rfl); (· rfl); (· rfl); (· rfl); (· rfl); (· exact R2.out.own)))
  exact bodyPost_ret (v := bdv b9) (bd_result Try.results31 rfl (R2.out.full (m := bdl b9) rfl).blk) rfl ⟨rfl, Bx.bel_put_at (k := w.heap.size + 1) (bdl b9) 0 (by omega) bel2.out⟩

set_option maxRecDepth 40000 in
set_option maxHeartbeats 8000000 in
theorem msg_asks (c : Cd) (hr : c.rap = true) (hp : c.png = true) (w : World) : Calls Try.prog 31 #[cdv c] w fun e w' => e = .returned (bdv ⟨2, decide (0 < c.chg), (c.role == 3), c.role, decide (1 ≤ c.st), (c.st == 2), c.agr, false, c.v, c.t⟩) ∧ Below w.heap.size w w' := by
  obtain ⟨b9, hb9⟩ : ∃ b9 : Bd, b9 = ⟨2, decide (0 < c.chg), (c.role == 3), c.role, decide (1 ≤ c.st), (c.st == 2), c.agr, false, c.v, c.t⟩ := ⟨_, rfl⟩
  have H9 := Lib.hid hb9
  rw [← hb9]
  clear hb9
  have hp' := Lib.hid hp
  clear hp
  have B0 := Lib.hid ((Bx.Fre.new w (cdl c) 28).more (bdo Bd.zero))
  have R0 := Lib.hid (Bx.Fre.new_at (W := w.alloc (cdo c)) (k := w.heap.size + 1) (bdl Bd.zero) 54 (by simp))
  have bel := Lib.hid (Bx.bel_box (Bx.box_below w (cdo c)) (bdo Bd.zero))
  have M0 := Lib.hid (Bx.Fre.new_at (W := (w.alloc (cdo c)).alloc (bdo Bd.zero)) (k := w.heap.size + 1 + 1) (bdl ⟨0, decide (0 < c.chg), false, 0, false, false, false, false, c.v, c.t⟩) 54 (by simp))
  have B2 := Lib.hid (B0.out.more (bdo ⟨0, decide (0 < c.chg), false, 0, false, false, false, false, c.v, c.t⟩))
  have R2 := Lib.hid (R0.out.more (bdo ⟨0, decide (0 < c.chg), false, 0, false, false, false, false, c.v, c.t⟩))
  have bel2 := Lib.hid (Bx.bel_box bel.out (bdo ⟨0, decide (0 < c.chg), false, 0, false, false, false, false, c.v, c.t⟩))
  have a27 := B0.out.at 27 rfl
  have a5 := B0.out.at 5 rfl
  have a6 := B0.out.at 6 rfl
  have a7 := B0.out.at 7 rfl
  have a8 := B0.out.at 8 rfl
  have a9 := B0.out.at 9 rfl
  have a10 := B0.out.at 10 rfl
  have a11 := B0.out.at 11 rfl
  have a12 := B0.out.at 12 rfl
  have r21 := B2.out.at 21 rfl
  rw [hr] at r21
  clear hr
  go_enter Try.func31, Try.ntmps31
  go_wp2_with (first | ((with_reducible refine bd_fresh ?_ ?_ (w.heap.size + 1 + 1) ⟨0, decide (0 < c.chg), false, 0, false, false, false, false, c.v, c.t⟩ ?_ ?_ ((w.alloc (cdo c)).alloc (bdo Bd.zero)) (bdl Bd.zero) ?_ ?_ ?_ ?_); (· rfl); (· rfl); (· rfl); (· rfl); (· rfl); (· rfl); (· first | rfl | (simp; done))))
  generalize ((w.alloc (cdo c)).alloc (bdo Bd.zero)).alloc (bdo ⟨0, decide (0 < c.chg), false, 0, false, false, false, false, c.v, c.t⟩) = w2 at *
  clear r21 B0 R0 bel a27 a5 a6 a7 a8 a9 a10 a11 a12
  have z0 := M0.out.at 0 rfl
  have f0 := M0.out.2.2 0
  have z3 := M0.out.at 3 rfl
  have f3 := M0.out.2.2 3
  refine wp_region_noPanic ?_
  refine wp_region_held_drew (S := fun w' => w'.cell? ⟨w.heap.size, 13, none⟩ = some (.int .i64 c.role)) (by kernel_rfl) (by exact B2.out.at 13 rfl) (fun hHeld => ?_)
  refine wpAnyH_take (i := 0) (oi := ?o0) (v := ?v0) ?hi0 (by kernel_rfl) (by kernel_rfl) (by kernel_rfl) (fun _ _ _ h => h) ?y0 (by assumption) ?r0
  case hi0 => (simp only [List.getElem?_toArray, List.getElem?_cons_zero]; rfl)
  case y0 => (refine Or.inl ⟨by rfl, ?_⟩; intro w' hSw; (try dsimp only at hSw); go_simp; (try with_reducible rfl))
  try simp only [Act.put, List.setIfInBounds_toArray, List.set_cons_zero, List.set_cons_succ]
  refine wpAnyH_take (i := 1) (oi := ?o1) (v := ?v1) ?hi1 (by kernel_rfl) (by kernel_rfl) (by kernel_rfl) (fun _ _ _ h => h) ?y1 (by assumption) ?r1
  case hi1 => (simp only [List.getElem?_toArray, List.getElem?_cons_succ, List.getElem?_cons_zero]; rfl)
  case y1 => (refine Or.inl ⟨by rfl, ?_⟩; intro w' hSw; (try dsimp only at hSw); go_simp; (try with_reducible rfl))
  try simp only [Act.put, List.setIfInBounds_toArray, List.set_cons_zero, List.set_cons_succ]
  refine wpAnyH_take (i := 2) (oi := ?o2) (v := ?v2) ?hi2 (by kernel_rfl) (by kernel_rfl) (by kernel_rfl) (fun _ _ _ h => h) ?y2 (by assumption) ?r2
  case hi2 => (simp only [List.getElem?_toArray, List.getElem?_cons_succ, List.getElem?_cons_zero]; rfl)
  case y2 => (refine Or.inl ⟨by rfl, ?_⟩; intro w' hSw; (try dsimp only at hSw); go_simp; (try with_reducible rfl))
  try simp only [Act.put, List.setIfInBounds_toArray, List.set_cons_zero, List.set_cons_succ]
  refine wpAnyH_ready (rs := [3]) (by kernel_rfl) (by simp) ?_
  refine AllReadyH.cons (o := ?o3) ?hi3 ?hst3 AllReadyH.nil
  case hi3 => (simp only [List.getElem?_toArray, List.getElem?_cons_succ, List.getElem?_cons_zero]; rfl)
  intro K hK
  go_simp
  refine hK.out _ _ (by exact (by first | exact Bx.cell_other (by omega) hHeld | exact Bx.cell_other_drew (by omega) hHeld)) (fun hNew => ?_)
  clear hHeld
  have hHeld := hNew
  clear hNew hK K
  replace bel2 := Lib.hid (Bx.bel_set (k := w.heap.size + 1 + 1) (o := 0) (x := .int .i64 2) (by omega) bel2.out)
  replace M0 := Lib.hid (M0.out.set 0 (.int .i64 2))
  replace B2 := Lib.hid (B2.out.other (k' := w.heap.size + 1 + 1) (o := 0) (x := .int .i64 2) (by omega))
  replace R2 := Lib.hid (R2.out.other (k' := w.heap.size + 1 + 1) (o := 0) (x := .int .i64 2) (by omega))
  refine wpAnyH_take (i := 4) (oi := ?o4) (v := ?v4) ?hi4 (by kernel_rfl) (by kernel_rfl) (by kernel_rfl) (fun _ _ _ h => h) ?y4 (by assumption) ?r4
  case hi4 => (simp only [List.getElem?_toArray, List.getElem?_cons_succ, List.getElem?_cons_zero]; rfl)
  case y4 => (refine Or.inl ⟨by rfl, ?_⟩; intro w' hSw; (try dsimp only at hSw); go_simp; (try with_reducible rfl))
  try simp only [Act.put, List.setIfInBounds_toArray, List.set_cons_zero, List.set_cons_succ]
  refine wpAnyH_ready (rs := [5]) (by kernel_rfl) (by simp) ?_
  refine AllReadyH.cons (o := ?o5) ?hi5 ?hst5 AllReadyH.nil
  case hi5 => (simp only [List.getElem?_toArray, List.getElem?_cons_succ, List.getElem?_cons_zero]; rfl)
  intro K hK
  go_simp
  refine hK.out _ _ (by exact (by first | exact Bx.cell_other (by omega) hHeld | exact Bx.cell_other_drew (by omega) hHeld)) (fun hNew => ?_)
  clear hHeld
  have hHeld := hNew
  clear hNew hK K
  replace bel2 := Lib.hid (Bx.bel_set (k := w.heap.size + 1 + 1) (o := 3) (x := .int .i64 c.role) (by omega) bel2.out)
  replace M0 := Lib.hid (M0.out.set 3 (.int .i64 c.role))
  replace B2 := Lib.hid (B2.out.other (k' := w.heap.size + 1 + 1) (o := 3) (x := .int .i64 c.role) (by omega))
  replace R2 := Lib.hid (R2.out.other (k' := w.heap.size + 1 + 1) (o := 3) (x := .int .i64 c.role) (by omega))
  replace bel2 := Lib.hid (Bx.bel_drewn bel2.out)
  replace M0 := Lib.hid (M0.out.drew)
  replace B2 := Lib.hid (B2.out.drew)
  replace R2 := Lib.hid (R2.out.drew)
  refine wpAnyH_done (by kernel_rfl) ?_ _
  refine NoPanic.normal ?_
  clear z0 f0 z3 f3
  replace M0 := Lib.hid (M0.out.of (m := bdl ⟨2, decide (0 < c.chg), false, c.role, false, false, false, false, c.v, c.t⟩) rfl)
  generalize ((w2.setCell ⟨w.heap.size + 1 + 1, 0, none⟩ (.int .i64 2)).setCell ⟨w.heap.size + 1 + 1, 3, none⟩ (.int .i64 c.role)).drew = w3 at *
  clear hHeld
  have a14 := B2.out.at 14 rfl
  have a17 := B2.out.at 17 rfl
  have a13 := B2.out.at 13 rfl
  have a16 := B2.out.at 16 rfl
  have z4 := M0.out.at 4 rfl
  have f4 := M0.out.2.2 4
  have z5 := M0.out.at 5 rfl
  have f5 := M0.out.2.2 5
  have z2 := M0.out.at 2 rfl
  have f2 := M0.out.2.2 2
  have z6 := M0.out.at 6 rfl
  have f6 := M0.out.2.2 6
  rw [hp'.out] at a17
  replace B2 := Lib.hid (B2.out.other (k' := w.heap.size + 1 + 1) (o := 4) (x := .bool (decide (1 ≤ c.st))) (by omega))
  replace R2 := Lib.hid (R2.out.other (k' := w.heap.size + 1 + 1) (o := 4) (x := .bool (decide (1 ≤ c.st))) (by omega))
  replace bel2 := Lib.hid (Bx.bel_set (k := w.heap.size + 1 + 1) (o := 4) (x := .bool (decide (1 ≤ c.st))) (by omega) bel2.out)
  replace M0 := Lib.hid (M0.out.set 4 (.bool (decide (1 ≤ c.st))))
  replace B2 := Lib.hid (B2.out.other (k' := w.heap.size + 1 + 1) (o := 5) (x := .bool (c.st == 2)) (by omega))
  replace R2 := Lib.hid (R2.out.other (k' := w.heap.size + 1 + 1) (o := 5) (x := .bool (c.st == 2)) (by omega))
  replace bel2 := Lib.hid (Bx.bel_set (k := w.heap.size + 1 + 1) (o := 5) (x := .bool (c.st == 2)) (by omega) bel2.out)
  replace M0 := Lib.hid (M0.out.set 5 (.bool (c.st == 2)))
  replace B2 := Lib.hid (B2.out.other (k' := w.heap.size + 1 + 1) (o := 2) (x := .bool (c.role == 3)) (by omega))
  replace R2 := Lib.hid (R2.out.other (k' := w.heap.size + 1 + 1) (o := 2) (x := .bool (c.role == 3)) (by omega))
  replace bel2 := Lib.hid (Bx.bel_set (k := w.heap.size + 1 + 1) (o := 2) (x := .bool (c.role == 3)) (by omega) bel2.out)
  replace M0 := Lib.hid (M0.out.set 2 (.bool (c.role == 3)))
  replace B2 := Lib.hid (B2.out.other (k' := w.heap.size + 1 + 1) (o := 6) (x := .bool c.agr) (by omega))
  replace R2 := Lib.hid (R2.out.other (k' := w.heap.size + 1 + 1) (o := 6) (x := .bool c.agr) (by omega))
  replace bel2 := Lib.hid (Bx.bel_set (k := w.heap.size + 1 + 1) (o := 6) (x := .bool c.agr) (by omega) bel2.out)
  replace M0 := Lib.hid (M0.out.set 6 (.bool c.agr))
  replace M0 := Lib.hid (M0.out.of (m := bdl b9) (by rw [H9.out]; rfl))
  go_wp2_with (first | ((with_reducible refine bd_load ?_ ?_ (w.heap.size + 1 + 1) ?_ b9 ?_ ?_); (· rfl); (· rfl); (· rfl); (· exact M0.out.blk)) | ((with_reducible refine bd_store ?_ ?_ (w.heap.size + 1) b9 ?_ ?_ (bdl Bd.zero) ?_ ?_ ?_); (· rfl); (· rfl); (· rfl); (· rfl); (· rfl); (· exact R2.out.own)))
  exact bodyPost_ret (v := bdv b9) (bd_result Try.results31 rfl (R2.out.full (m := bdl b9) rfl).blk) rfl ⟨rfl, Bx.bel_put_at (k := w.heap.size + 1) (bdl b9) 0 (by omega) bel2.out⟩

theorem msg_any (c : Cd) (w : World) : Calls Try.prog 31 #[cdv c] w fun e w' => e = .returned (bdv (msgB c)) ∧ Below w.heap.size w w' := by
  unfold msgB
  rcases Bool.eq_false_or_eq_true c.rap with hr | hr
  · rw [if_pos hr]
    rcases Bool.eq_false_or_eq_true c.png with hp | hp
    · have h := msg_asks c hr hp w
      rw [hp]
      exact h
    · have h := msg_plain c hr hp w
      rw [hp]
      exact h
  · rw [if_neg (by simp [hr])]
    exact msg_old c hr w

end Rsp
end Go.Proofs.Ytlaahomkgaaciaa
