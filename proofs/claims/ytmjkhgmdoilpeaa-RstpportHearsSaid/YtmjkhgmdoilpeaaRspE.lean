/-
  What Message and Protocol answer.
-/
import Derived.Test.YtmjkhgmdoilpeaaRspD
namespace Go.Proofs.Ytmjkhgmdoilpeaa
open Go.RowKit
namespace Rsp
open Pre Crd

set_option maxRecDepth 40000 in
set_option maxHeartbeats 8000000 in
theorem msg_old (c : Cd) (hr : c.rap = false) (w : World) : Calls Try.prog 5 #[cdv c] w fun e w' => e = .returned (bdv ⟨0, decide (0 < c.chg), false, 0, false, false, false, c.ack, c.v, c.t⟩) ∧ Below w.heap.size w w' := by
  obtain ⟨b9, hb9⟩ : ∃ b9 : Bd, b9 = ⟨0, decide (0 < c.chg), false, 0, false, false, false, c.ack, c.v, c.t⟩ := ⟨_, rfl⟩
  have H9 := Lib.hid hb9
  rw [← hb9]
  clear hb9
  have B0 := Lib.hid ((Bx.Fre.new w (cdl c) 28).more (bdo Bd.zero))
  have R0 := Lib.hid (Bx.Fre.new_at (W := w.alloc (cdo c)) (k := w.heap.size + 1) (bdl Bd.zero) 30 (by simp))
  have bel := Lib.hid (Bx.bel_box (Bx.box_below w (cdo c)) (bdo Bd.zero))
  have M0 := Lib.hid (Bx.Fre.new_at (W := (w.alloc (cdo c)).alloc (bdo Bd.zero)) (k := w.heap.size + 1 + 1) (bdl ⟨0, decide (0 < c.chg), false, 0, false, false, false, false, c.v, c.t⟩) 30 (by simp))
  have B2 := Lib.hid (B0.out.more (bdo ⟨0, decide (0 < c.chg), false, 0, false, false, false, false, c.v, c.t⟩))
  have R2 := Lib.hid (R0.out.more (bdo ⟨0, decide (0 < c.chg), false, 0, false, false, false, false, c.v, c.t⟩))
  have bel2 := Lib.hid (Bx.bel_box bel.out (bdo ⟨0, decide (0 < c.chg), false, 0, false, false, false, false, c.v, c.t⟩))
  have a27 := B0.out.at 27 rfl
  have a5 := B0.out.at 5 rfl
  have a6 := B0.out.at 6 rfl
  have a7 := B0.out.at 7 rfl
  have a8 := B0.out.at 8 rfl
  have a9 := B0.out.at 9 rfl
  have a10 := B0.out.at 10 rfl
  have a11 := B0.out.at 11 rfl
  have a12 := B0.out.at 12 rfl
  have r21 := B2.out.at 21 rfl
  rw [hr] at r21
  clear hr
  go_enter Try.func5, Try.ntmps5
  go_wp2_with (first | ((with_reducible refine bd_fresh ?_ ?_ (w.heap.size + 1 + 1) ⟨0, decide (0 < c.chg), false, 0, false, false, false, false, c.v, c.t⟩ ?_ ?_ ((w.alloc (cdo c)).alloc (bdo Bd.zero)) (bdl Bd.zero) ?_ ?_ ?_ ?_); (· rfl); (· rfl); (· rfl); (· rfl); (· rfl); (· rfl); (· first | rfl | (simp; done))))
  generalize ((w.alloc (cdo c)).alloc (bdo Bd.zero)).alloc (bdo ⟨0, decide (0 < c.chg), false, 0, false, false, false, false, c.v, c.t⟩) = w2 at *
  clear r21 B0 R0 bel a27 a5 a6 a7 a8 a9 a10 a11 a12
  have z0 := M0.out.at 0 rfl
  have f0 := M0.out.2.2 0
  have z7 := M0.out.at 7 rfl
  have f7 := M0.out.2.2 7
  refine wp_region_noPanic ?_
  refine wp_region_held_drew (S := fun w' => w'.cell? ⟨w.heap.size, 23, none⟩ = some (.bool c.ack)) (by kernel_rfl) (by exact B2.out.at 23 rfl) (fun hHeld => ?_)
  refine wpAnyH_take (i := 0) (oi := ?o0) (v := ?v0) ?hi0 (by kernel_rfl) (by kernel_rfl) (by kernel_rfl) (fun _ _ _ h => h) ?y0 (by assumption) ?r0
  case hi0 => (simp only [List.getElem?_toArray, List.getElem?_cons_zero]; rfl)
  case y0 => (refine Or.inl ⟨by rfl, ?_⟩; intro w' hSw; (try dsimp only at hSw); go_simp; (try with_reducible rfl))
  try simp only [Act.put, List.setIfInBounds_toArray, List.set_cons_zero, List.set_cons_succ]
  refine wpAnyH_take (i := 1) (oi := ?o1) (v := ?v1) ?hi1 (by kernel_rfl) (by kernel_rfl) (by kernel_rfl) (fun _ _ _ h => h) ?y1 (by assumption) ?r1
  case hi1 => (simp only [List.getElem?_toArray, List.getElem?_cons_succ, List.getElem?_cons_zero]; rfl)
  case y1 => (refine Or.inl ⟨by rfl, ?_⟩; intro w' hSw; (try dsimp only at hSw); go_simp; (try with_reducible rfl))
  try simp only [Act.put, List.setIfInBounds_toArray, List.set_cons_zero, List.set_cons_succ]
  refine wpAnyH_take (i := 2) (oi := ?o2) (v := ?v2) ?hi2 (by kernel_rfl) (by kernel_rfl) (by kernel_rfl) (fun _ _ _ h => h) ?y2 (by assumption) ?r2
  case hi2 => (simp only [List.getElem?_toArray, List.getElem?_cons_succ, List.getElem?_cons_zero]; rfl)
  case y2 => (refine Or.inl ⟨by rfl, ?_⟩; intro w' hSw; (try dsimp only at hSw); go_simp; (try with_reducible rfl))
  try simp only [Act.put, List.setIfInBounds_toArray, List.set_cons_zero, List.set_cons_succ]
  refine wpAnyH_ready (rs := [3]) (by kernel_rfl) (by simp) ?_
  refine AllReadyH.cons (o := ?o3) ?hi3 ?hst3 AllReadyH.nil
  case hi3 => (simp only [List.getElem?_toArray, List.getElem?_cons_succ, List.getElem?_cons_zero]; rfl)
  intro K hK
  go_simp
  refine hK.out _ _ (by exact (by first | exact Bx.cell_other (by omega) hHeld | exact Bx.cell_other_drew (by omega) hHeld)) (fun hNew => ?_)
  clear hHeld
  have hHeld := hNew
  clear hNew hK K
  replace bel2 := Lib.hid (Bx.bel_set (k := w.heap.size + 1 + 1) (o := 0) (x := .int .i64 0) (by omega) bel2.out)
  replace M0 := Lib.hid (M0.out.set 0 (.int .i64 0))
  replace B2 := Lib.hid (B2.out.other (k' := w.heap.size + 1 + 1) (o := 0) (x := .int .i64 0) (by omega))
  replace R2 := Lib.hid (R2.out.other (k' := w.heap.size + 1 + 1) (o := 0) (x := .int .i64 0) (by omega))
  refine wpAnyH_take (i := 4) (oi := ?o4) (v := ?v4) ?hi4 (by kernel_rfl) (by kernel_rfl) (by kernel_rfl) (fun _ _ _ h => h) ?y4 (by assumption) ?r4
  case hi4 => (simp only [List.getElem?_toArray, List.getElem?_cons_succ, List.getElem?_cons_zero]; rfl)
  case y4 => (refine Or.inl ⟨by rfl, ?_⟩; intro w' hSw; (try dsimp only at hSw); go_simp; (try with_reducible rfl))
  try simp only [Act.put, List.setIfInBounds_toArray, List.set_cons_zero, List.set_cons_succ]
  refine wpAnyH_ready (rs := [5]) (by kernel_rfl) (by simp) ?_
  refine AllReadyH.cons (o := ?o5) ?hi5 ?hst5 AllReadyH.nil
  case hi5 => (simp only [List.getElem?_toArray, List.getElem?_cons_succ, List.getElem?_cons_zero]; rfl)
  intro K hK
  go_simp
  refine hK.out _ _ (by exact (by first | exact Bx.cell_other (by omega) hHeld | exact Bx.cell_other_drew (by omega) hHeld)) (fun hNew => ?_)
  clear hHeld
  have hHeld := hNew
  clear hNew hK K
  replace bel2 := Lib.hid (Bx.bel_set (k := w.heap.size + 1 + 1) (o := 7) (x := .bool c.ack) (by omega) bel2.out)
  replace M0 := Lib.hid (M0.out.set 7 (.bool c.ack))
  replace B2 := Lib.hid (B2.out.other (k' := w.heap.size + 1 + 1) (o := 7) (x := .bool c.ack) (by omega))
  replace R2 := Lib.hid (R2.out.other (k' := w.heap.size + 1 + 1) (o := 7) (x := .bool c.ack) (by omega))
  replace bel2 := Lib.hid (Bx.bel_drewn bel2.out)
  replace M0 := Lib.hid (M0.out.drew)
  replace B2 := Lib.hid (B2.out.drew)
  replace R2 := Lib.hid (R2.out.drew)
  refine wpAnyH_done (by kernel_rfl) ?_ _
  refine NoPanic.normal ?_
  clear z0 f0 z7 f7
  replace M0 := Lib.hid (M0.out.of (m := bdl ⟨0, decide (0 < c.chg), false, 0, false, false, false, c.ack, c.v, c.t⟩) rfl)
  generalize ((w2.setCell ⟨w.heap.size + 1 + 1, 0, none⟩ (.int .i64 0)).setCell ⟨w.heap.size + 1 + 1, 7, none⟩ (.bool c.ack)).drew = w3 at *
  clear hHeld
  replace M0 := Lib.hid (M0.out.of (m := bdl b9) (by rw [H9.out]))
  go_wp2_with (first | ((with_reducible refine bd_load ?_ ?_ (w.heap.size + 1 + 1) ?_ b9 ?_ ?_); (· rfl); (· rfl); (· rfl); (· exact M0.out.blk)) | ((with_reducible refine bd_store ?_ ?_ (w.heap.size + 1) b9 ?_ ?_ (bdl Bd.zero) ?_ ?_ ?_); (· rfl); (· rfl); (· rfl); (· rfl); (· rfl); (· exact R2.out.own)))
  exact bodyPost_ret (v := bdv b9) (bd_result Try.results5 rfl (R2.out.full (m := bdl b9) rfl).blk) rfl ⟨rfl, Bx.bel_put_at (k := w.heap.size + 1) (bdl b9) 0 (by omega) bel2.out⟩

set_option maxRecDepth 40000 in
set_option maxHeartbeats 8000000 in
theorem msg_plain (c : Cd) (hr : c.rap = true) (hp : c.png = false) (w : World) : Calls Try.prog 5 #[cdv c] w fun e w' => e = .returned (bdv ⟨2, decide (0 < c.chg), false, c.role, decide (1 ≤ c.st), (c.st == 2), c.agr, false, c.v, c.t⟩) ∧ Below w.heap.size w w' := by
  obtain ⟨b9, hb9⟩ : ∃ b9 : Bd, b9 = ⟨2, decide (0 < c.chg), false, c.role, decide (1 ≤ c.st), (c.st == 2), c.agr, false, c.v, c.t⟩ := ⟨_, rfl⟩
  have H9 := Lib.hid hb9
  rw [← hb9]
  clear hb9
  have hp' := Lib.hid hp
  clear hp
  have B0 := Lib.hid ((Bx.Fre.new w (cdl c) 28).more (bdo Bd.zero))
  have R0 := Lib.hid (Bx.Fre.new_at (W := w.alloc (cdo c)) (k := w.heap.size + 1) (bdl Bd.zero) 30 (by simp))
  have bel := Lib.hid (Bx.bel_box (Bx.box_below w (cdo c)) (bdo Bd.zero))
  have M0 := Lib.hid (Bx.Fre.new_at (W := (w.alloc (cdo c)).alloc (bdo Bd.zero)) (k := w.heap.size + 1 + 1) (bdl ⟨0, decide (0 < c.chg), false, 0, false, false, false, false, c.v, c.t⟩) 30 (by simp))
  have B2 := Lib.hid (B0.out.more (bdo ⟨0, decide (0 < c.chg), false, 0, false, false, false, false, c.v, c.t⟩))
  have R2 := Lib.hid (R0.out.more (bdo ⟨0, decide (0 < c.chg), false, 0, false, false, false, false, c.v, c.t⟩))
  have bel2 := Lib.hid (Bx.bel_box bel.out (bdo ⟨0, decide (0 < c.chg), false, 0, false, false, false, false, c.v, c.t⟩))
  have a27 := B0.out.at 27 rfl
  have a5 := B0.out.at 5 rfl
  have a6 := B0.out.at 6 rfl
  have a7 := B0.out.at 7 rfl
  have a8 := B0.out.at 8 rfl
  have a9 := B0.out.at 9 rfl
  have a10 := B0.out.at 10 rfl
  have a11 := B0.out.at 11 rfl
  have a12 := B0.out.at 12 rfl
  have r21 := B2.out.at 21 rfl
  rw [hr] at r21
  clear hr
  go_enter Try.func5, Try.ntmps5
  go_wp2_with (first | ((with_reducible refine bd_fresh ?_ ?_ (w.heap.size + 1 + 1) ⟨0, decide (0 < c.chg), false, 0, false, false, false, false, c.v, c.t⟩ ?_ ?_ ((w.alloc (cdo c)).alloc (bdo Bd.zero)) (bdl Bd.zero) ?_ ?_ ?_ ?_); (· rfl); (· rfl); (· rfl); (· rfl); (· rfl); (· rfl); (· first | rfl | (simp; done))))
  generalize ((w.alloc (cdo c)).alloc (bdo Bd.zero)).alloc (bdo ⟨0, decide (0 < c.chg), false, 0, false, false, false, false, c.v, c.t⟩) = w2 at *
  clear r21 B0 R0 bel a27 a5 a6 a7 a8 a9 a10 a11 a12
  have z0 := M0.out.at 0 rfl
  have f0 := M0.out.2.2 0
  have z3 := M0.out.at 3 rfl
  have f3 := M0.out.2.2 3
  refine wp_region_noPanic ?_
  refine wp_region_held_drew (S := fun w' => w'.cell? ⟨w.heap.size, 13, none⟩ = some (.int .i64 c.role)) (by kernel_rfl) (by exact B2.out.at 13 rfl) (fun hHeld => ?_)
  refine wpAnyH_take (i := 0) (oi := ?o0) (v := ?v0) ?hi0 (by kernel_rfl) (by kernel_rfl) (by kernel_rfl) (fun _ _ _ h => h) ?y0 (by assumption) ?r0
  case hi0 => (simp only [List.getElem?_toArray, List.getElem?_cons_zero]; rfl)
  case y0 => (refine Or.inl ⟨by rfl, ?_⟩; intro w' hSw; (try dsimp only at hSw); go_simp; (try with_reducible rfl))
  try simp only [Act.put, List.setIfInBounds_toArray, List.set_cons_zero, List.set_cons_succ]
  refine wpAnyH_take (i := 1) (oi := ?o1) (v := ?v1) ?hi1 (by kernel_rfl) (by kernel_rfl) (by kernel_rfl) (fun _ _ _ h => h) ?y1 (by assumption) ?r1
  case hi1 => (simp only [List.getElem?_toArray, List.getElem?_cons_succ, List.getElem?_cons_zero]; rfl)
  case y1 => (refine Or.inl ⟨by rfl, ?_⟩; intro w' hSw; (try dsimp only at hSw); go_simp; (try with_reducible rfl))
  try simp only [Act.put, List.setIfInBounds_toArray, List.set_cons_zero, List.set_cons_succ]
  refine wpAnyH_take (i := 2) (oi := ?o2) (v := ?v2) ?hi2 (by kernel_rfl) (by kernel_rfl) (by kernel_rfl) (fun _ _ _ h => h) ?y2 (by assumption) ?r2
  case hi2 => (simp only [List.getElem?_toArray, List.getElem?_cons_succ, List.getElem?_cons_zero]; rfl)
  case y2 => (refine Or.inl ⟨by rfl, ?_⟩; intro w' hSw; (try dsimp only at hSw); go_simp; (try with_reducible rfl))
  try simp only [Act.put, List.setIfInBounds_toArray, List.set_cons_zero, List.set_cons_succ]
  refine wpAnyH_ready (rs := [3]) (by kernel_rfl) (by simp) ?_
  refine AllReadyH.cons (o := ?o3) ?hi3 ?hst3 AllReadyH.nil
  case hi3 => (simp only [List.getElem?_toArray, List.getElem?_cons_succ, List.getElem?_cons_zero]; rfl)
  intro K hK
  go_simp
  refine hK.out _ _ (by exact (by first | exact Bx.cell_other (by omega) hHeld | exact Bx.cell_other_drew (by omega) hHeld)) (fun hNew => ?_)
  clear hHeld
  have hHeld := hNew
  clear hNew hK K
  replace bel2 := Lib.hid (Bx.bel_set (k := w.heap.size + 1 + 1) (o := 0) (x := .int .i64 2) (by omega) bel2.out)
  replace M0 := Lib.hid (M0.out.set 0 (.int .i64 2))
  replace B2 := Lib.hid (B2.out.other (k' := w.heap.size + 1 + 1) (o := 0) (x := .int .i64 2) (by omega))
  replace R2 := Lib.hid (R2.out.other (k' := w.heap.size + 1 + 1) (o := 0) (x := .int .i64 2) (by omega))
  refine wpAnyH_take (i := 4) (oi := ?o4) (v := ?v4) ?hi4 (by kernel_rfl) (by kernel_rfl) (by kernel_rfl) (fun _ _ _ h => h) ?y4 (by assumption) ?r4
  case hi4 => (simp only [List.getElem?_toArray, List.getElem?_cons_succ, List.getElem?_cons_zero]; rfl)
  case y4 => (refine Or.inl ⟨by rfl, ?_⟩; intro w' hSw; (try dsimp only at hSw); go_simp; (try with_reducible rfl))
  try simp only [Act.put, List.setIfInBounds_toArray, List.set_cons_zero, List.set_cons_succ]
  refine wpAnyH_ready (rs := [5]) (by kernel_rfl) (by simp) ?_
  refine AllReadyH.cons (o := ?o5) ?hi5 ?hst5 AllReadyH.nil
  case hi5 => (simp only [List.getElem?_toArray, List.getElem?_cons_succ, List.getElem?_cons_zero]; rfl)
  intro K hK
  go_simp
  refine hK.out _ _ (by exact (by first | exact Bx.cell_other (by omega) hHeld | exact Bx.cell_other_drew (by omega) hHeld)) (fun hNew => ?_)
  clear hHeld
  have hHeld := hNew
  clear hNew hK K
  replace bel2 := Lib.hid (Bx.bel_set (k := w.heap.size + 1 + 1) (o := 3) (x := .int .i64 c.role) (by omega) bel2.out)
  replace M0 := Lib.hid (M0.out.set 3 (.int .i64 c.role))
  replace B2 := Lib.hid (B2.out.other (k' := w.heap.size + 1 + 1) (o := 3) (x := .int .i64 c.role) (by omega))
  replace R2 := Lib.hid (R2.out.other (k' := w.heap.size + 1 + 1) (o := 3) (x := .int .i64 c.role) (by omega))
  replace bel2 := Lib.hid (Bx.bel_drewn bel2.out)
  replace M0 := Lib.hid (M0.out.drew)
  replace B2 := Lib.hid (B2.out.drew)
  replace R2 := Lib.hid (R2.out.drew)
  refine wpAnyH_done (by kernel_rfl) ?_ _
  refine NoPanic.normal ?_
  clear z0 f0 z3 f3
  replace M0 := Lib.hid (M0.out.of (m := bdl ⟨2, decide (0 < c.chg), false, c.role, false, false, false, false, c.v, c.t⟩) rfl)
  generalize ((w2.setCell ⟨w.heap.size + 1 + 1, 0, none⟩ (.int .i64 2)).setCell ⟨w.heap.size + 1 + 1, 3, none⟩ (.int .i64 c.role)).drew = w3 at *
  clear hHeld
  have a14 := B2.out.at 14 rfl
  have a17 := B2.out.at 17 rfl
  have a13 := B2.out.at 13 rfl
  have a16 := B2.out.at 16 rfl
  have z4 := M0.out.at 4 rfl
  have f4 := M0.out.2.2 4
  have z5 := M0.out.at 5 rfl
  have f5 := M0.out.2.2 5
  have z2 := M0.out.at 2 rfl
  have f2 := M0.out.2.2 2
  have z6 := M0.out.at 6 rfl
  have f6 := M0.out.2.2 6
  rw [hp'.out] at a17
  replace B2 := Lib.hid (B2.out.other (k' := w.heap.size + 1 + 1) (o := 4) (x := .bool (decide (1 ≤ c.st))) (by omega))
  replace R2 := Lib.hid (R2.out.other (k' := w.heap.size + 1 + 1) (o := 4) (x := .bool (decide (1 ≤ c.st))) (by omega))
  replace bel2 := Lib.hid (Bx.bel_set (k := w.heap.size + 1 + 1) (o := 4) (x := .bool (decide (1 ≤ c.st))) (by omega) bel2.out)
  replace M0 := Lib.hid (M0.out.set 4 (.bool (decide (1 ≤ c.st))))
  replace B2 := Lib.hid (B2.out.other (k' := w.heap.size + 1 + 1) (o := 5) (x := .bool (c.st == 2)) (by omega))
  replace R2 := Lib.hid (R2.out.other (k' := w.heap.size + 1 + 1) (o := 5) (x := .bool (c.st == 2)) (by omega))
  replace bel2 := Lib.hid (Bx.bel_set (k := w.heap.size + 1 + 1) (o := 5) (x := .bool (c.st == 2)) (by omega) bel2.out)
  replace M0 := Lib.hid (M0.out.set 5 (.bool (c.st == 2)))
  replace B2 := Lib.hid (B2.out.other (k' := w.heap.size + 1 + 1) (o := 2) (x := .bool false) (by omega))
  replace R2 := Lib.hid (R2.out.other (k' := w.heap.size + 1 + 1) (o := 2) (x := .bool false) (by omega))
  replace bel2 := Lib.hid (Bx.bel_set (k := w.heap.size + 1 + 1) (o := 2) (x := .bool false) (by omega) bel2.out)
  replace M0 := Lib.hid (M0.out.set 2 (.bool false))
  replace B2 := Lib.hid (B2.out.other (k' := w.heap.size + 1 + 1) (o := 6) (x := .bool c.agr) (by omega))
  replace R2 := Lib.hid (R2.out.other (k' := w.heap.size + 1 + 1) (o := 6) (x := .bool c.agr) (by omega))
  replace bel2 := Lib.hid (Bx.bel_set (k := w.heap.size + 1 + 1) (o := 6) (x := .bool c.agr) (by omega) bel2.out)
  replace M0 := Lib.hid (M0.out.set 6 (.bool c.agr))
  replace M0 := Lib.hid (M0.out.of (m := bdl b9) (by rw [H9.out]; rfl))
  go_wp2_with (first | ((with_reducible refine bd_load ?_ ?_ (w.heap.size + 1 + 1) ?_ b9 ?_ ?_); (· rfl); (· rfl); (· rfl); (· exact M0.out.blk)) | ((with_reducible refine bd_store ?_ ?_ (w.heap.size + 1) b9 ?_ ?_ (bdl Bd.zero) ?_ ?_ ?_); (· rfl); (· rfl); (· rfl); (· rfl); (· rfl); (· exact R2.out.own)))
  exact bodyPost_ret (v := bdv b9) (bd_result Try.results5 rfl (R2.out.full (m := bdl b9) rfl).blk) rfl ⟨rfl, Bx.bel_put_at (k := w.heap.size + 1) (bdl b9) 0 (by omega) bel2.out⟩

set_option maxRecDepth 40000 in
set_option maxHeartbeats 8000000 in
theorem msg_asks (c : Cd) (hr : c.rap = true) (hp : c.png = true) (w : World) : Calls Try.prog 5 #[cdv c] w fun e w' => e = .returned (bdv ⟨2, decide (0 < c.chg), (c.role == 3), c.role, decide (1 ≤ c.st), (c.st == 2), c.agr, false, c.v, c.t⟩) ∧ Below w.heap.size w w' := by
  obtain ⟨b9, hb9⟩ : ∃ b9 : Bd, b9 = ⟨2, decide (0 < c.chg), (c.role == 3), c.role, decide (1 ≤ c.st), (c.st == 2), c.agr, false, c.v, c.t⟩ := ⟨_, rfl⟩
  have H9 := Lib.hid hb9
  rw [← hb9]
  clear hb9
  have hp' := Lib.hid hp
  clear hp
  have B0 := Lib.hid ((Bx.Fre.new w (cdl c) 28).more (bdo Bd.zero))
  have R0 := Lib.hid (Bx.Fre.new_at (W := w.alloc (cdo c)) (k := w.heap.size + 1) (bdl Bd.zero) 30 (by simp))
  have bel := Lib.hid (Bx.bel_box (Bx.box_below w (cdo c)) (bdo Bd.zero))
  have M0 := Lib.hid (Bx.Fre.new_at (W := (w.alloc (cdo c)).alloc (bdo Bd.zero)) (k := w.heap.size + 1 + 1) (bdl ⟨0, decide (0 < c.chg), false, 0, false, false, false, false, c.v, c.t⟩) 30 (by simp))
  have B2 := Lib.hid (B0.out.more (bdo ⟨0, decide (0 < c.chg), false, 0, false, false, false, false, c.v, c.t⟩))
  have R2 := Lib.hid (R0.out.more (bdo ⟨0, decide (0 < c.chg), false, 0, false, false, false, false, c.v, c.t⟩))
  have bel2 := Lib.hid (Bx.bel_box bel.out (bdo ⟨0, decide (0 < c.chg), false, 0, false, false, false, false, c.v, c.t⟩))
  have a27 := B0.out.at 27 rfl
  have a5 := B0.out.at 5 rfl
  have a6 := B0.out.at 6 rfl
  have a7 := B0.out.at 7 rfl
  have a8 := B0.out.at 8 rfl
  have a9 := B0.out.at 9 rfl
  have a10 := B0.out.at 10 rfl
  have a11 := B0.out.at 11 rfl
  have a12 := B0.out.at 12 rfl
  have r21 := B2.out.at 21 rfl
  rw [hr] at r21
  clear hr
  go_enter Try.func5, Try.ntmps5
  go_wp2_with (first | ((with_reducible refine bd_fresh ?_ ?_ (w.heap.size + 1 + 1) ⟨0, decide (0 < c.chg), false, 0, false, false, false, false, c.v, c.t⟩ ?_ ?_ ((w.alloc (cdo c)).alloc (bdo Bd.zero)) (bdl Bd.zero) ?_ ?_ ?_ ?_); (· rfl); (· rfl); (· rfl); (· rfl); (· rfl); (· rfl); (· first | rfl | (simp; done))))
  generalize ((w.alloc (cdo c)).alloc (bdo Bd.zero)).alloc (bdo ⟨0, decide (0 < c.chg), false, 0, false, false, false, false, c.v, c.t⟩) = w2 at *
  clear r21 B0 R0 bel a27 a5 a6 a7 a8 a9 a10 a11 a12
  have z0 := M0.out.at 0 rfl
  have f0 := M0.out.2.2 0
  have z3 := M0.out.at 3 rfl
  have f3 := M0.out.2.2 3
  refine wp_region_noPanic ?_
  refine wp_region_held_drew (S := fun w' => w'.cell? ⟨w.heap.size, 13, none⟩ = some (.int .i64 c.role)) (by kernel_rfl) (by exact B2.out.at 13 rfl) (fun hHeld => ?_)
  refine wpAnyH_take (i := 0) (oi := ?o0) (v := ?v0) ?hi0 (by kernel_rfl) (by kernel_rfl) (by kernel_rfl) (fun _ _ _ h => h) ?y0 (by assumption) ?r0
  case hi0 => (simp only [List.getElem?_toArray, List.getElem?_cons_zero]; rfl)
  case y0 => (refine Or.inl ⟨by rfl, ?_⟩; intro w' hSw; (try dsimp only at hSw); go_simp; (try with_reducible rfl))
  try simp only [Act.put, List.setIfInBounds_toArray, List.set_cons_zero, List.set_cons_succ]
  refine wpAnyH_take (i := 1) (oi := ?o1) (v := ?v1) ?hi1 (by kernel_rfl) (by kernel_rfl) (by kernel_rfl) (fun _ _ _ h => h) ?y1 (by assumption) ?r1
  case hi1 => (simp only [List.getElem?_toArray, List.getElem?_cons_succ, List.getElem?_cons_zero]; rfl)
  case y1 => (refine Or.inl ⟨by rfl, ?_⟩; intro w' hSw; (try dsimp only at hSw); go_simp; (try with_reducible rfl))
  try simp only [Act.put, List.setIfInBounds_toArray, List.set_cons_zero, List.set_cons_succ]
  refine wpAnyH_take (i := 2) (oi := ?o2) (v := ?v2) ?hi2 (by kernel_rfl) (by kernel_rfl) (by kernel_rfl) (fun _ _ _ h => h) ?y2 (by assumption) ?r2
  case hi2 => (simp only [List.getElem?_toArray, List.getElem?_cons_succ, List.getElem?_cons_zero]; rfl)
  case y2 => (refine Or.inl ⟨by rfl, ?_⟩; intro w' hSw; (try dsimp only at hSw); go_simp; (try with_reducible rfl))
  try simp only [Act.put, List.setIfInBounds_toArray, List.set_cons_zero, List.set_cons_succ]
  refine wpAnyH_ready (rs := [3]) (by kernel_rfl) (by simp) ?_
  refine AllReadyH.cons (o := ?o3) ?hi3 ?hst3 AllReadyH.nil
  case hi3 => (simp only [List.getElem?_toArray, List.getElem?_cons_succ, List.getElem?_cons_zero]; rfl)
  intro K hK
  go_simp
  refine hK.out _ _ (by exact (by first | exact Bx.cell_other (by omega) hHeld | exact Bx.cell_other_drew (by omega) hHeld)) (fun hNew => ?_)
  clear hHeld
  have hHeld := hNew
  clear hNew hK K
  replace bel2 := Lib.hid (Bx.bel_set (k := w.heap.size + 1 + 1) (o := 0) (x := .int .i64 2) (by omega) bel2.out)
  replace M0 := Lib.hid (M0.out.set 0 (.int .i64 2))
  replace B2 := Lib.hid (B2.out.other (k' := w.heap.size + 1 + 1) (o := 0) (x := .int .i64 2) (by omega))
  replace R2 := Lib.hid (R2.out.other (k' := w.heap.size + 1 + 1) (o := 0) (x := .int .i64 2) (by omega))
  refine wpAnyH_take (i := 4) (oi := ?o4) (v := ?v4) ?hi4 (by kernel_rfl) (by kernel_rfl) (by kernel_rfl) (fun _ _ _ h => h) ?y4 (by assumption) ?r4
  case hi4 => (simp only [List.getElem?_toArray, List.getElem?_cons_succ, List.getElem?_cons_zero]; rfl)
  case y4 => (refine Or.inl ⟨by rfl, ?_⟩; intro w' hSw; (try dsimp only at hSw); go_simp; (try with_reducible rfl))
  try simp only [Act.put, List.setIfInBounds_toArray, List.set_cons_zero, List.set_cons_succ]
  refine wpAnyH_ready (rs := [5]) (by kernel_rfl) (by simp) ?_
  refine AllReadyH.cons (o := ?o5) ?hi5 ?hst5 AllReadyH.nil
  case hi5 => (simp only [List.getElem?_toArray, List.getElem?_cons_succ, List.getElem?_cons_zero]; rfl)
  intro K hK
  go_simp
  refine hK.out _ _ (by exact (by first | exact Bx.cell_other (by omega) hHeld | exact Bx.cell_other_drew (by omega) hHeld)) (fun hNew => ?_)
  clear hHeld
  have hHeld := hNew
  clear hNew hK K
  replace bel2 := Lib.hid (Bx.bel_set (k := w.heap.size + 1 + 1) (o := 3) (x := .int .i64 c.role) (by omega) bel2.out)
  replace M0 := Lib.hid (M0.out.set 3 (.int .i64 c.role))
  replace B2 := Lib.hid (B2.out.other (k' := w.heap.size + 1 + 1) (o := 3) (x := .int .i64 c.role) (by omega))
  replace R2 := Lib.hid (R2.out.other (k' := w.heap.size + 1 + 1) (o := 3) (x := .int .i64 c.role) (by omega))
  replace bel2 := Lib.hid (Bx.bel_drewn bel2.out)
  replace M0 := Lib.hid (M0.out.drew)
  replace B2 := Lib.hid (B2.out.drew)
  replace R2 := Lib.hid (R2.out.drew)
  refine wpAnyH_done (by kernel_rfl) ?_ _
  refine NoPanic.normal ?_
  clear z0 f0 z3 f3
  replace M0 := Lib.hid (M0.out.of (m := bdl ⟨2, decide (0 < c.chg), false, c.role, false, false, false, false, c.v, c.t⟩) rfl)
  generalize ((w2.setCell ⟨w.heap.size + 1 + 1, 0, none⟩ (.int .i64 2)).setCell ⟨w.heap.size + 1 + 1, 3, none⟩ (.int .i64 c.role)).drew = w3 at *
  clear hHeld
  have a14 := B2.out.at 14 rfl
  have a17 := B2.out.at 17 rfl
  have a13 := B2.out.at 13 rfl
  have a16 := B2.out.at 16 rfl
  have z4 := M0.out.at 4 rfl
  have f4 := M0.out.2.2 4
  have z5 := M0.out.at 5 rfl
  have f5 := M0.out.2.2 5
  have z2 := M0.out.at 2 rfl
  have f2 := M0.out.2.2 2
  have z6 := M0.out.at 6 rfl
  have f6 := M0.out.2.2 6
  rw [hp'.out] at a17
  replace B2 := Lib.hid (B2.out.other (k' := w.heap.size + 1 + 1) (o := 4) (x := .bool (decide (1 ≤ c.st))) (by omega))
  replace R2 := Lib.hid (R2.out.other (k' := w.heap.size + 1 + 1) (o := 4) (x := .bool (decide (1 ≤ c.st))) (by omega))
  replace bel2 := Lib.hid (Bx.bel_set (k := w.heap.size + 1 + 1) (o := 4) (x := .bool (decide (1 ≤ c.st))) (by omega) bel2.out)
  replace M0 := Lib.hid (M0.out.set 4 (.bool (decide (1 ≤ c.st))))
  replace B2 := Lib.hid (B2.out.other (k' := w.heap.size + 1 + 1) (o := 5) (x := .bool (c.st == 2)) (by omega))
  replace R2 := Lib.hid (R2.out.other (k' := w.heap.size + 1 + 1) (o := 5) (x := .bool (c.st == 2)) (by omega))
  replace bel2 := Lib.hid (Bx.bel_set (k := w.heap.size + 1 + 1) (o := 5) (x := .bool (c.st == 2)) (by omega) bel2.out)
  replace M0 := Lib.hid (M0.out.set 5 (.bool (c.st == 2)))
  replace B2 := Lib.hid (B2.out.other (k' := w.heap.size + 1 + 1) (o := 2) (x := .bool (c.role == 3)) (by omega))
  replace R2 := Lib.hid (R2.out.other (k' := w.heap.size + 1 + 1) (o := 2) (x := .bool (c.role == 3)) (by omega))
  replace bel2 := Lib.hid (Bx.bel_set (k := w.heap.size + 1 + 1) (o := 2) (x := .bool (c.role == 3)) (by omega) bel2.out)
  replace M0 := Lib.hid (M0.out.set 2 (.bool (c.role == 3)))
  replace B2 := Lib.hid (B2.out.other (k' := w.heap.size + 1 + 1) (o := 6) (x := .bool c.agr) (by omega))
  replace R2 := Lib.hid (R2.out.other (k' := w.heap.size + 1 + 1) (o := 6) (x := .bool c.agr) (by omega))
  replace bel2 := Lib.hid (Bx.bel_set (k := w.heap.size + 1 + 1) (o := 6) (x := .bool c.agr) (by omega) bel2.out)
  replace M0 := Lib.hid (M0.out.set 6 (.bool c.agr))
  replace M0 := Lib.hid (M0.out.of (m := bdl b9) (by rw [H9.out]; rfl))
  go_wp2_with (first | ((with_reducible refine bd_load ?_ ?_ (w.heap.size + 1 + 1) ?_ b9 ?_ ?_); (· rfl); (· rfl); (· rfl); (· exact M0.out.blk)) | ((with_reducible refine bd_store ?_ ?_ (w.heap.size + 1) b9 ?_ ?_ (bdl Bd.zero) ?_ ?_ ?_); (· rfl); (· rfl); (· rfl); (· rfl); (· rfl); (· exact R2.out.own)))
  exact bodyPost_ret (v := bdv b9) (bd_result Try.results5 rfl (R2.out.full (m := bdl b9) rfl).blk) rfl ⟨rfl, Bx.bel_put_at (k := w.heap.size + 1) (bdl b9) 0 (by omega) bel2.out⟩

theorem msg_any (c : Cd) (w : World) : Calls Try.prog 5 #[cdv c] w fun e w' => e = .returned (bdv (msgB c)) ∧ Below w.heap.size w w' := by
  unfold msgB
  rcases Bool.eq_false_or_eq_true c.rap with hr | hr
  · rw [if_pos hr]
    rcases Bool.eq_false_or_eq_true c.png with hp | hp
    · have h := msg_asks c hr hp w
      rw [hp]
      exact h
    · have h := msg_plain c hr hp w
      rw [hp]
      exact h
  · rw [if_neg (by simp [hr])]
    exact msg_old c hr w

set_option maxRecDepth 40000 in
set_option maxHeartbeats 8000000 in
theorem prot_wait (c : Cd) (b : Bd) (hs : ¬ c.sen ≤ 0) (w : World) : Calls Try.prog 14 #[cdv c, bdv b] w fun e w' => e = .returned (cdv { c with edge := false, qui := 3 }) ∧ Below w.heap.size w w' := by
  have hs' : decide (c.sen ≤ 0) = false := by simpa using hs
  have hs2 : ¬ c.sen ≤ 0 := hs
  clear hs
  have B0 := Lib.hid (((Bx.Fre.new w (cdl { c with edge := false, qui := 3 }) 28).more (bdo b)).more (cdo Cd.zero))
  have B1 := Lib.hid ((Bx.Fre.new_at (W := w.alloc (cdo { c with edge := false, qui := 3 })) (k := w.heap.size + 1) (bdl b) 30 (by simp)).more (cdo Cd.zero))
  have R0 := Lib.hid (Bx.Fre.new_at (W := (w.alloc (cdo { c with edge := false, qui := 3 })).alloc (bdo b)) (k := w.heap.size + 1 + 1) (cdl Cd.zero) 28 (by simp))
  have bel := Lib.hid (Bx.bel_box (Bx.bel_box (Bx.box_below w (cdo { c with edge := false, qui := 3 })) (bdo b)) (cdo Cd.zero))
  go_enter Try.func14, Try.ntmps14
  go_wp2
  generalize ((w.alloc (cdo { c with edge := false, qui := 3 })).alloc (bdo b)).alloc (cdo Cd.zero) = w2 at *
  refine wp_region_noPanic ?_
  refine wp_region_held_drew (S := fun w' => Bx.Blk w' (w.heap.size + 1) (bdl b) ∧ w'.cell? ⟨w.heap.size, 29, none⟩ = some (.int .i64 c.sen) ∧ w'.cell? ⟨w.heap.size, 21, none⟩ = some (.bool c.rap)) (by kernel_rfl) (by exact ⟨B1.out.blk, B0.out.at 29 rfl, B0.out.at 21 rfl⟩) (fun hHeld => ?_)
  replace bel := Lib.hid (Bx.bel_drewn bel.out)
  replace B0 := Lib.hid (B0.out.drew)
  replace B1 := Lib.hid (B1.out.drew)
  replace R0 := Lib.hid (R0.out.drew)
  refine wpAnyH_take (i := 0) (oi := ?o0) (v := ?v0) ?hi0 (by kernel_rfl) (by kernel_rfl) (by kernel_rfl) (fun _ _ _ h => h) ?y0 (by assumption) ?r0
  case hi0 => (simp only [List.getElem?_toArray, List.getElem?_cons_zero]; rfl)
  case y0 => (refine Or.inl ⟨by rfl, ?_⟩; intro w' hSw; (try dsimp only at hSw); go_simp; (try with_reducible rfl))
  try simp only [Act.put, List.setIfInBounds_toArray, List.set_cons_zero, List.set_cons_succ]
  refine wpAnyH_take (i := 1) (oi := ?o1) (v := ?v1) ?hi1 (by kernel_rfl) (by kernel_rfl) (by kernel_rfl) (fun _ _ _ h => h) ?y1 (by assumption) ?r1
  case hi1 => (simp only [List.getElem?_toArray, List.getElem?_cons_succ, List.getElem?_cons_zero]; rfl)
  case y1 => (refine Or.inl ⟨by rfl, ?_⟩; intro w' hSw; (try dsimp only at hSw); go_simp; (try with_reducible rfl))
  try simp only [Act.put, List.setIfInBounds_toArray, List.set_cons_zero, List.set_cons_succ]
  refine wpAnyH_take (i := 2) (oi := ?o2) (v := ?v2) ?hi2 (by kernel_rfl) (by kernel_rfl) (by kernel_rfl) (fun _ _ _ h => h) ?y2 (by assumption) ?r2
  case hi2 => (simp only [List.getElem?_toArray, List.getElem?_cons_succ, List.getElem?_cons_zero]; rfl)
  case y2 => (refine Or.inl ⟨by rfl, ?_⟩; intro w' hSw; (try dsimp only at hSw); go_simp; (try with_reducible rfl))
  try simp only [Act.put, List.setIfInBounds_toArray, List.set_cons_zero, List.set_cons_succ]
  refine wpAnyH_take (i := 3) (oi := ?o3) (v := ?v3) ?hi3 (by kernel_rfl) (by kernel_rfl) (by kernel_rfl) (fun _ _ _ h => h) ?y3 (by assumption) ?r3
  case hi3 => (simp only [List.getElem?_toArray, List.getElem?_cons_succ, List.getElem?_cons_zero]; rfl)
  case y3 => (refine Or.inl ⟨by rfl, ?_⟩; intro w' hSw; (try dsimp only at hSw); go_simp; (try with_reducible rfl))
  try simp only [Act.put, List.setIfInBounds_toArray, List.set_cons_zero, List.set_cons_succ]
  refine wpAnyH_take (i := 4) (oi := ?o4) (v := undef) ?hi4 (by kernel_rfl) (by kernel_rfl) (by kernel_rfl) (fun _ _ _ h => h) ?y4 (by assumption) ?r4
  case hi4 => (simp only [List.getElem?_toArray, List.getElem?_cons_succ, List.getElem?_cons_zero]; rfl)
  case y4 => exact Or.inr ⟨by rfl, rfl⟩
  try simp only [Act.put, List.setIfInBounds_toArray, List.set_cons_zero, List.set_cons_succ]
  refine wpAnyH_take (i := 5) (oi := ?o5) (v := undef) ?hi5 (by kernel_rfl) (by kernel_rfl) (by kernel_rfl) (fun _ _ _ h => h) ?y5 (by assumption) ?r5
  case hi5 => (simp only [List.getElem?_toArray, List.getElem?_cons_succ, List.getElem?_cons_zero]; rfl)
  case y5 => exact Or.inr ⟨by rfl, rfl⟩
  try simp only [Act.put, List.setIfInBounds_toArray, List.set_cons_zero, List.set_cons_succ]
  refine wpAnyH_take (i := 6) (oi := ?o6) (v := undef) ?hi6 (by kernel_rfl) (by kernel_rfl) (by kernel_rfl) (fun _ _ _ h => h) ?y6 (by assumption) ?r6
  case hi6 => (simp only [List.getElem?_toArray, List.getElem?_cons_succ, List.getElem?_cons_zero]; rfl)
  case y6 => exact Or.inr ⟨by rfl, rfl⟩
  try simp only [Act.put, List.setIfInBounds_toArray, List.set_cons_zero, List.set_cons_succ]
  refine wpAnyH_take (i := 7) (oi := ?o7) (v := undef) ?hi7 (by kernel_rfl) (by kernel_rfl) (by kernel_rfl) (fun _ _ _ h => h) ?y7 (by assumption) ?r7
  case hi7 => (simp only [List.getElem?_toArray, List.getElem?_cons_succ, List.getElem?_cons_zero]; rfl)
  case y7 => exact Or.inr ⟨by rfl, rfl⟩
  try simp only [Act.put, List.setIfInBounds_toArray, List.set_cons_zero, List.set_cons_succ]
  refine wpAnyH_take (i := 8) (oi := ?o8) (v := undef) ?hi8 (by kernel_rfl) (by kernel_rfl) (by kernel_rfl) (fun _ _ _ h => h) ?y8 (by assumption) ?r8
  case hi8 => (simp only [List.getElem?_toArray, List.getElem?_cons_succ, List.getElem?_cons_zero]; rfl)
  case y8 => exact Or.inr ⟨by rfl, rfl⟩
  try simp only [Act.put, List.setIfInBounds_toArray, List.set_cons_zero, List.set_cons_succ]
  refine wpAnyH_take (i := 9) (oi := ?o9) (v := ?v9) ?hi9 (by kernel_rfl) (by kernel_rfl) (by kernel_rfl) (fun _ _ _ h => h) ?y9 (by assumption) ?r9
  case hi9 => (simp only [List.getElem?_toArray, List.getElem?_cons_succ, List.getElem?_cons_zero]; rfl)
  case y9 => (refine Or.inl ⟨by rfl, ?_⟩; intro w' hSw; (try dsimp only at hSw); go_simp; (try with_reducible rfl))
  try simp only [Act.put, List.setIfInBounds_toArray, List.set_cons_zero, List.set_cons_succ]
  refine wpAnyH_done (by kernel_rfl) ?_ _
  refine NoPanic.normal ?_
  clear hHeld
  generalize w2.drew = w3 at *
  go_wp2_with (first | ((with_reducible refine cd_load ?_ ?_ (w.heap.size) ?_ { c with edge := false, qui := 3 } ?_ ?_); (· rfl); (· rfl); (· rfl); (· exact B0.out.blk)) | ((with_reducible refine cd_store ?_ ?_ (w.heap.size + 1 + 1) { c with edge := false, qui := 3 } ?_ ?_ (cdl Cd.zero) ?_ ?_ ?_); (· rfl); (· rfl); (· rfl); (· rfl); (· rfl); (· exact R0.out.own)))
  exact bodyPost_ret (v := cdv { c with edge := false, qui := 3 }) (cd_result Try.results14 rfl (R0.out.full (m := cdl { c with edge := false, qui := 3 }) rfl).blk) rfl ⟨rfl, Bx.bel_put_at (k := w.heap.size + 1 + 1) (cdl { c with edge := false, qui := 3 }) 0 (by omega) bel.out⟩

set_option maxRecDepth 40000 in
set_option maxHeartbeats 8000000 in
theorem prot_same (c : Cd) (b : Bd) (r : Bool) (HR : Hid (∀ w, Calls Try.prog 10 #[bdv b] w fun e w' => e = .returned (.bool r) ∧ Below w.heap.size w w')) (hs : c.sen ≤ 0) (hq : c.rap = r) (w : World) : Calls Try.prog 14 #[cdv c, bdv b] w fun e w' => e = .returned (cdv { c with edge := false, qui := 3 }) ∧ Below w.heap.size w w' := by
  have hs' : decide (c.sen ≤ 0) = true := by simpa using hs
  have hs2 : c.sen ≤ 0 := hs
  clear hs
  have hq' : (c.rap == r) = true := by rw [hq]; simp
  clear hq
  have B0 := Lib.hid (((Bx.Fre.new w (cdl { c with edge := false, qui := 3 }) 28).more (bdo b)).more (cdo Cd.zero))
  have B1 := Lib.hid ((Bx.Fre.new_at (W := w.alloc (cdo { c with edge := false, qui := 3 })) (k := w.heap.size + 1) (bdl b) 30 (by simp)).more (cdo Cd.zero))
  have R0 := Lib.hid (Bx.Fre.new_at (W := (w.alloc (cdo { c with edge := false, qui := 3 })).alloc (bdo b)) (k := w.heap.size + 1 + 1) (cdl Cd.zero) 28 (by simp))
  have bel := Lib.hid (Bx.bel_box (Bx.bel_box (Bx.box_below w (cdo { c with edge := false, qui := 3 })) (bdo b)) (cdo Cd.zero))
  go_enter Try.func14, Try.ntmps14
  go_wp2
  generalize ((w.alloc (cdo { c with edge := false, qui := 3 })).alloc (bdo b)).alloc (cdo Cd.zero) = w2 at *
  refine wp_region_noPanic ?_
  refine wp_region_held_drew (S := fun w' => Bx.Blk w' (w.heap.size + 1) (bdl b) ∧ w'.cell? ⟨w.heap.size, 29, none⟩ = some (.int .i64 c.sen) ∧ w'.cell? ⟨w.heap.size, 21, none⟩ = some (.bool c.rap)) (by kernel_rfl) (by exact ⟨B1.out.blk, B0.out.at 29 rfl, B0.out.at 21 rfl⟩) (fun hHeld => ?_)
  replace bel := Lib.hid (Bx.bel_drewn bel.out)
  replace B0 := Lib.hid (B0.out.drew)
  replace B1 := Lib.hid (B1.out.drew)
  replace R0 := Lib.hid (R0.out.drew)
  refine wpAnyH_take (i := 0) (oi := ?o0) (v := ?v0) ?hi0 (by kernel_rfl) (by kernel_rfl) (by kernel_rfl) (fun _ _ _ h => h) ?y0 (by assumption) ?r0
  case hi0 => (simp only [List.getElem?_toArray, List.getElem?_cons_zero]; rfl)
  case y0 => (refine Or.inl ⟨by rfl, ?_⟩; intro w' hSw; (try dsimp only at hSw); go_simp; (try with_reducible rfl))
  try simp only [Act.put, List.setIfInBounds_toArray, List.set_cons_zero, List.set_cons_succ]
  refine wpAnyH_take (i := 1) (oi := ?o1) (v := ?v1) ?hi1 (by kernel_rfl) (by kernel_rfl) (by kernel_rfl) (fun _ _ _ h => h) ?y1 (by assumption) ?r1
  case hi1 => (simp only [List.getElem?_toArray, List.getElem?_cons_succ, List.getElem?_cons_zero]; rfl)
  case y1 => (refine Or.inl ⟨by rfl, ?_⟩; intro w' hSw; (try dsimp only at hSw); go_simp; (try with_reducible rfl))
  try simp only [Act.put, List.setIfInBounds_toArray, List.set_cons_zero, List.set_cons_succ]
  refine wpAnyH_take (i := 2) (oi := ?o2) (v := ?v2) ?hi2 (by kernel_rfl) (by kernel_rfl) (by kernel_rfl) (fun _ _ _ h => h) ?y2 (by assumption) ?r2
  case hi2 => (simp only [List.getElem?_toArray, List.getElem?_cons_succ, List.getElem?_cons_zero]; rfl)
  case y2 => (refine Or.inl ⟨by rfl, ?_⟩; intro w' hSw; (try dsimp only at hSw); go_simp; (try with_reducible rfl))
  try simp only [Act.put, List.setIfInBounds_toArray, List.set_cons_zero, List.set_cons_succ]
  refine wpAnyH_take (i := 3) (oi := ?o3) (v := ?v3) ?hi3 (by kernel_rfl) (by kernel_rfl) (by kernel_rfl) (fun _ _ _ h => h) ?y3 (by assumption) ?r3
  case hi3 => (simp only [List.getElem?_toArray, List.getElem?_cons_succ, List.getElem?_cons_zero]; rfl)
  case y3 => (refine Or.inl ⟨by rfl, ?_⟩; intro w' hSw; (try dsimp only at hSw); go_simp; (try with_reducible rfl))
  try simp only [Act.put, List.setIfInBounds_toArray, List.set_cons_zero, List.set_cons_succ]
  refine wpAnyH_take (i := 4) (oi := ?o4) (v := ?v4) ?hi4 (by kernel_rfl) (by kernel_rfl) (by kernel_rfl) (fun _ _ _ h => h) ?y4 (by assumption) ?r4
  case hi4 => (simp only [List.getElem?_toArray, List.getElem?_cons_succ, List.getElem?_cons_zero]; rfl)
  case y4 => (refine Or.inl ⟨by rfl, ?_⟩; intro w' hSw; (try dsimp only at hSw); go_simp; (try with_reducible rfl))
  try simp only [Act.put, List.setIfInBounds_toArray, List.set_cons_zero, List.set_cons_succ]
  refine wpAnyH_take (i := 5) (oi := ?o5) (v := ?v5) ?hi5 (by kernel_rfl) (by kernel_rfl) (by kernel_rfl) (fun _ _ _ h => h) ?y5 (by assumption) ?r5
  case hi5 => (simp only [List.getElem?_toArray, List.getElem?_cons_succ, List.getElem?_cons_zero]; rfl)
  case y5 => (refine Or.inl ⟨by rfl, ?_⟩; intro w' hSw; (try dsimp only at hSw); go_simp; (try with_reducible rfl))
  try simp only [Act.put, List.setIfInBounds_toArray, List.set_cons_zero, List.set_cons_succ]
  refine wpAnyH_take (i := 6) (oi := ?o6) (v := bdv b) ?hi6 (by kernel_rfl) (by kernel_rfl) (by kernel_rfl) (fun _ _ _ h => h) ?y6 (by assumption) ?r6
  case hi6 => (simp only [List.getElem?_toArray, List.getElem?_cons_succ, List.getElem?_cons_zero]; rfl)
  case y6 => (refine bd_yields rfl rfl (w.heap.size + 1) rfl b ?_; intro w' hS; exact hS.1)
  try simp only [Act.put, List.setIfInBounds_toArray, List.set_cons_zero, List.set_cons_succ]
  refine wpAnyH_ready (rs := [7]) (by kernel_rfl) (by simp) ?_
  refine AllReadyH.cons (o := ?o7) ?hi7 ?hst7 AllReadyH.nil
  case hi7 => (simp only [List.getElem?_toArray, List.getElem?_cons_succ, List.getElem?_cons_zero]; rfl)
  intro K hK
  go_simp
  (go_at_call 10; (with_reducible refine (HR.out _).mono ?_); rintro e w1 ⟨rfl, hb1⟩)
  go_wp2_with fail
  refine hK.out _ _ ⟨Bx.Blk.keep hHeld.1 hb1, Bx.keep_cell hb1 hHeld.2.1, Bx.keep_cell hb1 hHeld.2.2⟩ (fun hNew => ?_)
  clear hHeld
  have hHeld := hNew
  clear hNew hK K
  replace bel := Lib.hid (Bx.then_below bel.out hb1)
  replace B0 := Lib.hid (B0.out.keep hb1)
  replace B1 := Lib.hid (B1.out.keep hb1)
  replace R0 := Lib.hid (R0.out.keep hb1)
  clear hb1
  refine wpAnyH_take (i := 8) (oi := ?o8) (v := ?v8) ?hi8 (by kernel_rfl) (by kernel_rfl) (by kernel_rfl) (fun _ _ _ h => h) ?y8 (by assumption) ?r8
  case hi8 => (simp only [List.getElem?_toArray, List.getElem?_cons_succ, List.getElem?_cons_zero]; rfl)
  case y8 => (refine Or.inl ⟨by rfl, ?_⟩; intro w' hSw; (try dsimp only at hSw); go_simp; (try with_reducible rfl))
  try simp only [Act.put, List.setIfInBounds_toArray, List.set_cons_zero, List.set_cons_succ]
  refine wpAnyH_take (i := 9) (oi := ?o9) (v := ?v9) ?hi9 (by kernel_rfl) (by kernel_rfl) (by kernel_rfl) (fun _ _ _ h => h) ?y9 (by assumption) ?r9
  case hi9 => (simp only [List.getElem?_toArray, List.getElem?_cons_succ, List.getElem?_cons_zero]; rfl)
  case y9 => (refine Or.inl ⟨by rfl, ?_⟩; intro w' hSw; (try dsimp only at hSw); go_simp; (try with_reducible rfl))
  try simp only [Act.put, List.setIfInBounds_toArray, List.set_cons_zero, List.set_cons_succ]
  refine wpAnyH_done (by kernel_rfl) ?_ _
  refine NoPanic.normal ?_
  clear hHeld
  go_wp2_with (first | ((with_reducible refine cd_load ?_ ?_ (w.heap.size) ?_ { c with edge := false, qui := 3 } ?_ ?_); (· rfl); (· rfl); (· rfl); (· exact B0.out.blk)) | ((with_reducible refine cd_store ?_ ?_ (w.heap.size + 1 + 1) { c with edge := false, qui := 3 } ?_ ?_ (cdl Cd.zero) ?_ ?_ ?_); (· rfl); (· rfl); (· rfl); (· rfl); (· rfl); (· exact R0.out.own)))
  exact bodyPost_ret (v := cdv { c with edge := false, qui := 3 }) (cd_result Try.results14 rfl (R0.out.full (m := cdl { c with edge := false, qui := 3 }) rfl).blk) rfl ⟨rfl, Bx.bel_put_at (k := w.heap.size + 1 + 1) (cdl { c with edge := false, qui := 3 }) 0 (by omega) bel.out⟩

set_option maxRecDepth 40000 in
set_option maxHeartbeats 8000000 in
theorem prot_turn (c : Cd) (b : Bd) (r : Bool) (HR : Hid (∀ w, Calls Try.prog 10 #[bdv b] w fun e w' => e = .returned (.bool r) ∧ Below w.heap.size w w')) (hs : c.sen ≤ 0) (hq : ¬ c.rap = r) (w : World) : Calls Try.prog 14 #[cdv c, bdv b] w fun e w' => e = .returned (cdv { c with edge := false, qui := 3, rap := r, sen := 3 }) ∧ Below w.heap.size w w' := by
  have hs' : decide (c.sen ≤ 0) = true := by simpa using hs
  have hs2 : c.sen ≤ 0 := hs
  clear hs
  have hq' : (c.rap == r) = false := by simpa using hq
  clear hq
  have B0 := Lib.hid (((Bx.Fre.new w (cdl { c with edge := false, qui := 3 }) 28).more (bdo b)).more (cdo Cd.zero))
  have B1 := Lib.hid ((Bx.Fre.new_at (W := w.alloc (cdo { c with edge := false, qui := 3 })) (k := w.heap.size + 1) (bdl b) 30 (by simp)).more (cdo Cd.zero))
  have R0 := Lib.hid (Bx.Fre.new_at (W := (w.alloc (cdo { c with edge := false, qui := 3 })).alloc (bdo b)) (k := w.heap.size + 1 + 1) (cdl Cd.zero) 28 (by simp))
  have bel := Lib.hid (Bx.bel_box (Bx.bel_box (Bx.box_below w (cdo { c with edge := false, qui := 3 })) (bdo b)) (cdo Cd.zero))
  go_enter Try.func14, Try.ntmps14
  go_wp2
  generalize ((w.alloc (cdo { c with edge := false, qui := 3 })).alloc (bdo b)).alloc (cdo Cd.zero) = w2 at *
  refine wp_region_noPanic ?_
  refine wp_region_held_drew (S := fun w' => Bx.Blk w' (w.heap.size + 1) (bdl b) ∧ w'.cell? ⟨w.heap.size, 29, none⟩ = some (.int .i64 c.sen) ∧ w'.cell? ⟨w.heap.size, 21, none⟩ = some (.bool c.rap)) (by kernel_rfl) (by exact ⟨B1.out.blk, B0.out.at 29 rfl, B0.out.at 21 rfl⟩) (fun hHeld => ?_)
  replace bel := Lib.hid (Bx.bel_drewn bel.out)
  replace B0 := Lib.hid (B0.out.drew)
  replace B1 := Lib.hid (B1.out.drew)
  replace R0 := Lib.hid (R0.out.drew)
  refine wpAnyH_take (i := 0) (oi := ?o0) (v := ?v0) ?hi0 (by kernel_rfl) (by kernel_rfl) (by kernel_rfl) (fun _ _ _ h => h) ?y0 (by assumption) ?r0
  case hi0 => (simp only [List.getElem?_toArray, List.getElem?_cons_zero]; rfl)
  case y0 => (refine Or.inl ⟨by rfl, ?_⟩; intro w' hSw; (try dsimp only at hSw); go_simp; (try with_reducible rfl))
  try simp only [Act.put, List.setIfInBounds_toArray, List.set_cons_zero, List.set_cons_succ]
  refine wpAnyH_take (i := 1) (oi := ?o1) (v := ?v1) ?hi1 (by kernel_rfl) (by kernel_rfl) (by kernel_rfl) (fun _ _ _ h => h) ?y1 (by assumption) ?r1
  case hi1 => (simp only [List.getElem?_toArray, List.getElem?_cons_succ, List.getElem?_cons_zero]; rfl)
  case y1 => (refine Or.inl ⟨by rfl, ?_⟩; intro w' hSw; (try dsimp only at hSw); go_simp; (try with_reducible rfl))
  try simp only [Act.put, List.setIfInBounds_toArray, List.set_cons_zero, List.set_cons_succ]
  refine wpAnyH_take (i := 2) (oi := ?o2) (v := ?v2) ?hi2 (by kernel_rfl) (by kernel_rfl) (by kernel_rfl) (fun _ _ _ h => h) ?y2 (by assumption) ?r2
  case hi2 => (simp only [List.getElem?_toArray, List.getElem?_cons_succ, List.getElem?_cons_zero]; rfl)
  case y2 => (refine Or.inl ⟨by rfl, ?_⟩; intro w' hSw; (try dsimp only at hSw); go_simp; (try with_reducible rfl))
  try simp only [Act.put, List.setIfInBounds_toArray, List.set_cons_zero, List.set_cons_succ]
  refine wpAnyH_take (i := 3) (oi := ?o3) (v := ?v3) ?hi3 (by kernel_rfl) (by kernel_rfl) (by kernel_rfl) (fun _ _ _ h => h) ?y3 (by assumption) ?r3
  case hi3 => (simp only [List.getElem?_toArray, List.getElem?_cons_succ, List.getElem?_cons_zero]; rfl)
  case y3 => (refine Or.inl ⟨by rfl, ?_⟩; intro w' hSw; (try dsimp only at hSw); go_simp; (try with_reducible rfl))
  try simp only [Act.put, List.setIfInBounds_toArray, List.set_cons_zero, List.set_cons_succ]
  refine wpAnyH_take (i := 4) (oi := ?o4) (v := ?v4) ?hi4 (by kernel_rfl) (by kernel_rfl) (by kernel_rfl) (fun _ _ _ h => h) ?y4 (by assumption) ?r4
  case hi4 => (simp only [List.getElem?_toArray, List.getElem?_cons_succ, List.getElem?_cons_zero]; rfl)
  case y4 => (refine Or.inl ⟨by rfl, ?_⟩; intro w' hSw; (try dsimp only at hSw); go_simp; (try with_reducible rfl))
  try simp only [Act.put, List.setIfInBounds_toArray, List.set_cons_zero, List.set_cons_succ]
  refine wpAnyH_take (i := 5) (oi := ?o5) (v := ?v5) ?hi5 (by kernel_rfl) (by kernel_rfl) (by kernel_rfl) (fun _ _ _ h => h) ?y5 (by assumption) ?r5
  case hi5 => (simp only [List.getElem?_toArray, List.getElem?_cons_succ, List.getElem?_cons_zero]; rfl)
  case y5 => (refine Or.inl ⟨by rfl, ?_⟩; intro w' hSw; (try dsimp only at hSw); go_simp; (try with_reducible rfl))
  try simp only [Act.put, List.setIfInBounds_toArray, List.set_cons_zero, List.set_cons_succ]
  refine wpAnyH_take (i := 6) (oi := ?o6) (v := bdv b) ?hi6 (by kernel_rfl) (by kernel_rfl) (by kernel_rfl) (fun _ _ _ h => h) ?y6 (by assumption) ?r6
  case hi6 => (simp only [List.getElem?_toArray, List.getElem?_cons_succ, List.getElem?_cons_zero]; rfl)
  case y6 => (refine bd_yields rfl rfl (w.heap.size + 1) rfl b ?_; intro w' hS; exact hS.1)
  try simp only [Act.put, List.setIfInBounds_toArray, List.set_cons_zero, List.set_cons_succ]
  refine wpAnyH_ready (rs := [7]) (by kernel_rfl) (by simp) ?_
  refine AllReadyH.cons (o := ?o7) ?hi7 ?hst7 AllReadyH.nil
  case hi7 => (simp only [List.getElem?_toArray, List.getElem?_cons_succ, List.getElem?_cons_zero]; rfl)
  intro K hK
  go_simp
  (go_at_call 10; (with_reducible refine (HR.out _).mono ?_); rintro e w1 ⟨rfl, hb1⟩)
  go_wp2_with fail
  refine hK.out _ _ ⟨Bx.Blk.keep hHeld.1 hb1, Bx.keep_cell hb1 hHeld.2.1, Bx.keep_cell hb1 hHeld.2.2⟩ (fun hNew => ?_)
  clear hHeld
  have hHeld := hNew
  clear hNew hK K
  replace bel := Lib.hid (Bx.then_below bel.out hb1)
  replace B0 := Lib.hid (B0.out.keep hb1)
  replace B1 := Lib.hid (B1.out.keep hb1)
  replace R0 := Lib.hid (R0.out.keep hb1)
  clear hb1
  refine wpAnyH_take (i := 8) (oi := ?o8) (v := ?v8) ?hi8 (by kernel_rfl) (by kernel_rfl) (by kernel_rfl) (fun _ _ _ h => h) ?y8 (by assumption) ?r8
  case hi8 => (simp only [List.getElem?_toArray, List.getElem?_cons_succ, List.getElem?_cons_zero]; rfl)
  case y8 => (refine Or.inl ⟨by rfl, ?_⟩; intro w' hSw; (try dsimp only at hSw); go_simp; (try with_reducible rfl))
  try simp only [Act.put, List.setIfInBounds_toArray, List.set_cons_zero, List.set_cons_succ]
  refine wpAnyH_take (i := 9) (oi := ?o9) (v := ?v9) ?hi9 (by kernel_rfl) (by kernel_rfl) (by kernel_rfl) (fun _ _ _ h => h) ?y9 (by assumption) ?r9
  case hi9 => (simp only [List.getElem?_toArray, List.getElem?_cons_succ, List.getElem?_cons_zero]; rfl)
  case y9 => (refine Or.inl ⟨by rfl, ?_⟩; intro w' hSw; (try dsimp only at hSw); go_simp; (try with_reducible rfl))
  try simp only [Act.put, List.setIfInBounds_toArray, List.set_cons_zero, List.set_cons_succ]
  refine wpAnyH_done (by kernel_rfl) ?_ _
  refine NoPanic.normal ?_
  clear hHeld
  go_wp2_with (first | ((with_reducible refine bd_load ?_ ?_ (w.heap.size + 1) ?_ b ?_ ?_); (· rfl); (· rfl); (· rfl); (· exact B1.out.blk)))
  refine (HR.out _).mono ?_; rintro e w4 ⟨rfl, hb⟩
  replace B0 := Lib.hid (B0.out.keep hb)
  replace R0 := Lib.hid (R0.out.keep hb)
  replace B1 := Lib.hid (B1.out.keep hb)
  replace bel := Lib.hid (Bx.then_below bel.out hb)
  clear hb
  have a21 := B0.out.at 21 rfl
  have f21 := B0.out.2.2 21
  have a29 := B0.out.at 29 rfl
  have f29 := B0.out.2.2 29
  replace B1 := Lib.hid (B1.out.other (k' := w.heap.size) (o := 21) (x := .bool r) (by omega))
  replace R0 := Lib.hid (R0.out.other (k' := w.heap.size) (o := 21) (x := .bool r) (by omega))
  replace bel := Lib.hid (Bx.bel_set (k := w.heap.size) (o := 21) (x := .bool r) (Nat.le_refl _) bel.out)
  replace B0 := Lib.hid (B0.out.set 21 (.bool r))
  replace B1 := Lib.hid (B1.out.other (k' := w.heap.size) (o := 29) (x := .int .i64 3) (by omega))
  replace R0 := Lib.hid (R0.out.other (k' := w.heap.size) (o := 29) (x := .int .i64 3) (by omega))
  replace bel := Lib.hid (Bx.bel_set (k := w.heap.size) (o := 29) (x := .int .i64 3) (Nat.le_refl _) bel.out)
  replace B0 := Lib.hid (B0.out.set 29 (.int .i64 3))
  replace B0 := Lib.hid (B0.out.of (m := cdl { c with edge := false, qui := 3, rap := r, sen := 3 }) rfl)
  go_wp2_with (first | ((with_reducible refine cd_load ?_ ?_ (w.heap.size) ?_ { c with edge := false, qui := 3, rap := r, sen := 3 } ?_ ?_); (· rfl); (· rfl); (· rfl); (· exact B0.out.blk)) | ((with_reducible refine cd_store ?_ ?_ (w.heap.size + 1 + 1) { c with edge := false, qui := 3, rap := r, sen := 3 } ?_ ?_ (cdl Cd.zero) ?_ ?_ ?_); (· rfl); (· rfl); (· rfl); (· rfl); (· rfl); (· exact R0.out.own)))
  exact bodyPost_ret (v := cdv { c with edge := false, qui := 3, rap := r, sen := 3 }) (cd_result Try.results14 rfl (R0.out.full (m := cdl { c with edge := false, qui := 3, rap := r, sen := 3 }) rfl).blk) rfl ⟨rfl, Bx.bel_put_at (k := w.heap.size + 1 + 1) (cdl { c with edge := false, qui := 3, rap := r, sen := 3 }) 0 (by omega) bel.out⟩

theorem prot_any (c : Cd) (b : Bd) (w : World) : Calls Try.prog 14 #[cdv c, bdv b] w fun e w' => e = .returned (cdv (protC c b)) ∧ Below w.heap.size w w' := by
  have HR := Lib.hid (rapid_any b)
  unfold protC
  generalize rapB b = r at *
  by_cases hs : c.sen ≤ 0
  · by_cases hq : c.rap = r
    · rw [if_neg (fun h => h.2 hq)]
      exact prot_same c b r HR hs hq w
    · rw [if_pos ⟨hs, hq⟩]
      exact prot_turn c b r HR hs hq w
  · rw [if_neg (fun h => hs h.1)]
    exact prot_wait c b hs w

end Rsp
end Go.Proofs.Ytmjkhgmdoilpeaa
