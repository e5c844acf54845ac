/-
  The statement ClockSays: for every port and every number the law ClockSays returns true, and its arguments read afterwards as they read before.
-/
import Derived.Test.YtakbmdamegjdeaaClkD
import Derived.Test.YtakbmdamegjdeaaCrdOpen
import Derived.Test.YtakbmdamegjdeaaFrame
import Derived.Test.YtakbmdamegjdeaaRows
import Derived.Deep.LoopGhost
namespace Go.Proofs.Ytakbmdamegjdeaa
open Go.RowKit
namespace Clk
open Pre Crd Clk

theorem ok_wf {c : Cd} (h : wfCd c) : Ok c := by
  obtain ⟨_, _, _, ht, _, hst, hhrd, hwai, hrcn, hchg, hqui, hsen, hhel⟩ := h
  exact ⟨hst.1, hwai.2, hchg.2, hqui.2, hsen.2, hhel.2, hhrd.2, hrcn.2, ht.2.2.2.2⟩

set_option maxRecDepth 40000 in
set_option maxHeartbeats 8000000 in
theorem walk_says (c : Cd) (hc : Ok c) (n : Int) (hn : n ≤ 9223372036854775807) (w : World) : Calls Try.prog 3 #[cdv c, .int .i64 n] w fun e w' => e = .returned (.bool true) ∧ Below w.heap.size w w' := by
  have T1 : Hid (∀ w, Calls Try.prog 6 #[cdv c] w fun e w' => e = .returned (.tuple #[cdv (tckC c), .bool (tckB c)]) ∧ Below w.heap.size w w') := Lib.hid (tick_any c hc)
  have T2 : Hid (∀ w, Calls Try.prog 7 #[cdv c] w fun e w' => e = .returned (.tuple #[cdv (tckC c), .bool (tckB c)]) ∧ Below w.heap.size w w') := Lib.hid (rtick_any c hc)
  have M1 : Hid (∀ w, Calls Try.prog 8 #[cdv c] w fun e w' => e = .returned (cdv (movC c)) ∧ Below w.heap.size w w') := Lib.hid (moves_any c hc.1)
  have M2 : Hid (∀ w, Calls Try.prog 9 #[cdv c] w fun e w' => e = .returned (cdv (movC c)) ∧ Below w.heap.size w w') := Lib.hid (rmoves_any c hc.1)
  have E1 : Hid (∀ w, Calls Try.prog 10 #[cdv c] w fun e w' => e = .returned (cdv (edgC c)) ∧ Below w.heap.size w w') := Lib.hid (edges_any c)
  have E2 : Hid (∀ w, Calls Try.prog 11 #[cdv c] w fun e w' => e = .returned (cdv (edgC c)) ∧ Below w.heap.size w w') := Lib.hid (redges_any c)
  have N1 : Hid (∀ w, Calls Try.prog 12 #[.int .i64 n] w fun e w' => e = .returned (.int .i64 (dnI n)) ∧ Below w.heap.size w w') := Lib.hid (down_bel n hn)
  have N2 : Hid (∀ w, Calls Try.prog 13 #[.int .i64 n] w fun e w' => e = .returned (.int .i64 (dnI n)) ∧ Below w.heap.size w w') := Lib.hid (rdown_bel n hn)
  have HW := Lib.hid awake_any
  clear hc hn
  generalize tckC c = d at *
  generalize tckB c = b at *
  generalize movC c = m at *
  generalize edgC c = e at *
  generalize dnI n = q at *
  have C2 : Hid (Bx.Fre (w.alloc (cdo c)) w.heap.size (cdl c)) := Lib.hid (Bx.Fre.new w (cdl c) 28)
  have bel := Lib.hid (Bx.box_below w (cdo c))
  go_enter Try.func3, Try.ntmps3
  go_wp2_with (first | ((with_reducible refine cd_load ?_ ?_ (w.heap.size) ?_ c ?_ ?_); (· rfl); (· rfl); (· rfl); (· exact C2.out.blk)))
  refine (T1.out _).mono ?_; rintro e w1 ⟨rfl, hb⟩
  replace C2 := Lib.hid (C2.out.keep hb)
  replace bel := Lib.hid (Bx.then_below bel.out hb)
  clear hb
  replace C2 := Lib.hid (C2.out.more (cdo d))
  have D5 : Hid (Bx.Fre (w1.alloc (cdo d)) w1.heap.size (cdl d)) := Lib.hid (Bx.Fre.new w1 (cdl d) 28)
  replace bel := Lib.hid (Bx.bel_box bel.out (cdo d))
  go_upto_region 2 with (first | ((with_reducible refine cd_fresh ?_ ?_ (w1.heap.size) d ?_ ?_ w1 (cdl Cd.zero) ?_ ?_ ?_ ?_); (· rfl); (· rfl); (· rfl); (· rfl); (· rfl); (· rfl); (· first | rfl | (simp; done))))
  obtain ⟨n5, hn5⟩ : ∃ k, k = w1.heap.size := ⟨_, rfl⟩
  rw [← hn5] at D5 ⊢
  generalize (w1.alloc (cdo d)) = VD5 at *
  clear hn5
  go_wp2_with (first | ((with_reducible refine cd_load ?_ ?_ (w.heap.size) ?_ c ?_ ?_); (· rfl); (· rfl); (· rfl); (· exact C2.out.blk)))
  refine (T2.out _).mono ?_; rintro e w2 ⟨rfl, hb⟩
  replace C2 := Lib.hid (C2.out.keep hb)
  replace D5 := Lib.hid (D5.out.keep hb)
  replace bel := Lib.hid (Bx.then_below bel.out hb)
  clear hb
  replace C2 := Lib.hid (C2.out.more (cdo d))
  replace D5 := Lib.hid (D5.out.more (cdo d))
  have D7 : Hid (Bx.Fre (w2.alloc (cdo d)) w2.heap.size (cdl d)) := Lib.hid (Bx.Fre.new w2 (cdl d) 28)
  replace bel := Lib.hid (Bx.bel_box bel.out (cdo d))
  go_upto_region 3 with (first | ((with_reducible refine cd_fresh ?_ ?_ (w2.heap.size) d ?_ ?_ w2 (cdl Cd.zero) ?_ ?_ ?_ ?_); (· rfl); (· rfl); (· rfl); (· rfl); (· rfl); (· rfl); (· first | rfl | (simp; done))))
  obtain ⟨n7, hn7⟩ : ∃ k, k = w2.heap.size := ⟨_, rfl⟩
  rw [← hn7] at D7 ⊢
  generalize (w2.alloc (cdo d)) = VD7 at *
  clear hn7
  have hsd := cself_at d
  have hgd := fun op a y w => cguard_at op a y d d w
  have hsm := cself_at m
  have hgm := fun op a y w => cguard_at op a y m m w
  have hse := cself_at e
  have hge := fun op a y w => cguard_at op a y e e w
  refine wp_region_noPanic ?_
  refine wp_region_held_drew (S := fun w' => Bx.Blk w' w.heap.size (cdl c) ∧ Bx.Blk w' n5 (cdl d) ∧ Bx.Blk w' n7 (cdl d)) (by kernel_rfl) (by exact ⟨C2.out.blk, D5.out.blk, D7.out.blk⟩) (fun hHeld => ?_)
  replace bel := Lib.hid (Bx.bel_drewn bel.out)
  replace C2 := Lib.hid (C2.out.drew)
  replace D5 := Lib.hid (D5.out.drew)
  replace D7 := Lib.hid (D7.out.drew)
  refine wpAnyH_take (i := 0) (oi := ?oz1x0) (v := cdv d) ?hiz1x0 (by kernel_rfl) (by kernel_rfl) (by kernel_rfl) (fun _ _ _ h => h) ?yz1x0 (by assumption) ?rz1x0
  case hiz1x0 => (simp only [List.getElem?_toArray, List.getElem?_cons_zero]; rfl)
  case yz1x0 => (refine cd_yields rfl rfl (n5) rfl d ?_; intro w' hS; exact hS.2.1)
  try simp only [Act.put, List.setIfInBounds_toArray, List.set_cons_zero, List.set_cons_succ]
  refine wpAnyH_take (i := 1) (oi := ?oz1x1) (v := cdv d) ?hiz1x1 (by kernel_rfl) (by kernel_rfl) (by kernel_rfl) (fun _ _ _ h => h) ?yz1x1 (by assumption) ?rz1x1
  case hiz1x1 => (simp only [List.getElem?_toArray, List.getElem?_cons_succ, List.getElem?_cons_zero]; rfl)
  case yz1x1 => (refine cd_yields rfl rfl (n7) rfl d ?_; intro w' hS; exact hS.2.2)
  try simp only [Act.put, List.setIfInBounds_toArray, List.set_cons_zero, List.set_cons_succ]
  refine wpAnyH_take (i := 2) (oi := ?oz1x2) (v := ?vz1x2) ?hiz1x2 (by kernel_rfl) (by kernel_rfl) (by kernel_rfl) (fun _ _ _ h => h) ?yz1x2 (by assumption) ?rz1x2
  case hiz1x2 => (simp only [List.getElem?_toArray, List.getElem?_cons_succ, List.getElem?_cons_zero]; rfl)
  case yz1x2 => (refine Or.inl ⟨by rfl, ?_⟩; intro w' hSw; (try dsimp only at hSw); go_simp; (try with_reducible rfl))
  try simp only [Act.put, List.setIfInBounds_toArray, List.set_cons_zero, List.set_cons_succ]
  refine wpAnyH_take (i := 3) (oi := ?oz1x3) (v := ?vz1x3) ?hiz1x3 (by kernel_rfl) (by kernel_rfl) (by kernel_rfl) (fun _ _ _ h => h) ?yz1x3 (by assumption) ?rz1x3
  case hiz1x3 => (simp only [List.getElem?_toArray, List.getElem?_cons_succ, List.getElem?_cons_zero]; rfl)
  case yz1x3 => (refine Or.inl ⟨by rfl, ?_⟩; intro w' hSw; (try dsimp only at hSw); go_simp; (try with_reducible rfl))
  try simp only [Act.put, List.setIfInBounds_toArray, List.set_cons_zero, List.set_cons_succ]
  refine wpAnyH_take (i := 4) (oi := ?oz1x4) (v := ?vz1x4) ?hiz1x4 (by kernel_rfl) (by kernel_rfl) (by kernel_rfl) (fun _ _ _ h => h) ?yz1x4 (by assumption) ?rz1x4
  case hiz1x4 => (simp only [List.getElem?_toArray, List.getElem?_cons_succ, List.getElem?_cons_zero]; rfl)
  case yz1x4 => (refine Or.inl ⟨by rfl, ?_⟩; intro w' hSw; (try dsimp only at hSw); go_simp; (try with_reducible rfl))
  try simp only [Act.put, List.setIfInBounds_toArray, List.set_cons_zero, List.set_cons_succ]
  refine wpAnyH_take (i := 5) (oi := ?oz1x5) (v := ?vz1x5) ?hiz1x5 (by kernel_rfl) (by kernel_rfl) (by kernel_rfl) (fun _ _ _ h => h) ?yz1x5 (by assumption) ?rz1x5
  case hiz1x5 => (simp only [List.getElem?_toArray, List.getElem?_cons_succ, List.getElem?_cons_zero]; rfl)
  case yz1x5 => (refine Or.inl ⟨by rfl, ?_⟩; intro w' hSw; (try dsimp only at hSw); go_simp; (try with_reducible rfl))
  try simp only [Act.put, List.setIfInBounds_toArray, List.set_cons_zero, List.set_cons_succ]
  refine wpAnyH_take (i := 6) (oi := ?oz1x6) (v := ?vz1x6) ?hiz1x6 (by kernel_rfl) (by kernel_rfl) (by kernel_rfl) (fun _ _ _ h => h) ?yz1x6 (by assumption) ?rz1x6
  case hiz1x6 => (simp only [List.getElem?_toArray, List.getElem?_cons_succ, List.getElem?_cons_zero]; rfl)
  case yz1x6 => (refine Or.inl ⟨by rfl, ?_⟩; intro w' hSw; (try dsimp only at hSw); go_simp; (try with_reducible rfl))
  try simp only [Act.put, List.setIfInBounds_toArray, List.set_cons_zero, List.set_cons_succ]
  refine wpAnyH_take (i := 7) (oi := ?oz1x7) (v := ?vz1x7) ?hiz1x7 (by kernel_rfl) (by kernel_rfl) (by kernel_rfl) (fun _ _ _ h => h) ?yz1x7 (by assumption) ?rz1x7
  case hiz1x7 => (simp only [List.getElem?_toArray, List.getElem?_cons_succ, List.getElem?_cons_zero]; rfl)
  case yz1x7 => (refine Or.inl ⟨by rfl, ?_⟩; intro w' hSw; (try dsimp only at hSw); go_simp; (try with_reducible rfl))
  try simp only [Act.put, List.setIfInBounds_toArray, List.set_cons_zero, List.set_cons_succ]
  refine wpAnyH_take (i := 8) (oi := ?oz1x8) (v := ?vz1x8) ?hiz1x8 (by kernel_rfl) (by kernel_rfl) (by kernel_rfl) (fun _ _ _ h => h) ?yz1x8 (by assumption) ?rz1x8
  case hiz1x8 => (simp only [List.getElem?_toArray, List.getElem?_cons_succ, List.getElem?_cons_zero]; rfl)
  case yz1x8 => (refine Or.inl ⟨by rfl, ?_⟩; intro w' hSw; (try dsimp only at hSw); go_simp; (try with_reducible rfl))
  try simp only [Act.put, List.setIfInBounds_toArray, List.set_cons_zero, List.set_cons_succ]
  refine wpAnyH_take (i := 9) (oi := ?oz1x9) (v := cdv c) ?hiz1x9 (by kernel_rfl) (by kernel_rfl) (by kernel_rfl) (fun _ _ _ h => h) ?yz1x9 (by assumption) ?rz1x9
  case hiz1x9 => (simp only [List.getElem?_toArray, List.getElem?_cons_succ, List.getElem?_cons_zero]; rfl)
  case yz1x9 => (refine cd_yields rfl rfl (w.heap.size) rfl c ?_; intro w' hS; exact hS.1)
  try simp only [Act.put, List.setIfInBounds_toArray, List.set_cons_zero, List.set_cons_succ]
  refine wpAnyH_take (i := 11) (oi := ?oz1x11) (v := cdv c) ?hiz1x11 (by kernel_rfl) (by kernel_rfl) (by kernel_rfl) (fun _ _ _ h => h) ?yz1x11 (by assumption) ?rz1x11
  case hiz1x11 => (simp only [List.getElem?_toArray, List.getElem?_cons_succ, List.getElem?_cons_zero]; rfl)
  case yz1x11 => (refine cd_yields rfl rfl (w.heap.size) rfl c ?_; intro w' hS; exact hS.1)
  try simp only [Act.put, List.setIfInBounds_toArray, List.set_cons_zero, List.set_cons_succ]
  refine wpAnyH_ready (rs := [10]) (by kernel_rfl) (by simp) ?_
  refine AllReadyH.cons (o := ?oz1x10) ?hiz1x10 ?hstz1x10 AllReadyH.nil
  case hiz1x10 => (simp only [List.getElem?_toArray, List.getElem?_cons_succ, List.getElem?_cons_zero]; rfl)
  intro K hK
  go_simp
  (go_at_call 8; (with_reducible refine (M1.out _).mono ?_); rintro e w11 ⟨rfl, hb11⟩)
  go_wp2_with fail
  refine hK.out _ _ ⟨Bx.Blk.keep hHeld.1 hb11, Bx.Blk.keep hHeld.2.1 hb11, Bx.Blk.keep hHeld.2.2 hb11⟩ (fun hNew => ?_)
  clear hHeld
  have hHeld := hNew
  clear hNew hK K
  replace bel := Lib.hid (Bx.then_below bel.out hb11)
  replace C2 := Lib.hid (C2.out.keep hb11)
  replace D5 := Lib.hid (D5.out.keep hb11)
  replace D7 := Lib.hid (D7.out.keep hb11)
  clear hb11
  refine wpAnyH_ready (rs := [12]) (by kernel_rfl) (by simp) ?_
  refine AllReadyH.cons (o := ?oz1x12) ?hiz1x12 ?hstz1x12 AllReadyH.nil
  case hiz1x12 => (simp only [List.getElem?_toArray, List.getElem?_cons_succ, List.getElem?_cons_zero]; rfl)
  intro K hK
  go_simp
  (go_at_call 9; (with_reducible refine (M2.out _).mono ?_); rintro e w12 ⟨rfl, hb12⟩)
  go_wp2_with fail
  refine hK.out _ _ ⟨Bx.Blk.keep hHeld.1 hb12, Bx.Blk.keep hHeld.2.1 hb12, Bx.Blk.keep hHeld.2.2 hb12⟩ (fun hNew => ?_)
  clear hHeld
  have hHeld := hNew
  clear hNew hK K
  replace bel := Lib.hid (Bx.then_below bel.out hb12)
  replace C2 := Lib.hid (C2.out.keep hb12)
  replace D5 := Lib.hid (D5.out.keep hb12)
  replace D7 := Lib.hid (D7.out.keep hb12)
  clear hb12
  refine wpAnyH_take (i := 13) (oi := ?oz1x13) (v := ?vz1x13) ?hiz1x13 (by kernel_rfl) (by kernel_rfl) (by kernel_rfl) (fun _ _ _ h => h) ?yz1x13 (by assumption) ?rz1x13
  case hiz1x13 => (simp only [List.getElem?_toArray, List.getElem?_cons_succ, List.getElem?_cons_zero]; rfl)
  case yz1x13 => (refine Or.inl ⟨by rfl, ?_⟩; intro w' hSw; (try dsimp only at hSw); go_simp; (try with_reducible rfl))
  try simp only [Act.put, List.setIfInBounds_toArray, List.set_cons_zero, List.set_cons_succ]
  refine wpAnyH_take (i := 14) (oi := ?oz1x14) (v := ?vz1x14) ?hiz1x14 (by kernel_rfl) (by kernel_rfl) (by kernel_rfl) (fun _ _ _ h => h) ?yz1x14 (by assumption) ?rz1x14
  case hiz1x14 => (simp only [List.getElem?_toArray, List.getElem?_cons_succ, List.getElem?_cons_zero]; rfl)
  case yz1x14 => (refine Or.inl ⟨by rfl, ?_⟩; intro w' hSw; (try dsimp only at hSw); go_simp; (try with_reducible rfl))
  try simp only [Act.put, List.setIfInBounds_toArray, List.set_cons_zero, List.set_cons_succ]
  refine wpAnyH_take (i := 15) (oi := ?oz1x15) (v := ?vz1x15) ?hiz1x15 (by kernel_rfl) (by kernel_rfl) (by kernel_rfl) (fun _ _ _ h => h) ?yz1x15 (by assumption) ?rz1x15
  case hiz1x15 => (simp only [List.getElem?_toArray, List.getElem?_cons_succ, List.getElem?_cons_zero]; rfl)
  case yz1x15 => (refine Or.inl ⟨by rfl, ?_⟩; intro w' hSw; (try dsimp only at hSw); go_simp; (try with_reducible rfl))
  try simp only [Act.put, List.setIfInBounds_toArray, List.set_cons_zero, List.set_cons_succ]
  refine wpAnyH_take (i := 16) (oi := ?oz1x16) (v := cdv c) ?hiz1x16 (by kernel_rfl) (by kernel_rfl) (by kernel_rfl) (fun _ _ _ h => h) ?yz1x16 (by assumption) ?rz1x16
  case hiz1x16 => (simp only [List.getElem?_toArray, List.getElem?_cons_succ, List.getElem?_cons_zero]; rfl)
  case yz1x16 => (refine cd_yields rfl rfl (w.heap.size) rfl c ?_; intro w' hS; exact hS.1)
  try simp only [Act.put, List.setIfInBounds_toArray, List.set_cons_zero, List.set_cons_succ]
  refine wpAnyH_take (i := 18) (oi := ?oz1x18) (v := cdv c) ?hiz1x18 (by kernel_rfl) (by kernel_rfl) (by kernel_rfl) (fun _ _ _ h => h) ?yz1x18 (by assumption) ?rz1x18
  case hiz1x18 => (simp only [List.getElem?_toArray, List.getElem?_cons_succ, List.getElem?_cons_zero]; rfl)
  case yz1x18 => (refine cd_yields rfl rfl (w.heap.size) rfl c ?_; intro w' hS; exact hS.1)
  try simp only [Act.put, List.setIfInBounds_toArray, List.set_cons_zero, List.set_cons_succ]
  refine wpAnyH_ready (rs := [17]) (by kernel_rfl) (by simp) ?_
  refine AllReadyH.cons (o := ?oz1x17) ?hiz1x17 ?hstz1x17 AllReadyH.nil
  case hiz1x17 => (simp only [List.getElem?_toArray, List.getElem?_cons_succ, List.getElem?_cons_zero]; rfl)
  intro K hK
  go_simp
  (go_at_call 10; (with_reducible refine (E1.out _).mono ?_); rintro e w13 ⟨rfl, hb13⟩)
  go_wp2_with fail
  refine hK.out _ _ ⟨Bx.Blk.keep hHeld.1 hb13, Bx.Blk.keep hHeld.2.1 hb13, Bx.Blk.keep hHeld.2.2 hb13⟩ (fun hNew => ?_)
  clear hHeld
  have hHeld := hNew
  clear hNew hK K
  replace bel := Lib.hid (Bx.then_below bel.out hb13)
  replace C2 := Lib.hid (C2.out.keep hb13)
  replace D5 := Lib.hid (D5.out.keep hb13)
  replace D7 := Lib.hid (D7.out.keep hb13)
  clear hb13
  refine wpAnyH_ready (rs := [19]) (by kernel_rfl) (by simp) ?_
  refine AllReadyH.cons (o := ?oz1x19) ?hiz1x19 ?hstz1x19 AllReadyH.nil
  case hiz1x19 => (simp only [List.getElem?_toArray, List.getElem?_cons_succ, List.getElem?_cons_zero]; rfl)
  intro K hK
  go_simp
  (go_at_call 11; (with_reducible refine (E2.out _).mono ?_); rintro e w14 ⟨rfl, hb14⟩)
  go_wp2_with fail
  refine hK.out _ _ ⟨Bx.Blk.keep hHeld.1 hb14, Bx.Blk.keep hHeld.2.1 hb14, Bx.Blk.keep hHeld.2.2 hb14⟩ (fun hNew => ?_)
  clear hHeld
  have hHeld := hNew
  clear hNew hK K
  replace bel := Lib.hid (Bx.then_below bel.out hb14)
  replace C2 := Lib.hid (C2.out.keep hb14)
  replace D5 := Lib.hid (D5.out.keep hb14)
  replace D7 := Lib.hid (D7.out.keep hb14)
  clear hb14
  refine wpAnyH_take (i := 20) (oi := ?oz1x20) (v := ?vz1x20) ?hiz1x20 (by kernel_rfl) (by kernel_rfl) (by kernel_rfl) (fun _ _ _ h => h) ?yz1x20 (by assumption) ?rz1x20
  case hiz1x20 => (simp only [List.getElem?_toArray, List.getElem?_cons_succ, List.getElem?_cons_zero]; rfl)
  case yz1x20 => (refine Or.inl ⟨by rfl, ?_⟩; intro w' hSw; (try dsimp only at hSw); go_simp; (try with_reducible rfl))
  try simp only [Act.put, List.setIfInBounds_toArray, List.set_cons_zero, List.set_cons_succ]
  refine wpAnyH_take (i := 21) (oi := ?oz1x21) (v := ?vz1x21) ?hiz1x21 (by kernel_rfl) (by kernel_rfl) (by kernel_rfl) (fun _ _ _ h => h) ?yz1x21 (by assumption) ?rz1x21
  case hiz1x21 => (simp only [List.getElem?_toArray, List.getElem?_cons_succ, List.getElem?_cons_zero]; rfl)
  case yz1x21 => (refine Or.inl ⟨by rfl, ?_⟩; intro w' hSw; (try dsimp only at hSw); go_simp; (try with_reducible rfl))
  try simp only [Act.put, List.setIfInBounds_toArray, List.set_cons_zero, List.set_cons_succ]
  refine wpAnyH_take (i := 22) (oi := ?oz1x22) (v := ?vz1x22) ?hiz1x22 (by kernel_rfl) (by kernel_rfl) (by kernel_rfl) (fun _ _ _ h => h) ?yz1x22 (by assumption) ?rz1x22
  case hiz1x22 => (simp only [List.getElem?_toArray, List.getElem?_cons_succ, List.getElem?_cons_zero]; rfl)
  case yz1x22 => (refine Or.inl ⟨by rfl, ?_⟩; intro w' hSw; (try dsimp only at hSw); go_simp; (try with_reducible rfl))
  try simp only [Act.put, List.setIfInBounds_toArray, List.set_cons_zero, List.set_cons_succ]
  refine wpAnyH_take (i := 23) (oi := ?oz1x23) (v := ?vz1x23) ?hiz1x23 (by kernel_rfl) (by kernel_rfl) (by kernel_rfl) (fun _ _ _ h => h) ?yz1x23 (by assumption) ?rz1x23
  case hiz1x23 => (simp only [List.getElem?_toArray, List.getElem?_cons_succ, List.getElem?_cons_zero]; rfl)
  case yz1x23 => (refine Or.inl ⟨by rfl, ?_⟩; intro w' hSw; (try dsimp only at hSw); go_simp; (try with_reducible rfl))
  try simp only [Act.put, List.setIfInBounds_toArray, List.set_cons_zero, List.set_cons_succ]
  refine wpAnyH_take (i := 25) (oi := ?oz1x25) (v := ?vz1x25) ?hiz1x25 (by kernel_rfl) (by kernel_rfl) (by kernel_rfl) (fun _ _ _ h => h) ?yz1x25 (by assumption) ?rz1x25
  case hiz1x25 => (simp only [List.getElem?_toArray, List.getElem?_cons_succ, List.getElem?_cons_zero]; rfl)
  case yz1x25 => (refine Or.inl ⟨by rfl, ?_⟩; intro w' hSw; (try dsimp only at hSw); go_simp; (try with_reducible rfl))
  try simp only [Act.put, List.setIfInBounds_toArray, List.set_cons_zero, List.set_cons_succ]
  refine wpAnyH_ready (rs := [24]) (by kernel_rfl) (by simp) ?_
  refine AllReadyH.cons (o := ?oz1x24) ?hiz1x24 ?hstz1x24 AllReadyH.nil
  case hiz1x24 => (simp only [List.getElem?_toArray, List.getElem?_cons_succ, List.getElem?_cons_zero]; rfl)
  intro K hK
  go_simp
  (go_at_call 12; (with_reducible refine (N1.out _).mono ?_); rintro e w15 ⟨rfl, hb15⟩)
  go_wp2_with fail
  refine hK.out _ _ ⟨Bx.Blk.keep hHeld.1 hb15, Bx.Blk.keep hHeld.2.1 hb15, Bx.Blk.keep hHeld.2.2 hb15⟩ (fun hNew => ?_)
  clear hHeld
  have hHeld := hNew
  clear hNew hK K
  replace bel := Lib.hid (Bx.then_below bel.out hb15)
  replace C2 := Lib.hid (C2.out.keep hb15)
  replace D5 := Lib.hid (D5.out.keep hb15)
  replace D7 := Lib.hid (D7.out.keep hb15)
  clear hb15
  refine wpAnyH_ready (rs := [26]) (by kernel_rfl) (by simp) ?_
  refine AllReadyH.cons (o := ?oz1x26) ?hiz1x26 ?hstz1x26 AllReadyH.nil
  case hiz1x26 => (simp only [List.getElem?_toArray, List.getElem?_cons_succ, List.getElem?_cons_zero]; rfl)
  intro K hK
  go_simp
  (go_at_call 13; (with_reducible refine (N2.out _).mono ?_); rintro e w16 ⟨rfl, hb16⟩)
  go_wp2_with fail
  refine hK.out _ _ ⟨Bx.Blk.keep hHeld.1 hb16, Bx.Blk.keep hHeld.2.1 hb16, Bx.Blk.keep hHeld.2.2 hb16⟩ (fun hNew => ?_)
  clear hHeld
  have hHeld := hNew
  clear hNew hK K
  replace bel := Lib.hid (Bx.then_below bel.out hb16)
  replace C2 := Lib.hid (C2.out.keep hb16)
  replace D5 := Lib.hid (D5.out.keep hb16)
  replace D7 := Lib.hid (D7.out.keep hb16)
  clear hb16
  refine wpAnyH_take (i := 27) (oi := ?oz1x27) (v := ?vz1x27) ?hiz1x27 (by kernel_rfl) (by kernel_rfl) (by kernel_rfl) (fun _ _ _ h => h) ?yz1x27 (by assumption) ?rz1x27
  case hiz1x27 => (simp only [List.getElem?_toArray, List.getElem?_cons_succ, List.getElem?_cons_zero]; rfl)
  case yz1x27 => (refine Or.inl ⟨by rfl, ?_⟩; intro w' hSw; (try dsimp only at hSw); go_simp; (try with_reducible rfl))
  try simp only [Act.put, List.setIfInBounds_toArray, List.set_cons_zero, List.set_cons_succ]
  refine wpAnyH_take (i := 28) (oi := ?oz1x28) (v := ?vz1x28) ?hiz1x28 (by kernel_rfl) (by kernel_rfl) (by kernel_rfl) (fun _ _ _ h => h) ?yz1x28 (by assumption) ?rz1x28
  case hiz1x28 => (simp only [List.getElem?_toArray, List.getElem?_cons_succ, List.getElem?_cons_zero]; rfl)
  case yz1x28 => (refine Or.inl ⟨by rfl, ?_⟩; intro w' hSw; (try dsimp only at hSw); go_simp; (try with_reducible rfl))
  try simp only [Act.put, List.setIfInBounds_toArray, List.set_cons_zero, List.set_cons_succ]
  refine wpAnyH_take (i := 29) (oi := ?oz1x29) (v := ?vz1x29) ?hiz1x29 (by kernel_rfl) (by kernel_rfl) (by kernel_rfl) (fun _ _ _ h => h) ?yz1x29 (by assumption) ?rz1x29
  case hiz1x29 => (simp only [List.getElem?_toArray, List.getElem?_cons_succ, List.getElem?_cons_zero]; rfl)
  case yz1x29 => (refine Or.inl ⟨by rfl, ?_⟩; intro w' hSw; (try dsimp only at hSw); go_simp; (try with_reducible rfl))
  try simp only [Act.put, List.setIfInBounds_toArray, List.set_cons_zero, List.set_cons_succ]
  refine wpAnyH_ready (rs := [30]) (by kernel_rfl) (by simp) ?_
  refine AllReadyH.cons (o := ?oz1x30) ?hiz1x30 ?hstz1x30 AllReadyH.nil
  case hiz1x30 => (simp only [List.getElem?_toArray, List.getElem?_cons_succ, List.getElem?_cons_zero]; rfl)
  intro K hK
  go_simp
  (go_at_call 14; (with_reducible refine (HW.out _).mono ?_); rintro e w17 ⟨rfl, hb17⟩)
  go_wp2_with fail
  refine hK.out _ _ ⟨Bx.Blk.keep hHeld.1 hb17, Bx.Blk.keep hHeld.2.1 hb17, Bx.Blk.keep hHeld.2.2 hb17⟩ (fun hNew => ?_)
  clear hHeld
  have hHeld := hNew
  clear hNew hK K
  replace bel := Lib.hid (Bx.then_below bel.out hb17)
  replace C2 := Lib.hid (C2.out.keep hb17)
  replace D5 := Lib.hid (D5.out.keep hb17)
  replace D7 := Lib.hid (D7.out.keep hb17)
  clear hb17
  refine wpAnyH_take (i := 31) (oi := ?oz1x31) (v := ?vz1x31) ?hiz1x31 (by kernel_rfl) (by kernel_rfl) (by kernel_rfl) (fun _ _ _ h => h) ?yz1x31 (by assumption) ?rz1x31
  case hiz1x31 => (simp only [List.getElem?_toArray, List.getElem?_cons_succ, List.getElem?_cons_zero]; rfl)
  case yz1x31 => (refine Or.inl ⟨by rfl, ?_⟩; intro w' hSw; (try dsimp only at hSw); go_simp; (try with_reducible rfl))
  try simp only [Act.put, List.setIfInBounds_toArray, List.set_cons_zero, List.set_cons_succ]
  refine wpAnyH_take (i := 32) (oi := ?oz1x32) (v := ?vz1x32) ?hiz1x32 (by kernel_rfl) (by kernel_rfl) (by kernel_rfl) (fun _ _ _ h => h) ?yz1x32 (by assumption) ?rz1x32
  case hiz1x32 => (simp only [List.getElem?_toArray, List.getElem?_cons_succ, List.getElem?_cons_zero]; rfl)
  case yz1x32 => (refine Or.inl ⟨by rfl, ?_⟩; intro w' hSw; (try dsimp only at hSw); go_simp; (try with_reducible rfl))
  try simp only [Act.put, List.setIfInBounds_toArray, List.set_cons_zero, List.set_cons_succ]
  refine wpAnyH_done (by kernel_rfl) ?_ _
  refine NoPanic.normal ?_
  clear hHeld
  go_wp2_with fail
  go_ret
  exact ⟨rfl, bel.out⟩

theorem law_says (w : World) (c : Cd) (hc : wfCd c) (n : Int) (hn : (Lit.int .i64 n).wf = true) : Calls Try.prog 3 #[cdv c, .int .i64 n] w fun e w' => e = .returned (.bool true) ∧ Below w.heap.size w w' := walk_says c (ok_wf hc) n (int_in hn).2 w

end Clk
namespace LawClockSays
open Go.ChangeShapes Go.WideShapes Go.ChangeAt Go.RowKit
open Go.ChangeMaps (open_string shut_string)

theorem own : ownKnob Try.prog.godebug = none := by kernel_rfl
theorem laidOut : laidOutB Try.prog = true := by kernel_rfl

set_option maxRecDepth 100000 in
theorem lifted (os : Os) (started : os.Started) (H : Type) (enc : TypeId × Value → H) :
    ReturnsInHanded {} Try.checked os 3 .any (Rows.clockSaysSpec.pre6 enc Try.prog Try.f3 Rows.clockSaysRow.domain false) (Rows.clockSaysSpec.post enc Try.prog Try.f3 false true false false) := by
  refine Fr.law_lift (C := Try.checked) (tb := 4) own started (by kernel_rfl) Try.func3
    (ChangeSpec.witness6 (enc := enc) (C := Try.checked) false ⟨#[], #[.agg #[.bool false, .bool false, .bool false, .int .u64 0, .int .i64 0, .int .u64 0, .int .u64 0, .int .u64 0, .int .i64 0, .int .i64 0, .int .i64 0, .int .i64 0, .int .i64 0, .int .i64 0, .int .i64 0, .bool false, .bool false, .bool false, .bool false, .bool false, .bool false, .bool false, .bool false, .bool false, .int .i64 0, .int .i64 0, .int .i64 0, .int .i64 0, .int .i64 0, .int .i64 0, .int .i64 0], .int .i64 0], []⟩ 8 (by kernel_rfl) (by kernel_rfl) (by kernel_rfl) (by kernel_rfl))
    laidOut (by rw [Try.params3]; decide +kernel) rfl Try.underlying4 rfl ?_ ?_
  · intro ds hl
    match ds, hl with
    | [d0, d1], _ => rfl
  · intro W base args ds p hval hA
    rw [Try.params3] at hA hval
    obtain ⟨v0, vs0, d0, ds0, p0, q0, hargs, rfl, rfl, h0, r0⟩ := trodAll_cons hA
    obtain ⟨v1, vs1, d1, ds1, p1, q1, rfl, rfl, rfl, h1, r1⟩ := trodAll_cons r0
    obtain ⟨rfl, rfl, rfl⟩ := trodAll_nil r1
    obtain rfl : args = #[v0, v1] := by cases args; simp_all
    obtain ⟨x0, rfl, hx0⟩ := Crd.open_cd (hval 0 28 v0 rfl rfl) h0
    obtain ⟨a1, rfl, rfl, rfl, w1⟩ := open_int Try.underlying3 (hval 1 3 v1 rfl rfl) h1
    exact Clk.law_says W x0 hx0 a1 w1

theorem over : Rows.clockSaysRow.holds Try.pinned (OpenSpec.ofChange Rows.clockSaysSpec) :=
  OpenClaim.holds_of_wide 3 Try.f3 rfl rfl rfl rfl rfl rfl rfl ⟨rfl, rfl, rfl, rfl, rfl⟩ rfl rfl rfl rfl rfl (by kernel_rfl) Try.func3 (by kernel_rfl)
    (of_decide_eq_true (by kernel_rfl)) (by unfold Func.isWrapper; first | (rw [if_pos (by decide +kernel)]; kernel_rfl) | (rw [if_neg (by decide +kernel)]; exact ⟨rfl, rfl⟩))
    (fun os started H enc _ => lifted os started H enc)
end LawClockSays

/-- The statement ClockSays. -/
theorem clockSays_holds : Rows.ClockSaysSaid := LawClockSays.over

end Go.Proofs.Ytakbmdamegjdeaa
