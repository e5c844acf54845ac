/-
  The law's awake.
-/
import Derived.Test.YtakbmdamegjdeaaClkC
namespace Go.Proofs.Ytakbmdamegjdeaa
open Go.RowKit
namespace Clk
open Pre Crd Clk

/-- The law's own ports. -/
def k0 : Cd := ⟨true, false, false, 0, 0, ⟨0, 0, 0, 0⟩, ⟨0, 0, 0, 2⟩, 3, 0, false, false, false, false, false, false, false, false, false, 0, 1, 1, 0, 0, 0, 0⟩
def g0 : Cd := ⟨true, false, false, 0, 2, ⟨0, 0, 0, 0⟩, ⟨0, 0, 0, 0⟩, 2, 0, false, false, false, false, false, false, false, false, false, 1, 0, 3, 0, 0, 0, 0⟩
def h0 : Cd := ⟨true, false, false, 0, 0, ⟨0, 0, 0, 0⟩, ⟨0, 0, 0, 0⟩, 3, 0, false, false, true, false, false, false, false, false, false, 0, 0, 0, 0, 0, 0, 0⟩
def k1 : Cd := tckC k0
def k2 : Cd := tckC k1
def k3 : Cd := tckC k2
def g1 : Cd := tckC g0
def h1 : Cd := edgC h0
theorem ok_k0 : Ok k0 := by unfold Ok; decide
theorem ok_g0 : Ok g0 := by unfold Ok; decide
theorem k1_is : k1.st = 1 ∧ k1.wai = 2 ∧ k1.rcn = 0 ∧ tckB k0 = false := by decide +kernel
theorem k2_is : k2.st = 1 ∧ tckB k1 = false := by decide +kernel
theorem k3_is : k3.st = 2 ∧ k3.tel = true ∧ tckB k2 = false := by decide +kernel
theorem g1_is : g1.info = 0 ∧ g1.rcn = 3 ∧ tckB g0 = true := by decide +kernel
theorem h1_is : h1.edge = true := by decide +kernel
theorem k0_is : movC k0 = k0 := by decide +kernel

set_option maxRecDepth 40000 in
set_option maxHeartbeats 8000000 in
theorem awake_any (w : World) : Calls Try.prog 14 #[] w fun e w' => e = .returned (.bool true) ∧ Below w.heap.size w w' := by
  have H1 : Hid (∀ w, Calls Try.prog 6 #[cdv k0] w fun e w' => e = .returned (.tuple #[cdv k1, .bool false]) ∧ Below w.heap.size w w') := Lib.hid (fun w => by have h := tick_any k0 ok_k0 w; rw [k1_is.2.2.2] at h; exact h)
  have H2 : Hid (∀ w, Calls Try.prog 6 #[cdv k1] w fun e w' => e = .returned (.tuple #[cdv k2, .bool false]) ∧ Below w.heap.size w w') := Lib.hid (fun w => by have h := tick_any k1 (ok_tck ok_k0) w; rw [k2_is.2] at h; exact h)
  have H3 : Hid (∀ w, Calls Try.prog 6 #[cdv k2] w fun e w' => e = .returned (.tuple #[cdv k3, .bool false]) ∧ Below w.heap.size w w') := Lib.hid (fun w => by have h := tick_any k2 (ok_tck (ok_tck ok_k0)) w; rw [k3_is.2.2] at h; exact h)
  have H4 : Hid (∀ w, Calls Try.prog 6 #[cdv g0] w fun e w' => e = .returned (.tuple #[cdv g1, .bool true]) ∧ Below w.heap.size w w') := Lib.hid (fun w => by have h := tick_any g0 ok_g0 w; rw [g1_is.2.2] at h; exact h)
  have H5 : Hid (∀ w, Calls Try.prog 10 #[cdv h0] w fun e w' => e = .returned (cdv h1) ∧ Below w.heap.size w w') := Lib.hid (edges_any h0)
  have H6 : Hid (∀ w, Calls Try.prog 8 #[cdv k0] w fun e w' => e = .returned (cdv k0) ∧ Below w.heap.size w w') := Lib.hid (fun w => by have h := moves_any k0 (by decide) w; rw [k0_is] at h; exact h)
  have N1 : Hid (∀ w, Calls Try.prog 12 #[.int .i64 1] w fun e w' => e = .returned (.int .i64 0) ∧ Below w.heap.size w w') := Lib.hid (down_bel 1 (by decide))
  have N2 : Hid (∀ w, Calls Try.prog 12 #[.int .i64 (-5)] w fun e w' => e = .returned (.int .i64 0) ∧ Below w.heap.size w w') := Lib.hid (down_bel (-5) (by decide))
  have N3 : Hid (∀ w, Calls Try.prog 12 #[.int .i64 7] w fun e w' => e = .returned (.int .i64 6) ∧ Below w.heap.size w w') := Lib.hid (down_bel 7 (by decide))
  have K1 := Lib.hid k1_is
  have K2 := Lib.hid k2_is
  have K3 := Lib.hid k3_is
  have G1 := Lib.hid g1_is
  have E1 := Lib.hid h1_is
  go_enter Try.func14, Try.ntmps14
  have C1 : Hid (Bx.Fre (w.alloc (cdo k0)) w.heap.size (cdl k0)) := Lib.hid (Bx.Fre.new w (cdl k0) 28)
  have bel := Lib.hid (Bx.box_below w (cdo k0))
  go_upto_region 2 with (first | ((with_reducible refine cd_fresh ?_ ?_ (w.heap.size) k0 ?_ ?_ w (cdl Cd.zero) ?_ ?_ ?_ ?_); (· rfl); (· rfl); (· rfl); (· rfl); (· rfl); (· rfl); (· first | rfl | (simp; done))))
  obtain ⟨n1, hn1⟩ : ∃ k, k = w.heap.size := ⟨_, rfl⟩
  rw [← hn1] at C1 ⊢
  generalize (w.alloc (cdo k0)) = VC1 at *
  clear hn1
  go_wp2_with (first | ((with_reducible refine cd_load ?_ ?_ (n1) ?_ k0 ?_ ?_); (· rfl); (· rfl); (· rfl); (· exact C1.out.blk)))
  refine (H1.out _).mono ?_; rintro e w1 ⟨rfl, hb⟩
  replace C1 := Lib.hid (C1.out.keep hb)
  replace bel := Lib.hid (Bx.then_below bel.out hb)
  clear hb
  replace C1 := Lib.hid (C1.out.more (cdo k1))
  have D2 : Hid (Bx.Fre (w1.alloc (cdo k1)) w1.heap.size (cdl k1)) := Lib.hid (Bx.Fre.new w1 (cdl k1) 28)
  replace bel := Lib.hid (Bx.bel_box bel.out (cdo k1))
  go_upto_region 3 with (first | ((with_reducible refine cd_fresh ?_ ?_ (w1.heap.size) k1 ?_ ?_ w1 (cdl Cd.zero) ?_ ?_ ?_ ?_); (· rfl); (· rfl); (· rfl); (· rfl); (· rfl); (· rfl); (· first | rfl | (simp; done))))
  obtain ⟨n2, hn2⟩ : ∃ k, k = w1.heap.size := ⟨_, rfl⟩
  rw [← hn2] at D2 ⊢
  generalize (w1.alloc (cdo k1)) = VD2 at *
  clear hn2
  go_wp2_with (first | ((with_reducible refine cd_load ?_ ?_ (n2) ?_ k1 ?_ ?_); (· rfl); (· rfl); (· rfl); (· exact D2.out.blk)))
  refine (H2.out _).mono ?_; rintro e w2 ⟨rfl, hb⟩
  replace C1 := Lib.hid (C1.out.keep hb)
  replace D2 := Lib.hid (D2.out.keep hb)
  replace bel := Lib.hid (Bx.then_below bel.out hb)
  clear hb
  replace C1 := Lib.hid (C1.out.more (cdo k2))
  replace D2 := Lib.hid (D2.out.more (cdo k2))
  have E4 : Hid (Bx.Fre (w2.alloc (cdo k2)) w2.heap.size (cdl k2)) := Lib.hid (Bx.Fre.new w2 (cdl k2) 28)
  replace bel := Lib.hid (Bx.bel_box bel.out (cdo k2))
  go_upto_region 4 with (first | ((with_reducible refine cd_fresh ?_ ?_ (w2.heap.size) k2 ?_ ?_ w2 (cdl Cd.zero) ?_ ?_ ?_ ?_); (· rfl); (· rfl); (· rfl); (· rfl); (· rfl); (· rfl); (· first | rfl | (simp; done))))
  obtain ⟨n4, hn4⟩ : ∃ k, k = w2.heap.size := ⟨_, rfl⟩
  rw [← hn4] at E4 ⊢
  generalize (w2.alloc (cdo k2)) = VE4 at *
  clear hn4
  go_wp2_with (first | ((with_reducible refine cd_load ?_ ?_ (n4) ?_ k2 ?_ ?_); (· rfl); (· rfl); (· rfl); (· exact E4.out.blk)))
  refine (H3.out _).mono ?_; rintro e w3 ⟨rfl, hb⟩
  replace C1 := Lib.hid (C1.out.keep hb)
  replace D2 := Lib.hid (D2.out.keep hb)
  replace E4 := Lib.hid (E4.out.keep hb)
  replace bel := Lib.hid (Bx.then_below bel.out hb)
  clear hb
  replace C1 := Lib.hid (C1.out.more (cdo k3))
  replace D2 := Lib.hid (D2.out.more (cdo k3))
  replace E4 := Lib.hid (E4.out.more (cdo k3))
  have F6 : Hid (Bx.Fre (w3.alloc (cdo k3)) w3.heap.size (cdl k3)) := Lib.hid (Bx.Fre.new w3 (cdl k3) 28)
  replace bel := Lib.hid (Bx.bel_box bel.out (cdo k3))
  go_upto_region 5 with (first | ((with_reducible refine cd_fresh ?_ ?_ (w3.heap.size) k3 ?_ ?_ w3 (cdl Cd.zero) ?_ ?_ ?_ ?_); (· rfl); (· rfl); (· rfl); (· rfl); (· rfl); (· rfl); (· first | rfl | (simp; done))))
  obtain ⟨n6, hn6⟩ : ∃ k, k = w3.heap.size := ⟨_, rfl⟩
  rw [← hn6] at F6 ⊢
  generalize (w3.alloc (cdo k3)) = VF6 at *
  clear hn6
  go_wp2_with (first | ((with_reducible refine cd_load ?_ ?_ (n1) ?_ k0 ?_ ?_); (· rfl); (· rfl); (· rfl); (· exact C1.out.blk)) | ((with_reducible refine cd_load ?_ ?_ (n2) ?_ k1 ?_ ?_); (· rfl); (· rfl); (· rfl); (· exact D2.out.blk)) | ((with_reducible refine cd_load ?_ ?_ (n4) ?_ k2 ?_ ?_); (· rfl); (· rfl); (· rfl); (· exact E4.out.blk)) | ((with_reducible refine cd_load ?_ ?_ (n6) ?_ k3 ?_ ?_); (· rfl); (· rfl); (· rfl); (· exact F6.out.blk)))
  refine (H4.out _).mono ?_; rintro e w4 ⟨rfl, hb⟩
  replace C1 := Lib.hid (C1.out.keep hb)
  replace D2 := Lib.hid (D2.out.keep hb)
  replace E4 := Lib.hid (E4.out.keep hb)
  replace F6 := Lib.hid (F6.out.keep hb)
  replace bel := Lib.hid (Bx.then_below bel.out hb)
  clear hb
  replace C1 := Lib.hid (C1.out.more (cdo g1))
  replace D2 := Lib.hid (D2.out.more (cdo g1))
  replace E4 := Lib.hid (E4.out.more (cdo g1))
  replace F6 := Lib.hid (F6.out.more (cdo g1))
  have G8 : Hid (Bx.Fre (w4.alloc (cdo g1)) w4.heap.size (cdl g1)) := Lib.hid (Bx.Fre.new w4 (cdl g1) 28)
  replace bel := Lib.hid (Bx.bel_box bel.out (cdo g1))
  go_upto_region 6 with (first | ((with_reducible refine cd_fresh ?_ ?_ (w4.heap.size) g1 ?_ ?_ w4 (cdl Cd.zero) ?_ ?_ ?_ ?_); (· rfl); (· rfl); (· rfl); (· rfl); (· rfl); (· rfl); (· first | rfl | (simp; done))))
  obtain ⟨n8, hn8⟩ : ∃ k, k = w4.heap.size := ⟨_, rfl⟩
  rw [← hn8] at G8 ⊢
  generalize (w4.alloc (cdo g1)) = VG8 at *
  clear hn8
  go_wp2_with (first | ((with_reducible refine cd_load ?_ ?_ (n1) ?_ k0 ?_ ?_); (· rfl); (· rfl); (· rfl); (· exact C1.out.blk)) | ((with_reducible refine cd_load ?_ ?_ (n2) ?_ k1 ?_ ?_); (· rfl); (· rfl); (· rfl); (· exact D2.out.blk)) | ((with_reducible refine cd_load ?_ ?_ (n4) ?_ k2 ?_ ?_); (· rfl); (· rfl); (· rfl); (· exact E4.out.blk)) | ((with_reducible refine cd_load ?_ ?_ (n6) ?_ k3 ?_ ?_); (· rfl); (· rfl); (· rfl); (· exact F6.out.blk)) | ((with_reducible refine cd_load ?_ ?_ (n8) ?_ g1 ?_ ?_); (· rfl); (· rfl); (· rfl); (· exact G8.out.blk)))
  refine (H5.out _).mono ?_; rintro e w5 ⟨rfl, hb⟩
  replace C1 := Lib.hid (C1.out.keep hb)
  replace D2 := Lib.hid (D2.out.keep hb)
  replace E4 := Lib.hid (E4.out.keep hb)
  replace F6 := Lib.hid (F6.out.keep hb)
  replace G8 := Lib.hid (G8.out.keep hb)
  replace bel := Lib.hid (Bx.then_below bel.out hb)
  clear hb
  replace C1 := Lib.hid (C1.out.more (cdo h1))
  replace D2 := Lib.hid (D2.out.more (cdo h1))
  replace E4 := Lib.hid (E4.out.more (cdo h1))
  replace F6 := Lib.hid (F6.out.more (cdo h1))
  replace G8 := Lib.hid (G8.out.more (cdo h1))
  have H10 : Hid (Bx.Fre (w5.alloc (cdo h1)) w5.heap.size (cdl h1)) := Lib.hid (Bx.Fre.new w5 (cdl h1) 28)
  replace bel := Lib.hid (Bx.bel_box bel.out (cdo h1))
  go_upto_region 7 with (first | ((with_reducible refine cd_fresh ?_ ?_ (w5.heap.size) h1 ?_ ?_ w5 (cdl Cd.zero) ?_ ?_ ?_ ?_); (· rfl); (· rfl); (· rfl); (· rfl); (· rfl); (· rfl); (· first | rfl | (simp; done))))
  obtain ⟨n10, hn10⟩ : ∃ k, k = w5.heap.size := ⟨_, rfl⟩
  rw [← hn10] at H10 ⊢
  generalize (w5.alloc (cdo h1)) = VH10 at *
  clear hn10
  have d14 := D2.out.at 14 rfl
  rw [K1.out.1] at d14
  have d25 := D2.out.at 25 rfl
  rw [K1.out.2.1] at d25
  have d26 := D2.out.at 26 rfl
  rw [K1.out.2.2.1] at d26
  have e14 := E4.out.at 14 rfl
  rw [K2.out.1] at e14
  have f14 := F6.out.at 14 rfl
  rw [K3.out.1] at f14
  have f22 := F6.out.at 22 rfl
  rw [K3.out.2.1] at f22
  have g4 := G8.out.at 4 rfl
  rw [G1.out.1] at g4
  have g26 := G8.out.at 26 rfl
  rw [G1.out.2.1] at g26
  have h2 := H10.out.at 2 rfl
  rw [E1.out] at h2
  have hcs := cself_at k0
  have hcg := fun op a y w => cguard_at op a y k0 k0 w
  simp only [List.append_eq, List.cons_append, List.nil_append]
  refine wp_region_noPanic ?_
  refine wp_region_held_drew (S := fun w' => Bx.Blk w' n1 (cdl k0) ∧ w'.cell? ⟨n2, 14, none⟩ = some (.int .i64 1) ∧ w'.cell? ⟨n2, 25, none⟩ = some (.int .i64 2) ∧ w'.cell? ⟨n2, 26, none⟩ = some (.int .i64 0) ∧ w'.cell? ⟨n4, 14, none⟩ = some (.int .i64 1) ∧ w'.cell? ⟨n6, 14, none⟩ = some (.int .i64 2) ∧ w'.cell? ⟨n6, 22, none⟩ = some (.bool true) ∧ w'.cell? ⟨n8, 4, none⟩ = some (.int .i64 0) ∧ w'.cell? ⟨n8, 26, none⟩ = some (.int .i64 3) ∧ w'.cell? ⟨n10, 2, none⟩ = some (.bool true)) (by kernel_rfl) (by exact ⟨C1.out.blk, d14, d25, d26, e14, f14, f22, g4, g26, h2⟩) (fun hHeld => ?_)
  replace bel := Lib.hid (Bx.bel_drewn bel.out)
  replace C1 := Lib.hid (C1.out.drew)
  replace D2 := Lib.hid (D2.out.drew)
  replace E4 := Lib.hid (E4.out.drew)
  replace F6 := Lib.hid (F6.out.drew)
  replace G8 := Lib.hid (G8.out.drew)
  replace H10 := Lib.hid (H10.out.drew)
  refine wpAnyH_take (i := 0) (oi := ?oz1x0) (v := ?vz1x0) ?hiz1x0 (by kernel_rfl) (by kernel_rfl) (by kernel_rfl) (fun _ _ _ h => h) ?yz1x0 (by assumption) ?rz1x0
  case hiz1x0 => (simp only [List.getElem?_toArray, List.getElem?_cons_zero]; rfl)
  case yz1x0 => (refine Or.inl ⟨by rfl, ?_⟩; intro w' hSw; (try dsimp only at hSw); go_simp; (try with_reducible rfl))
  try simp only [Act.put, List.setIfInBounds_toArray, List.set_cons_zero, List.set_cons_succ]
  refine wpAnyH_take (i := 1) (oi := ?oz1x1) (v := ?vz1x1) ?hiz1x1 (by kernel_rfl) (by kernel_rfl) (by kernel_rfl) (fun _ _ _ h => h) ?yz1x1 (by assumption) ?rz1x1
  case hiz1x1 => (simp only [List.getElem?_toArray, List.getElem?_cons_succ, List.getElem?_cons_zero]; rfl)
  case yz1x1 => (refine Or.inl ⟨by rfl, ?_⟩; intro w' hSw; (try dsimp only at hSw); go_simp; (try with_reducible rfl))
  try simp only [Act.put, List.setIfInBounds_toArray, List.set_cons_zero, List.set_cons_succ]
  refine wpAnyH_take (i := 2) (oi := ?oz1x2) (v := ?vz1x2) ?hiz1x2 (by kernel_rfl) (by kernel_rfl) (by kernel_rfl) (fun _ _ _ h => h) ?yz1x2 (by assumption) ?rz1x2
  case hiz1x2 => (simp only [List.getElem?_toArray, List.getElem?_cons_succ, List.getElem?_cons_zero]; rfl)
  case yz1x2 => (refine Or.inl ⟨by rfl, ?_⟩; intro w' hSw; (try dsimp only at hSw); go_simp; (try with_reducible rfl))
  try simp only [Act.put, List.setIfInBounds_toArray, List.set_cons_zero, List.set_cons_succ]
  refine wpAnyH_take (i := 3) (oi := ?oz1x3) (v := ?vz1x3) ?hiz1x3 (by kernel_rfl) (by kernel_rfl) (by kernel_rfl) (fun _ _ _ h => h) ?yz1x3 (by assumption) ?rz1x3
  case hiz1x3 => (simp only [List.getElem?_toArray, List.getElem?_cons_succ, List.getElem?_cons_zero]; rfl)
  case yz1x3 => (refine Or.inl ⟨by rfl, ?_⟩; intro w' hSw; (try dsimp only at hSw); go_simp; (try with_reducible rfl))
  try simp only [Act.put, List.setIfInBounds_toArray, List.set_cons_zero, List.set_cons_succ]
  refine wpAnyH_take (i := 4) (oi := ?oz1x4) (v := ?vz1x4) ?hiz1x4 (by kernel_rfl) (by kernel_rfl) (by kernel_rfl) (fun _ _ _ h => h) ?yz1x4 (by assumption) ?rz1x4
  case hiz1x4 => (simp only [List.getElem?_toArray, List.getElem?_cons_succ, List.getElem?_cons_zero]; rfl)
  case yz1x4 => (refine Or.inl ⟨by rfl, ?_⟩; intro w' hSw; (try dsimp only at hSw); go_simp; (try with_reducible rfl))
  try simp only [Act.put, List.setIfInBounds_toArray, List.set_cons_zero, List.set_cons_succ]
  refine wpAnyH_take (i := 5) (oi := ?oz1x5) (v := ?vz1x5) ?hiz1x5 (by kernel_rfl) (by kernel_rfl) (by kernel_rfl) (fun _ _ _ h => h) ?yz1x5 (by assumption) ?rz1x5
  case hiz1x5 => (simp only [List.getElem?_toArray, List.getElem?_cons_succ, List.getElem?_cons_zero]; rfl)
  case yz1x5 => (refine Or.inl ⟨by rfl, ?_⟩; intro w' hSw; (try dsimp only at hSw); go_simp; (try with_reducible rfl))
  try simp only [Act.put, List.setIfInBounds_toArray, List.set_cons_zero, List.set_cons_succ]
  refine wpAnyH_take (i := 6) (oi := ?oz1x6) (v := ?vz1x6) ?hiz1x6 (by kernel_rfl) (by kernel_rfl) (by kernel_rfl) (fun _ _ _ h => h) ?yz1x6 (by assumption) ?rz1x6
  case hiz1x6 => (simp only [List.getElem?_toArray, List.getElem?_cons_succ, List.getElem?_cons_zero]; rfl)
  case yz1x6 => (refine Or.inl ⟨by rfl, ?_⟩; intro w' hSw; (try dsimp only at hSw); go_simp; (try with_reducible rfl))
  try simp only [Act.put, List.setIfInBounds_toArray, List.set_cons_zero, List.set_cons_succ]
  refine wpAnyH_take (i := 7) (oi := ?oz1x7) (v := ?vz1x7) ?hiz1x7 (by kernel_rfl) (by kernel_rfl) (by kernel_rfl) (fun _ _ _ h => h) ?yz1x7 (by assumption) ?rz1x7
  case hiz1x7 => (simp only [List.getElem?_toArray, List.getElem?_cons_succ, List.getElem?_cons_zero]; rfl)
  case yz1x7 => (refine Or.inl ⟨by rfl, ?_⟩; intro w' hSw; (try dsimp only at hSw); go_simp; (try with_reducible rfl))
  try simp only [Act.put, List.setIfInBounds_toArray, List.set_cons_zero, List.set_cons_succ]
  refine wpAnyH_take (i := 8) (oi := ?oz1x8) (v := ?vz1x8) ?hiz1x8 (by kernel_rfl) (by kernel_rfl) (by kernel_rfl) (fun _ _ _ h => h) ?yz1x8 (by assumption) ?rz1x8
  case hiz1x8 => (simp only [List.getElem?_toArray, List.getElem?_cons_succ, List.getElem?_cons_zero]; rfl)
  case yz1x8 => (refine Or.inl ⟨by rfl, ?_⟩; intro w' hSw; (try dsimp only at hSw); go_simp; (try with_reducible rfl))
  try simp only [Act.put, List.setIfInBounds_toArray, List.set_cons_zero, List.set_cons_succ]
  refine wpAnyH_take (i := 9) (oi := ?oz1x9) (v := ?vz1x9) ?hiz1x9 (by kernel_rfl) (by kernel_rfl) (by kernel_rfl) (fun _ _ _ h => h) ?yz1x9 (by assumption) ?rz1x9
  case hiz1x9 => (simp only [List.getElem?_toArray, List.getElem?_cons_succ, List.getElem?_cons_zero]; rfl)
  case yz1x9 => (refine Or.inl ⟨by rfl, ?_⟩; intro w' hSw; (try dsimp only at hSw); go_simp; (try with_reducible rfl))
  try simp only [Act.put, List.setIfInBounds_toArray, List.set_cons_zero, List.set_cons_succ]
  refine wpAnyH_take (i := 10) (oi := ?oz1x10) (v := ?vz1x10) ?hiz1x10 (by kernel_rfl) (by kernel_rfl) (by kernel_rfl) (fun _ _ _ h => h) ?yz1x10 (by assumption) ?rz1x10
  case hiz1x10 => (simp only [List.getElem?_toArray, List.getElem?_cons_succ, List.getElem?_cons_zero]; rfl)
  case yz1x10 => (refine Or.inl ⟨by rfl, ?_⟩; intro w' hSw; (try dsimp only at hSw); go_simp; (try with_reducible rfl))
  try simp only [Act.put, List.setIfInBounds_toArray, List.set_cons_zero, List.set_cons_succ]
  refine wpAnyH_take (i := 11) (oi := ?oz1x11) (v := ?vz1x11) ?hiz1x11 (by kernel_rfl) (by kernel_rfl) (by kernel_rfl) (fun _ _ _ h => h) ?yz1x11 (by assumption) ?rz1x11
  case hiz1x11 => (simp only [List.getElem?_toArray, List.getElem?_cons_succ, List.getElem?_cons_zero]; rfl)
  case yz1x11 => (refine Or.inl ⟨by rfl, ?_⟩; intro w' hSw; (try dsimp only at hSw); go_simp; (try with_reducible rfl))
  try simp only [Act.put, List.setIfInBounds_toArray, List.set_cons_zero, List.set_cons_succ]
  refine wpAnyH_take (i := 12) (oi := ?oz1x12) (v := ?vz1x12) ?hiz1x12 (by kernel_rfl) (by kernel_rfl) (by kernel_rfl) (fun _ _ _ h => h) ?yz1x12 (by assumption) ?rz1x12
  case hiz1x12 => (simp only [List.getElem?_toArray, List.getElem?_cons_succ, List.getElem?_cons_zero]; rfl)
  case yz1x12 => (refine Or.inl ⟨by rfl, ?_⟩; intro w' hSw; (try dsimp only at hSw); go_simp; (try with_reducible rfl))
  try simp only [Act.put, List.setIfInBounds_toArray, List.set_cons_zero, List.set_cons_succ]
  refine wpAnyH_take (i := 13) (oi := ?oz1x13) (v := ?vz1x13) ?hiz1x13 (by kernel_rfl) (by kernel_rfl) (by kernel_rfl) (fun _ _ _ h => h) ?yz1x13 (by assumption) ?rz1x13
  case hiz1x13 => (simp only [List.getElem?_toArray, List.getElem?_cons_succ, List.getElem?_cons_zero]; rfl)
  case yz1x13 => (refine Or.inl ⟨by rfl, ?_⟩; intro w' hSw; (try dsimp only at hSw); go_simp; (try with_reducible rfl))
  try simp only [Act.put, List.setIfInBounds_toArray, List.set_cons_zero, List.set_cons_succ]
  refine wpAnyH_take (i := 14) (oi := ?oz1x14) (v := ?vz1x14) ?hiz1x14 (by kernel_rfl) (by kernel_rfl) (by kernel_rfl) (fun _ _ _ h => h) ?yz1x14 (by assumption) ?rz1x14
  case hiz1x14 => (simp only [List.getElem?_toArray, List.getElem?_cons_succ, List.getElem?_cons_zero]; rfl)
  case yz1x14 => (refine Or.inl ⟨by rfl, ?_⟩; intro w' hSw; (try dsimp only at hSw); go_simp; (try with_reducible rfl))
  try simp only [Act.put, List.setIfInBounds_toArray, List.set_cons_zero, List.set_cons_succ]
  refine wpAnyH_take (i := 15) (oi := ?oz1x15) (v := ?vz1x15) ?hiz1x15 (by kernel_rfl) (by kernel_rfl) (by kernel_rfl) (fun _ _ _ h => h) ?yz1x15 (by assumption) ?rz1x15
  case hiz1x15 => (simp only [List.getElem?_toArray, List.getElem?_cons_succ, List.getElem?_cons_zero]; rfl)
  case yz1x15 => (refine Or.inl ⟨by rfl, ?_⟩; intro w' hSw; (try dsimp only at hSw); go_simp; (try with_reducible rfl))
  try simp only [Act.put, List.setIfInBounds_toArray, List.set_cons_zero, List.set_cons_succ]
  refine wpAnyH_take (i := 16) (oi := ?oz1x16) (v := ?vz1x16) ?hiz1x16 (by kernel_rfl) (by kernel_rfl) (by kernel_rfl) (fun _ _ _ h => h) ?yz1x16 (by assumption) ?rz1x16
  case hiz1x16 => (simp only [List.getElem?_toArray, List.getElem?_cons_succ, List.getElem?_cons_zero]; rfl)
  case yz1x16 => (refine Or.inl ⟨by rfl, ?_⟩; intro w' hSw; (try dsimp only at hSw); go_simp; (try with_reducible rfl))
  try simp only [Act.put, List.setIfInBounds_toArray, List.set_cons_zero, List.set_cons_succ]
  refine wpAnyH_take (i := 17) (oi := ?oz1x17) (v := ?vz1x17) ?hiz1x17 (by kernel_rfl) (by kernel_rfl) (by kernel_rfl) (fun _ _ _ h => h) ?yz1x17 (by assumption) ?rz1x17
  case hiz1x17 => (simp only [List.getElem?_toArray, List.getElem?_cons_succ, List.getElem?_cons_zero]; rfl)
  case yz1x17 => (refine Or.inl ⟨by rfl, ?_⟩; intro w' hSw; (try dsimp only at hSw); go_simp; (try with_reducible rfl))
  try simp only [Act.put, List.setIfInBounds_toArray, List.set_cons_zero, List.set_cons_succ]
  refine wpAnyH_take (i := 18) (oi := ?oz1x18) (v := ?vz1x18) ?hiz1x18 (by kernel_rfl) (by kernel_rfl) (by kernel_rfl) (fun _ _ _ h => h) ?yz1x18 (by assumption) ?rz1x18
  case hiz1x18 => (simp only [List.getElem?_toArray, List.getElem?_cons_succ, List.getElem?_cons_zero]; rfl)
  case yz1x18 => (refine Or.inl ⟨by rfl, ?_⟩; intro w' hSw; (try dsimp only at hSw); go_simp; (try with_reducible rfl))
  try simp only [Act.put, List.setIfInBounds_toArray, List.set_cons_zero, List.set_cons_succ]
  refine wpAnyH_take (i := 19) (oi := ?oz1x19) (v := ?vz1x19) ?hiz1x19 (by kernel_rfl) (by kernel_rfl) (by kernel_rfl) (fun _ _ _ h => h) ?yz1x19 (by assumption) ?rz1x19
  case hiz1x19 => (simp only [List.getElem?_toArray, List.getElem?_cons_succ, List.getElem?_cons_zero]; rfl)
  case yz1x19 => (refine Or.inl ⟨by rfl, ?_⟩; intro w' hSw; (try dsimp only at hSw); go_simp; (try with_reducible rfl))
  try simp only [Act.put, List.setIfInBounds_toArray, List.set_cons_zero, List.set_cons_succ]
  refine wpAnyH_take (i := 20) (oi := ?oz1x20) (v := ?vz1x20) ?hiz1x20 (by kernel_rfl) (by kernel_rfl) (by kernel_rfl) (fun _ _ _ h => h) ?yz1x20 (by assumption) ?rz1x20
  case hiz1x20 => (simp only [List.getElem?_toArray, List.getElem?_cons_succ, List.getElem?_cons_zero]; rfl)
  case yz1x20 => (refine Or.inl ⟨by rfl, ?_⟩; intro w' hSw; (try dsimp only at hSw); go_simp; (try with_reducible rfl))
  try simp only [Act.put, List.setIfInBounds_toArray, List.set_cons_zero, List.set_cons_succ]
  refine wpAnyH_take (i := 21) (oi := ?oz1x21) (v := ?vz1x21) ?hiz1x21 (by kernel_rfl) (by kernel_rfl) (by kernel_rfl) (fun _ _ _ h => h) ?yz1x21 (by assumption) ?rz1x21
  case hiz1x21 => (simp only [List.getElem?_toArray, List.getElem?_cons_succ, List.getElem?_cons_zero]; rfl)
  case yz1x21 => (refine Or.inl ⟨by rfl, ?_⟩; intro w' hSw; (try dsimp only at hSw); go_simp; (try with_reducible rfl))
  try simp only [Act.put, List.setIfInBounds_toArray, List.set_cons_zero, List.set_cons_succ]
  refine wpAnyH_take (i := 22) (oi := ?oz1x22) (v := ?vz1x22) ?hiz1x22 (by kernel_rfl) (by kernel_rfl) (by kernel_rfl) (fun _ _ _ h => h) ?yz1x22 (by assumption) ?rz1x22
  case hiz1x22 => (simp only [List.getElem?_toArray, List.getElem?_cons_succ, List.getElem?_cons_zero]; rfl)
  case yz1x22 => (refine Or.inl ⟨by rfl, ?_⟩; intro w' hSw; (try dsimp only at hSw); go_simp; (try with_reducible rfl))
  try simp only [Act.put, List.setIfInBounds_toArray, List.set_cons_zero, List.set_cons_succ]
  refine wpAnyH_take (i := 23) (oi := ?oz1x23) (v := ?vz1x23) ?hiz1x23 (by kernel_rfl) (by kernel_rfl) (by kernel_rfl) (fun _ _ _ h => h) ?yz1x23 (by assumption) ?rz1x23
  case hiz1x23 => (simp only [List.getElem?_toArray, List.getElem?_cons_succ, List.getElem?_cons_zero]; rfl)
  case yz1x23 => (refine Or.inl ⟨by rfl, ?_⟩; intro w' hSw; (try dsimp only at hSw); go_simp; (try with_reducible rfl))
  try simp only [Act.put, List.setIfInBounds_toArray, List.set_cons_zero, List.set_cons_succ]
  refine wpAnyH_take (i := 24) (oi := ?oz1x24) (v := ?vz1x24) ?hiz1x24 (by kernel_rfl) (by kernel_rfl) (by kernel_rfl) (fun _ _ _ h => h) ?yz1x24 (by assumption) ?rz1x24
  case hiz1x24 => (simp only [List.getElem?_toArray, List.getElem?_cons_succ, List.getElem?_cons_zero]; rfl)
  case yz1x24 => (refine Or.inl ⟨by rfl, ?_⟩; intro w' hSw; (try dsimp only at hSw); go_simp; (try with_reducible rfl))
  try simp only [Act.put, List.setIfInBounds_toArray, List.set_cons_zero, List.set_cons_succ]
  refine wpAnyH_take (i := 25) (oi := ?oz1x25) (v := ?vz1x25) ?hiz1x25 (by kernel_rfl) (by kernel_rfl) (by kernel_rfl) (fun _ _ _ h => h) ?yz1x25 (by assumption) ?rz1x25
  case hiz1x25 => (simp only [List.getElem?_toArray, List.getElem?_cons_succ, List.getElem?_cons_zero]; rfl)
  case yz1x25 => (refine Or.inl ⟨by rfl, ?_⟩; intro w' hSw; (try dsimp only at hSw); go_simp; (try with_reducible rfl))
  try simp only [Act.put, List.setIfInBounds_toArray, List.set_cons_zero, List.set_cons_succ]
  refine wpAnyH_take (i := 26) (oi := ?oz1x26) (v := ?vz1x26) ?hiz1x26 (by kernel_rfl) (by kernel_rfl) (by kernel_rfl) (fun _ _ _ h => h) ?yz1x26 (by assumption) ?rz1x26
  case hiz1x26 => (simp only [List.getElem?_toArray, List.getElem?_cons_succ, List.getElem?_cons_zero]; rfl)
  case yz1x26 => (refine Or.inl ⟨by rfl, ?_⟩; intro w' hSw; (try dsimp only at hSw); go_simp; (try with_reducible rfl))
  try simp only [Act.put, List.setIfInBounds_toArray, List.set_cons_zero, List.set_cons_succ]
  refine wpAnyH_take (i := 27) (oi := ?oz1x27) (v := ?vz1x27) ?hiz1x27 (by kernel_rfl) (by kernel_rfl) (by kernel_rfl) (fun _ _ _ h => h) ?yz1x27 (by assumption) ?rz1x27
  case hiz1x27 => (simp only [List.getElem?_toArray, List.getElem?_cons_succ, List.getElem?_cons_zero]; rfl)
  case yz1x27 => (refine Or.inl ⟨by rfl, ?_⟩; intro w' hSw; (try dsimp only at hSw); go_simp; (try with_reducible rfl))
  try simp only [Act.put, List.setIfInBounds_toArray, List.set_cons_zero, List.set_cons_succ]
  refine wpAnyH_take (i := 28) (oi := ?oz1x28) (v := ?vz1x28) ?hiz1x28 (by kernel_rfl) (by kernel_rfl) (by kernel_rfl) (fun _ _ _ h => h) ?yz1x28 (by assumption) ?rz1x28
  case hiz1x28 => (simp only [List.getElem?_toArray, List.getElem?_cons_succ, List.getElem?_cons_zero]; rfl)
  case yz1x28 => (refine Or.inl ⟨by rfl, ?_⟩; intro w' hSw; (try dsimp only at hSw); go_simp; (try with_reducible rfl))
  try simp only [Act.put, List.setIfInBounds_toArray, List.set_cons_zero, List.set_cons_succ]
  refine wpAnyH_take (i := 29) (oi := ?oz1x29) (v := ?vz1x29) ?hiz1x29 (by kernel_rfl) (by kernel_rfl) (by kernel_rfl) (fun _ _ _ h => h) ?yz1x29 (by assumption) ?rz1x29
  case hiz1x29 => (simp only [List.getElem?_toArray, List.getElem?_cons_succ, List.getElem?_cons_zero]; rfl)
  case yz1x29 => (refine Or.inl ⟨by rfl, ?_⟩; intro w' hSw; (try dsimp only at hSw); go_simp; (try with_reducible rfl))
  try simp only [Act.put, List.setIfInBounds_toArray, List.set_cons_zero, List.set_cons_succ]
  refine wpAnyH_take (i := 30) (oi := ?oz1x30) (v := ?vz1x30) ?hiz1x30 (by kernel_rfl) (by kernel_rfl) (by kernel_rfl) (fun _ _ _ h => h) ?yz1x30 (by assumption) ?rz1x30
  case hiz1x30 => (simp only [List.getElem?_toArray, List.getElem?_cons_succ, List.getElem?_cons_zero]; rfl)
  case yz1x30 => (refine Or.inl ⟨by rfl, ?_⟩; intro w' hSw; (try dsimp only at hSw); go_simp; (try with_reducible rfl))
  try simp only [Act.put, List.setIfInBounds_toArray, List.set_cons_zero, List.set_cons_succ]
  refine wpAnyH_take (i := 31) (oi := ?oz1x31) (v := ?vz1x31) ?hiz1x31 (by kernel_rfl) (by kernel_rfl) (by kernel_rfl) (fun _ _ _ h => h) ?yz1x31 (by assumption) ?rz1x31
  case hiz1x31 => (simp only [List.getElem?_toArray, List.getElem?_cons_succ, List.getElem?_cons_zero]; rfl)
  case yz1x31 => (refine Or.inl ⟨by rfl, ?_⟩; intro w' hSw; (try dsimp only at hSw); go_simp; (try with_reducible rfl))
  try simp only [Act.put, List.setIfInBounds_toArray, List.set_cons_zero, List.set_cons_succ]
  refine wpAnyH_take (i := 32) (oi := ?oz1x32) (v := ?vz1x32) ?hiz1x32 (by kernel_rfl) (by kernel_rfl) (by kernel_rfl) (fun _ _ _ h => h) ?yz1x32 (by assumption) ?rz1x32
  case hiz1x32 => (simp only [List.getElem?_toArray, List.getElem?_cons_succ, List.getElem?_cons_zero]; rfl)
  case yz1x32 => (refine Or.inl ⟨by rfl, ?_⟩; intro w' hSw; (try dsimp only at hSw); go_simp; (try with_reducible rfl))
  try simp only [Act.put, List.setIfInBounds_toArray, List.set_cons_zero, List.set_cons_succ]
  refine wpAnyH_take (i := 33) (oi := ?oz1x33) (v := ?vz1x33) ?hiz1x33 (by kernel_rfl) (by kernel_rfl) (by kernel_rfl) (fun _ _ _ h => h) ?yz1x33 (by assumption) ?rz1x33
  case hiz1x33 => (simp only [List.getElem?_toArray, List.getElem?_cons_succ, List.getElem?_cons_zero]; rfl)
  case yz1x33 => (refine Or.inl ⟨by rfl, ?_⟩; intro w' hSw; (try dsimp only at hSw); go_simp; (try with_reducible rfl))
  try simp only [Act.put, List.setIfInBounds_toArray, List.set_cons_zero, List.set_cons_succ]
  refine wpAnyH_take (i := 34) (oi := ?oz1x34) (v := ?vz1x34) ?hiz1x34 (by kernel_rfl) (by kernel_rfl) (by kernel_rfl) (fun _ _ _ h => h) ?yz1x34 (by assumption) ?rz1x34
  case hiz1x34 => (simp only [List.getElem?_toArray, List.getElem?_cons_succ, List.getElem?_cons_zero]; rfl)
  case yz1x34 => (refine Or.inl ⟨by rfl, ?_⟩; intro w' hSw; (try dsimp only at hSw); go_simp; (try with_reducible rfl))
  try simp only [Act.put, List.setIfInBounds_toArray, List.set_cons_zero, List.set_cons_succ]
  refine wpAnyH_take (i := 35) (oi := ?oz1x35) (v := ?vz1x35) ?hiz1x35 (by kernel_rfl) (by kernel_rfl) (by kernel_rfl) (fun _ _ _ h => h) ?yz1x35 (by assumption) ?rz1x35
  case hiz1x35 => (simp only [List.getElem?_toArray, List.getElem?_cons_succ, List.getElem?_cons_zero]; rfl)
  case yz1x35 => (refine Or.inl ⟨by rfl, ?_⟩; intro w' hSw; (try dsimp only at hSw); go_simp; (try with_reducible rfl))
  try simp only [Act.put, List.setIfInBounds_toArray, List.set_cons_zero, List.set_cons_succ]
  refine wpAnyH_take (i := 36) (oi := ?oz1x36) (v := ?vz1x36) ?hiz1x36 (by kernel_rfl) (by kernel_rfl) (by kernel_rfl) (fun _ _ _ h => h) ?yz1x36 (by assumption) ?rz1x36
  case hiz1x36 => (simp only [List.getElem?_toArray, List.getElem?_cons_succ, List.getElem?_cons_zero]; rfl)
  case yz1x36 => (refine Or.inl ⟨by rfl, ?_⟩; intro w' hSw; (try dsimp only at hSw); go_simp; (try with_reducible rfl))
  try simp only [Act.put, List.setIfInBounds_toArray, List.set_cons_zero, List.set_cons_succ]
  refine wpAnyH_take (i := 37) (oi := ?oz1x37) (v := ?vz1x37) ?hiz1x37 (by kernel_rfl) (by kernel_rfl) (by kernel_rfl) (fun _ _ _ h => h) ?yz1x37 (by assumption) ?rz1x37
  case hiz1x37 => (simp only [List.getElem?_toArray, List.getElem?_cons_succ, List.getElem?_cons_zero]; rfl)
  case yz1x37 => (refine Or.inl ⟨by rfl, ?_⟩; intro w' hSw; (try dsimp only at hSw); go_simp; (try with_reducible rfl))
  try simp only [Act.put, List.setIfInBounds_toArray, List.set_cons_zero, List.set_cons_succ]
  refine wpAnyH_take (i := 38) (oi := ?oz1x38) (v := ?vz1x38) ?hiz1x38 (by kernel_rfl) (by kernel_rfl) (by kernel_rfl) (fun _ _ _ h => h) ?yz1x38 (by assumption) ?rz1x38
  case hiz1x38 => (simp only [List.getElem?_toArray, List.getElem?_cons_succ, List.getElem?_cons_zero]; rfl)
  case yz1x38 => (refine Or.inl ⟨by rfl, ?_⟩; intro w' hSw; (try dsimp only at hSw); go_simp; (try with_reducible rfl))
  try simp only [Act.put, List.setIfInBounds_toArray, List.set_cons_zero, List.set_cons_succ]
  refine wpAnyH_take (i := 39) (oi := ?oz1x39) (v := ?vz1x39) ?hiz1x39 (by kernel_rfl) (by kernel_rfl) (by kernel_rfl) (fun _ _ _ h => h) ?yz1x39 (by assumption) ?rz1x39
  case hiz1x39 => (simp only [List.getElem?_toArray, List.getElem?_cons_succ, List.getElem?_cons_zero]; rfl)
  case yz1x39 => (refine Or.inl ⟨by rfl, ?_⟩; intro w' hSw; (try dsimp only at hSw); go_simp; (try with_reducible rfl))
  try simp only [Act.put, List.setIfInBounds_toArray, List.set_cons_zero, List.set_cons_succ]
  refine wpAnyH_take (i := 40) (oi := ?oz1x40) (v := ?vz1x40) ?hiz1x40 (by kernel_rfl) (by kernel_rfl) (by kernel_rfl) (fun _ _ _ h => h) ?yz1x40 (by assumption) ?rz1x40
  case hiz1x40 => (simp only [List.getElem?_toArray, List.getElem?_cons_succ, List.getElem?_cons_zero]; rfl)
  case yz1x40 => (refine Or.inl ⟨by rfl, ?_⟩; intro w' hSw; (try dsimp only at hSw); go_simp; (try with_reducible rfl))
  try simp only [Act.put, List.setIfInBounds_toArray, List.set_cons_zero, List.set_cons_succ]
  refine wpAnyH_take (i := 41) (oi := ?oz1x41) (v := ?vz1x41) ?hiz1x41 (by kernel_rfl) (by kernel_rfl) (by kernel_rfl) (fun _ _ _ h => h) ?yz1x41 (by assumption) ?rz1x41
  case hiz1x41 => (simp only [List.getElem?_toArray, List.getElem?_cons_succ, List.getElem?_cons_zero]; rfl)
  case yz1x41 => (refine Or.inl ⟨by rfl, ?_⟩; intro w' hSw; (try dsimp only at hSw); go_simp; (try with_reducible rfl))
  try simp only [Act.put, List.setIfInBounds_toArray, List.set_cons_zero, List.set_cons_succ]
  refine wpAnyH_take (i := 42) (oi := ?oz1x42) (v := ?vz1x42) ?hiz1x42 (by kernel_rfl) (by kernel_rfl) (by kernel_rfl) (fun _ _ _ h => h) ?yz1x42 (by assumption) ?rz1x42
  case hiz1x42 => (simp only [List.getElem?_toArray, List.getElem?_cons_succ, List.getElem?_cons_zero]; rfl)
  case yz1x42 => (refine Or.inl ⟨by rfl, ?_⟩; intro w' hSw; (try dsimp only at hSw); go_simp; (try with_reducible rfl))
  try simp only [Act.put, List.setIfInBounds_toArray, List.set_cons_zero, List.set_cons_succ]
  refine wpAnyH_take (i := 43) (oi := ?oz1x43) (v := ?vz1x43) ?hiz1x43 (by kernel_rfl) (by kernel_rfl) (by kernel_rfl) (fun _ _ _ h => h) ?yz1x43 (by assumption) ?rz1x43
  case hiz1x43 => (simp only [List.getElem?_toArray, List.getElem?_cons_succ, List.getElem?_cons_zero]; rfl)
  case yz1x43 => (refine Or.inl ⟨by rfl, ?_⟩; intro w' hSw; (try dsimp only at hSw); go_simp; (try with_reducible rfl))
  try simp only [Act.put, List.setIfInBounds_toArray, List.set_cons_zero, List.set_cons_succ]
  refine wpAnyH_take (i := 44) (oi := ?oz1x44) (v := ?vz1x44) ?hiz1x44 (by kernel_rfl) (by kernel_rfl) (by kernel_rfl) (fun _ _ _ h => h) ?yz1x44 (by assumption) ?rz1x44
  case hiz1x44 => (simp only [List.getElem?_toArray, List.getElem?_cons_succ, List.getElem?_cons_zero]; rfl)
  case yz1x44 => (refine Or.inl ⟨by rfl, ?_⟩; intro w' hSw; (try dsimp only at hSw); go_simp; (try with_reducible rfl))
  try simp only [Act.put, List.setIfInBounds_toArray, List.set_cons_zero, List.set_cons_succ]
  refine wpAnyH_take (i := 45) (oi := ?oz1x45) (v := ?vz1x45) ?hiz1x45 (by kernel_rfl) (by kernel_rfl) (by kernel_rfl) (fun _ _ _ h => h) ?yz1x45 (by assumption) ?rz1x45
  case hiz1x45 => (simp only [List.getElem?_toArray, List.getElem?_cons_succ, List.getElem?_cons_zero]; rfl)
  case yz1x45 => (refine Or.inl ⟨by rfl, ?_⟩; intro w' hSw; (try dsimp only at hSw); go_simp; (try with_reducible rfl))
  try simp only [Act.put, List.setIfInBounds_toArray, List.set_cons_zero, List.set_cons_succ]
  refine wpAnyH_take (i := 46) (oi := ?oz1x46) (v := ?vz1x46) ?hiz1x46 (by kernel_rfl) (by kernel_rfl) (by kernel_rfl) (fun _ _ _ h => h) ?yz1x46 (by assumption) ?rz1x46
  case hiz1x46 => (simp only [List.getElem?_toArray, List.getElem?_cons_succ, List.getElem?_cons_zero]; rfl)
  case yz1x46 => (refine Or.inl ⟨by rfl, ?_⟩; intro w' hSw; (try dsimp only at hSw); go_simp; (try with_reducible rfl))
  try simp only [Act.put, List.setIfInBounds_toArray, List.set_cons_zero, List.set_cons_succ]
  refine wpAnyH_take (i := 47) (oi := ?oz1x47) (v := ?vz1x47) ?hiz1x47 (by kernel_rfl) (by kernel_rfl) (by kernel_rfl) (fun _ _ _ h => h) ?yz1x47 (by assumption) ?rz1x47
  case hiz1x47 => (simp only [List.getElem?_toArray, List.getElem?_cons_succ, List.getElem?_cons_zero]; rfl)
  case yz1x47 => (refine Or.inl ⟨by rfl, ?_⟩; intro w' hSw; (try dsimp only at hSw); go_simp; (try with_reducible rfl))
  try simp only [Act.put, List.setIfInBounds_toArray, List.set_cons_zero, List.set_cons_succ]
  refine wpAnyH_take (i := 48) (oi := ?oz1x48) (v := ?vz1x48) ?hiz1x48 (by kernel_rfl) (by kernel_rfl) (by kernel_rfl) (fun _ _ _ h => h) ?yz1x48 (by assumption) ?rz1x48
  case hiz1x48 => (simp only [List.getElem?_toArray, List.getElem?_cons_succ, List.getElem?_cons_zero]; rfl)
  case yz1x48 => (refine Or.inl ⟨by rfl, ?_⟩; intro w' hSw; (try dsimp only at hSw); go_simp; (try with_reducible rfl))
  try simp only [Act.put, List.setIfInBounds_toArray, List.set_cons_zero, List.set_cons_succ]
  refine wpAnyH_ready (rs := [49]) (by kernel_rfl) (by simp) ?_
  refine AllReadyH.cons (o := ?oz1x49) ?hiz1x49 ?hstz1x49 AllReadyH.nil
  case hiz1x49 => (simp only [List.getElem?_toArray, List.getElem?_cons_succ, List.getElem?_cons_zero]; rfl)
  intro K hK
  go_simp
  (go_at_call 12; (with_reducible refine (N1.out _).mono ?_); rintro e w21 ⟨rfl, hb21⟩)
  go_wp2_with fail
  refine hK.out _ _ ⟨Bx.Blk.keep hHeld.1 hb21, Bx.keep_cell hb21 hHeld.2.1, Bx.keep_cell hb21 hHeld.2.2.1, Bx.keep_cell hb21 hHeld.2.2.2.1, Bx.keep_cell hb21 hHeld.2.2.2.2.1, Bx.keep_cell hb21 hHeld.2.2.2.2.2.1, Bx.keep_cell hb21 hHeld.2.2.2.2.2.2.1, Bx.keep_cell hb21 hHeld.2.2.2.2.2.2.2.1, Bx.keep_cell hb21 hHeld.2.2.2.2.2.2.2.2.1, Bx.keep_cell hb21 hHeld.2.2.2.2.2.2.2.2.2⟩ (fun hNew => ?_)
  clear hHeld
  have hHeld := hNew
  clear hNew hK K
  replace bel := Lib.hid (Bx.then_below bel.out hb21)
  replace C1 := Lib.hid (C1.out.keep hb21)
  replace D2 := Lib.hid (D2.out.keep hb21)
  replace E4 := Lib.hid (E4.out.keep hb21)
  replace F6 := Lib.hid (F6.out.keep hb21)
  replace G8 := Lib.hid (G8.out.keep hb21)
  replace H10 := Lib.hid (H10.out.keep hb21)
  clear hb21
  refine wpAnyH_take (i := 50) (oi := ?oz1x50) (v := ?vz1x50) ?hiz1x50 (by kernel_rfl) (by kernel_rfl) (by kernel_rfl) (fun _ _ _ h => h) ?yz1x50 (by assumption) ?rz1x50
  case hiz1x50 => (simp only [List.getElem?_toArray, List.getElem?_cons_succ, List.getElem?_cons_zero]; rfl)
  case yz1x50 => (refine Or.inl ⟨by rfl, ?_⟩; intro w' hSw; (try dsimp only at hSw); go_simp; (try with_reducible rfl))
  try simp only [Act.put, List.setIfInBounds_toArray, List.set_cons_zero, List.set_cons_succ]
  refine wpAnyH_take (i := 51) (oi := ?oz1x51) (v := ?vz1x51) ?hiz1x51 (by kernel_rfl) (by kernel_rfl) (by kernel_rfl) (fun _ _ _ h => h) ?yz1x51 (by assumption) ?rz1x51
  case hiz1x51 => (simp only [List.getElem?_toArray, List.getElem?_cons_succ, List.getElem?_cons_zero]; rfl)
  case yz1x51 => (refine Or.inl ⟨by rfl, ?_⟩; intro w' hSw; (try dsimp only at hSw); go_simp; (try with_reducible rfl))
  try simp only [Act.put, List.setIfInBounds_toArray, List.set_cons_zero, List.set_cons_succ]
  refine wpAnyH_take (i := 52) (oi := ?oz1x52) (v := ?vz1x52) ?hiz1x52 (by kernel_rfl) (by kernel_rfl) (by kernel_rfl) (fun _ _ _ h => h) ?yz1x52 (by assumption) ?rz1x52
  case hiz1x52 => (simp only [List.getElem?_toArray, List.getElem?_cons_succ, List.getElem?_cons_zero]; rfl)
  case yz1x52 => (refine Or.inl ⟨by rfl, ?_⟩; intro w' hSw; (try dsimp only at hSw); go_simp; (try with_reducible rfl))
  try simp only [Act.put, List.setIfInBounds_toArray, List.set_cons_zero, List.set_cons_succ]
  refine wpAnyH_ready (rs := [53]) (by kernel_rfl) (by simp) ?_
  refine AllReadyH.cons (o := ?oz1x53) ?hiz1x53 ?hstz1x53 AllReadyH.nil
  case hiz1x53 => (simp only [List.getElem?_toArray, List.getElem?_cons_succ, List.getElem?_cons_zero]; rfl)
  intro K hK
  go_simp
  (go_at_call 12; (with_reducible refine (N2.out _).mono ?_); rintro e w22 ⟨rfl, hb22⟩)
  go_wp2_with fail
  refine hK.out _ _ ⟨Bx.Blk.keep hHeld.1 hb22, Bx.keep_cell hb22 hHeld.2.1, Bx.keep_cell hb22 hHeld.2.2.1, Bx.keep_cell hb22 hHeld.2.2.2.1, Bx.keep_cell hb22 hHeld.2.2.2.2.1, Bx.keep_cell hb22 hHeld.2.2.2.2.2.1, Bx.keep_cell hb22 hHeld.2.2.2.2.2.2.1, Bx.keep_cell hb22 hHeld.2.2.2.2.2.2.2.1, Bx.keep_cell hb22 hHeld.2.2.2.2.2.2.2.2.1, Bx.keep_cell hb22 hHeld.2.2.2.2.2.2.2.2.2⟩ (fun hNew => ?_)
  clear hHeld
  have hHeld := hNew
  clear hNew hK K
  replace bel := Lib.hid (Bx.then_below bel.out hb22)
  replace C1 := Lib.hid (C1.out.keep hb22)
  replace D2 := Lib.hid (D2.out.keep hb22)
  replace E4 := Lib.hid (E4.out.keep hb22)
  replace F6 := Lib.hid (F6.out.keep hb22)
  replace G8 := Lib.hid (G8.out.keep hb22)
  replace H10 := Lib.hid (H10.out.keep hb22)
  clear hb22
  refine wpAnyH_take (i := 54) (oi := ?oz1x54) (v := ?vz1x54) ?hiz1x54 (by kernel_rfl) (by kernel_rfl) (by kernel_rfl) (fun _ _ _ h => h) ?yz1x54 (by assumption) ?rz1x54
  case hiz1x54 => (simp only [List.getElem?_toArray, List.getElem?_cons_succ, List.getElem?_cons_zero]; rfl)
  case yz1x54 => (refine Or.inl ⟨by rfl, ?_⟩; intro w' hSw; (try dsimp only at hSw); go_simp; (try with_reducible rfl))
  try simp only [Act.put, List.setIfInBounds_toArray, List.set_cons_zero, List.set_cons_succ]
  refine wpAnyH_take (i := 55) (oi := ?oz1x55) (v := ?vz1x55) ?hiz1x55 (by kernel_rfl) (by kernel_rfl) (by kernel_rfl) (fun _ _ _ h => h) ?yz1x55 (by assumption) ?rz1x55
  case hiz1x55 => (simp only [List.getElem?_toArray, List.getElem?_cons_succ, List.getElem?_cons_zero]; rfl)
  case yz1x55 => (refine Or.inl ⟨by rfl, ?_⟩; intro w' hSw; (try dsimp only at hSw); go_simp; (try with_reducible rfl))
  try simp only [Act.put, List.setIfInBounds_toArray, List.set_cons_zero, List.set_cons_succ]
  refine wpAnyH_take (i := 56) (oi := ?oz1x56) (v := ?vz1x56) ?hiz1x56 (by kernel_rfl) (by kernel_rfl) (by kernel_rfl) (fun _ _ _ h => h) ?yz1x56 (by assumption) ?rz1x56
  case hiz1x56 => (simp only [List.getElem?_toArray, List.getElem?_cons_succ, List.getElem?_cons_zero]; rfl)
  case yz1x56 => (refine Or.inl ⟨by rfl, ?_⟩; intro w' hSw; (try dsimp only at hSw); go_simp; (try with_reducible rfl))
  try simp only [Act.put, List.setIfInBounds_toArray, List.set_cons_zero, List.set_cons_succ]
  refine wpAnyH_ready (rs := [57]) (by kernel_rfl) (by simp) ?_
  refine AllReadyH.cons (o := ?oz1x57) ?hiz1x57 ?hstz1x57 AllReadyH.nil
  case hiz1x57 => (simp only [List.getElem?_toArray, List.getElem?_cons_succ, List.getElem?_cons_zero]; rfl)
  intro K hK
  go_simp
  (go_at_call 12; (with_reducible refine (N3.out _).mono ?_); rintro e w23 ⟨rfl, hb23⟩)
  go_wp2_with fail
  refine hK.out _ _ ⟨Bx.Blk.keep hHeld.1 hb23, Bx.keep_cell hb23 hHeld.2.1, Bx.keep_cell hb23 hHeld.2.2.1, Bx.keep_cell hb23 hHeld.2.2.2.1, Bx.keep_cell hb23 hHeld.2.2.2.2.1, Bx.keep_cell hb23 hHeld.2.2.2.2.2.1, Bx.keep_cell hb23 hHeld.2.2.2.2.2.2.1, Bx.keep_cell hb23 hHeld.2.2.2.2.2.2.2.1, Bx.keep_cell hb23 hHeld.2.2.2.2.2.2.2.2.1, Bx.keep_cell hb23 hHeld.2.2.2.2.2.2.2.2.2⟩ (fun hNew => ?_)
  clear hHeld
  have hHeld := hNew
  clear hNew hK K
  replace bel := Lib.hid (Bx.then_below bel.out hb23)
  replace C1 := Lib.hid (C1.out.keep hb23)
  replace D2 := Lib.hid (D2.out.keep hb23)
  replace E4 := Lib.hid (E4.out.keep hb23)
  replace F6 := Lib.hid (F6.out.keep hb23)
  replace G8 := Lib.hid (G8.out.keep hb23)
  replace H10 := Lib.hid (H10.out.keep hb23)
  clear hb23
  refine wpAnyH_take (i := 58) (oi := ?oz1x58) (v := ?vz1x58) ?hiz1x58 (by kernel_rfl) (by kernel_rfl) (by kernel_rfl) (fun _ _ _ h => h) ?yz1x58 (by assumption) ?rz1x58
  case hiz1x58 => (simp only [List.getElem?_toArray, List.getElem?_cons_succ, List.getElem?_cons_zero]; rfl)
  case yz1x58 => (refine Or.inl ⟨by rfl, ?_⟩; intro w' hSw; (try dsimp only at hSw); go_simp; (try with_reducible rfl))
  try simp only [Act.put, List.setIfInBounds_toArray, List.set_cons_zero, List.set_cons_succ]
  refine wpAnyH_take (i := 59) (oi := ?oz1x59) (v := ?vz1x59) ?hiz1x59 (by kernel_rfl) (by kernel_rfl) (by kernel_rfl) (fun _ _ _ h => h) ?yz1x59 (by assumption) ?rz1x59
  case hiz1x59 => (simp only [List.getElem?_toArray, List.getElem?_cons_succ, List.getElem?_cons_zero]; rfl)
  case yz1x59 => (refine Or.inl ⟨by rfl, ?_⟩; intro w' hSw; (try dsimp only at hSw); go_simp; (try with_reducible rfl))
  try simp only [Act.put, List.setIfInBounds_toArray, List.set_cons_zero, List.set_cons_succ]
  refine wpAnyH_take (i := 60) (oi := ?oz1x60) (v := ?vz1x60) ?hiz1x60 (by kernel_rfl) (by kernel_rfl) (by kernel_rfl) (fun _ _ _ h => h) ?yz1x60 (by assumption) ?rz1x60
  case hiz1x60 => (simp only [List.getElem?_toArray, List.getElem?_cons_succ, List.getElem?_cons_zero]; rfl)
  case yz1x60 => (refine Or.inl ⟨by rfl, ?_⟩; intro w' hSw; (try dsimp only at hSw); go_simp; (try with_reducible rfl))
  try simp only [Act.put, List.setIfInBounds_toArray, List.set_cons_zero, List.set_cons_succ]
  refine wpAnyH_take (i := 61) (oi := ?oz1x61) (v := cdv k0) ?hiz1x61 (by kernel_rfl) (by kernel_rfl) (by kernel_rfl) (fun _ _ _ h => h) ?yz1x61 (by assumption) ?rz1x61
  case hiz1x61 => (simp only [List.getElem?_toArray, List.getElem?_cons_succ, List.getElem?_cons_zero]; rfl)
  case yz1x61 => (refine cd_yields rfl rfl (n1) rfl k0 ?_; intro w' hS; exact hS.1)
  try simp only [Act.put, List.setIfInBounds_toArray, List.set_cons_zero, List.set_cons_succ]
  refine wpAnyH_take (i := 63) (oi := ?oz1x63) (v := cdv k0) ?hiz1x63 (by kernel_rfl) (by kernel_rfl) (by kernel_rfl) (fun _ _ _ h => h) ?yz1x63 (by assumption) ?rz1x63
  case hiz1x63 => (simp only [List.getElem?_toArray, List.getElem?_cons_succ, List.getElem?_cons_zero]; rfl)
  case yz1x63 => (refine cd_yields rfl rfl (n1) rfl k0 ?_; intro w' hS; exact hS.1)
  try simp only [Act.put, List.setIfInBounds_toArray, List.set_cons_zero, List.set_cons_succ]
  refine wpAnyH_ready (rs := [62]) (by kernel_rfl) (by simp) ?_
  refine AllReadyH.cons (o := ?oz1x62) ?hiz1x62 ?hstz1x62 AllReadyH.nil
  case hiz1x62 => (simp only [List.getElem?_toArray, List.getElem?_cons_succ, List.getElem?_cons_zero]; rfl)
  intro K hK
  go_simp
  (go_at_call 8; (with_reducible refine (H6.out _).mono ?_); rintro e w24 ⟨rfl, hb24⟩)
  go_wp2_with fail
  refine hK.out _ _ ⟨Bx.Blk.keep hHeld.1 hb24, Bx.keep_cell hb24 hHeld.2.1, Bx.keep_cell hb24 hHeld.2.2.1, Bx.keep_cell hb24 hHeld.2.2.2.1, Bx.keep_cell hb24 hHeld.2.2.2.2.1, Bx.keep_cell hb24 hHeld.2.2.2.2.2.1, Bx.keep_cell hb24 hHeld.2.2.2.2.2.2.1, Bx.keep_cell hb24 hHeld.2.2.2.2.2.2.2.1, Bx.keep_cell hb24 hHeld.2.2.2.2.2.2.2.2.1, Bx.keep_cell hb24 hHeld.2.2.2.2.2.2.2.2.2⟩ (fun hNew => ?_)
  clear hHeld
  have hHeld := hNew
  clear hNew hK K
  replace bel := Lib.hid (Bx.then_below bel.out hb24)
  replace C1 := Lib.hid (C1.out.keep hb24)
  replace D2 := Lib.hid (D2.out.keep hb24)
  replace E4 := Lib.hid (E4.out.keep hb24)
  replace F6 := Lib.hid (F6.out.keep hb24)
  replace G8 := Lib.hid (G8.out.keep hb24)
  replace H10 := Lib.hid (H10.out.keep hb24)
  clear hb24
  refine wpAnyH_take (i := 64) (oi := ?oz1x64) (v := ?vz1x64) ?hiz1x64 (by kernel_rfl) (by kernel_rfl) (by kernel_rfl) (fun _ _ _ h => h) ?yz1x64 (by assumption) ?rz1x64
  case hiz1x64 => (simp only [List.getElem?_toArray, List.getElem?_cons_succ, List.getElem?_cons_zero]; rfl)
  case yz1x64 => (refine Or.inl ⟨by rfl, ?_⟩; intro w' hSw; (try dsimp only at hSw); go_simp; (try with_reducible rfl))
  try simp only [Act.put, List.setIfInBounds_toArray, List.set_cons_zero, List.set_cons_succ]
  refine wpAnyH_take (i := 65) (oi := ?oz1x65) (v := ?vz1x65) ?hiz1x65 (by kernel_rfl) (by kernel_rfl) (by kernel_rfl) (fun _ _ _ h => h) ?yz1x65 (by assumption) ?rz1x65
  case hiz1x65 => (simp only [List.getElem?_toArray, List.getElem?_cons_succ, List.getElem?_cons_zero]; rfl)
  case yz1x65 => (refine Or.inl ⟨by rfl, ?_⟩; intro w' hSw; (try dsimp only at hSw); go_simp; (try with_reducible rfl))
  try simp only [Act.put, List.setIfInBounds_toArray, List.set_cons_zero, List.set_cons_succ]
  refine wpAnyH_take (i := 66) (oi := ?oz1x66) (v := ?vz1x66) ?hiz1x66 (by kernel_rfl) (by kernel_rfl) (by kernel_rfl) (fun _ _ _ h => h) ?yz1x66 (by assumption) ?rz1x66
  case hiz1x66 => (simp only [List.getElem?_toArray, List.getElem?_cons_succ, List.getElem?_cons_zero]; rfl)
  case yz1x66 => (refine Or.inl ⟨by rfl, ?_⟩; intro w' hSw; (try dsimp only at hSw); go_simp; (try with_reducible rfl))
  try simp only [Act.put, List.setIfInBounds_toArray, List.set_cons_zero]
  refine wpAnyH_done (by kernel_rfl) ?_ _
  refine NoPanic.normal ?_
  clear hHeld
  go_wp2_with fail
  go_ret
  exact ⟨rfl, bel.out⟩

end Clk
end Go.Proofs.Ytakbmdamegjdeaa
