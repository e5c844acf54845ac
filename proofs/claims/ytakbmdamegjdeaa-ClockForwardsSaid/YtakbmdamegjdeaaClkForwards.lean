/-
  The statement ClockForwards: for every port and every two numbers the law ClockForwards returns true, and its arguments read afterwards as they read before.
-/
import Derived.Test.YtakbmdamegjdeaaClkD
import Derived.Test.YtakbmdamegjdeaaCrdOpen
import Derived.Test.YtakbmdamegjdeaaFrame
import Derived.Test.YtakbmdamegjdeaaRows
import Derived.Deep.LoopGhost
import Derived.Deep.CutBlock
namespace Go.Proofs.Ytakbmdamegjdeaa
open Go.RowKit
namespace Clk
open Pre Crd Clk

theorem ok_wf {c : Cd} (h : wfCd c) : Ok c := by
  obtain ⟨_, _, _, ht, _, hst, hhrd, hwai, hrcn, hchg, hqui, hsen, hhel⟩ := h
  exact ⟨hst.1, hwai.2, hchg.2, hqui.2, hsen.2, hhel.2, hhrd.2, hrcn.2, ht.2.2.2.2⟩

theorem rem_is (n b : Int) (hb : 0 < b) : ∃ m : Nat, (m : Int) < b ∧ (IntKind.u64.wrap n).tmod b = m := by
  have h0 : 0 ≤ IntKind.u64.wrap n := by rw [show IntKind.u64.wrap n = n % 18446744073709551616 by simp [IntKind.wrap, IntKind.bits, IntKind.signed]]; omega
  have h1 := Int.tmod_nonneg b h0
  have h2 := Int.tmod_lt_of_pos (IntKind.u64.wrap n) hb
  exact ⟨((IntKind.u64.wrap n).tmod b).toNat, by omega, by omega⟩

set_option maxRecDepth 40000 in
set_option maxHeartbeats 8000000 in
theorem walk_forwards (c : Cd) (hc : Ok c) (a b : Int) (w : World) : Calls Try.prog 5 #[cdv c, .agg #[.int .i64 a, .int .i64 b]] w fun e w' => e = .returned (.bool true) ∧ Below w.heap.size w w' := by
  obtain ⟨p, hp, hm1⟩ := rem_is a 30 (by omega)
  obtain ⟨q, hq, hm2⟩ := rem_is b 30 (by omega)
  obtain ⟨r, hr, hm3⟩ := rem_is c.st 3 (by omega)
  have hwp : IntKind.i64.wrap (p : Int) = p := by rw [IntKind.wrap_i64]; omega
  have hwq : IntKind.i64.wrap (q : Int) = q := by rw [IntKind.wrap_i64]; omega
  have hwr : IntKind.i64.wrap (r : Int) = r := by rw [IntKind.wrap_i64]; omega
  have hs1 : IntKind.i64.wrap ((p : Int) + q) = (p : Int) + q := by rw [IntKind.wrap_i64]; omega
  obtain ⟨N, hN⟩ : ∃ N, N = p + q + 2 := ⟨_, rfl⟩
  have hs2 : IntKind.i64.wrap ((p : Int) + q + 2) = N := by rw [IntKind.wrap_i64]; omega
  obtain ⟨x0, hx0⟩ : ∃ x0 : Cd, x0 = { c with up := true, role := 3, wai := (p : Int), t := ⟨c.t.a, c.t.m, c.t.h, (q : Int)⟩, st := (r : Int) } := ⟨_, rfl⟩
  have hA : Waits x0 N := by rw [hx0]; exact ⟨⟨by show _ ≤ (r : Int); omega, by show (p : Int) ≤ _; omega, hc.2.2.1, hc.2.2.2.1, hc.2.2.2.2.1, hc.2.2.2.2.2.1, hc.2.2.2.2.2.2.1, hc.2.2.2.2.2.2.2.1, by show (q : Int) ≤ _; omega⟩, rfl, rfl, by show (0 : Int) ≤ q; omega, by show (r : Int) = 2 ∨ (r : Int) = 1 ∧ max (p : Int) 1 ≤ N ∨ (r : Int) = 0 ∧ max (p : Int) 1 + max (q : Int) 1 ≤ N; omega⟩
  have hN62 : N ≤ 62 := by omega
  clear hN hp hq hr hc
  replace hA := Lib.hid hA
  replace hx0 := Lib.hid hx0
  have HW := Lib.hid awake_any
  have hi0 : (0 : Int) ≤ 0 := by omega
  have C2 : Hid (Bx.Fre (w.alloc (cdo c)) w.heap.size (cdl c)) := Lib.hid (Bx.Fre.new w (cdl c) 28)
  have bel := Lib.hid (Bx.box_below w (cdo c))
  replace C2 := Lib.hid (C2.out.more (.cells #[.int .i64 a, .int .i64 b] 35))
  have N3 : Hid (Bx.Fre ((w.alloc (cdo c)).alloc (.cells #[.int .i64 a, .int .i64 b] 35)) (w.heap.size + 1) [.int .i64 a, .int .i64 b]) := Lib.hid (Bx.Fre.new_at (W := (w.alloc (cdo c))) (k := w.heap.size + 1) [.int .i64 a, .int .i64 b] 35 (by simp))
  replace bel := Lib.hid (Bx.bel_box bel.out (.cells #[.int .i64 a, .int .i64 b] 35))
  go_enter Try.func5, Try.ntmps5
  go_upto_region 1 with fail
  generalize ((w.alloc (cdo c)).alloc (.cells #[.int .i64 a, .int .i64 b] 35)) = W0 at *
  have C2_0 := C2.out.at 0 rfl
  have C2_13 := C2.out.at 13 rfl
  have C2f0 := C2.out.2.2 0
  have C2f13 := C2.out.2.2 13
  replace N3 := Lib.hid (N3.out.other (k' := w.heap.size) (o := 0) (x := .bool true) (by omega))
  replace bel := Lib.hid (Bx.bel_set (k := w.heap.size) (o := 0) (x := .bool true) (by omega) bel.out)
  replace C2 := Lib.hid ((C2.out.set (0) (.bool true)).of (m := (cdl { c with up := true })) (by first | rfl | simp [enc, tenc]))
  replace N3 := Lib.hid (N3.out.other (k' := w.heap.size) (o := 13) (x := .int .i64 3) (by omega))
  replace bel := Lib.hid (Bx.bel_set (k := w.heap.size) (o := 13) (x := .int .i64 3) (by omega) bel.out)
  replace C2 := Lib.hid ((C2.out.set (13) (.int .i64 3)).of (m := (cdl { c with up := true, role := 3 })) (by first | rfl | simp [enc, tenc]))
  go_upto_region 2 with fail
  clear C2_0 C2_13 C2f0 C2f13
  generalize ((W0.setCell ⟨w.heap.size, 0, none⟩ (.bool true)).setCell ⟨w.heap.size, 13, none⟩ (.int .i64 3)) = W1 at *
  refine wp_region_noPanic ?_
  refine wp_region_held_drew (S := fun w' => w'.cell? ⟨w.heap.size + 1, 0, none⟩ = some (.int .i64 a) ∧ w'.cell? ⟨w.heap.size + 1, 1, none⟩ = some (.int .i64 b)) (by kernel_rfl) (by exact ⟨N3.out.at 0 rfl, N3.out.at 1 rfl⟩) (fun hHeld => ?_)
  replace bel := Lib.hid (Bx.bel_drewn bel.out)
  replace C2 := Lib.hid (C2.out.drew)
  replace N3 := Lib.hid (N3.out.drew)
  generalize W1.drew = wd2 at *
  refine wpAnyH_take (i := 0) (oi := ?oz2x0) (v := ?vz2x0) ?hiz2x0 (by kernel_rfl) (by kernel_rfl) (by kernel_rfl) (fun _ _ _ h => h) ?yz2x0 hHeld ?rz2x0
  case hiz2x0 => (simp only [List.getElem?_toArray, List.getElem?_cons_zero]; rfl)
  case yz2x0 => (refine Or.inl ⟨by rfl, ?_⟩; intro w' hSw; (try dsimp only at hSw); go_simp; (try with_reducible rfl))
  try simp only [Act.put, List.setIfInBounds_toArray, List.set_cons_zero, List.set_cons_succ]
  refine wpAnyH_take (i := 1) (oi := ?oz2x1) (v := ?vz2x1) ?hiz2x1 (by kernel_rfl) (by kernel_rfl) (by kernel_rfl) (fun _ _ _ h => h) ?yz2x1 hHeld ?rz2x1
  case hiz2x1 => (simp only [List.getElem?_toArray, List.getElem?_cons_succ, List.getElem?_cons_zero]; rfl)
  case yz2x1 => (refine Or.inl ⟨by rfl, ?_⟩; intro w' hSw; (try dsimp only at hSw); go_simp; (try with_reducible rfl))
  try simp only [Act.put, List.setIfInBounds_toArray, List.set_cons_zero, List.set_cons_succ]
  refine wpAnyH_take (i := 2) (oi := ?oz2x2) (v := ?vz2x2) ?hiz2x2 (by kernel_rfl) (by kernel_rfl) (by kernel_rfl) (fun _ _ _ h => h) ?yz2x2 hHeld ?rz2x2
  case hiz2x2 => (simp only [List.getElem?_toArray, List.getElem?_cons_succ, List.getElem?_cons_zero]; rfl)
  case yz2x2 => (refine Or.inl ⟨by rfl, ?_⟩; intro w' hSw; (try dsimp only at hSw); go_simp; (try with_reducible rfl))
  try simp only [Act.put, List.setIfInBounds_toArray, List.set_cons_zero, List.set_cons_succ]
  refine wpAnyH_take (i := 3) (oi := ?oz2x3) (v := ?vz2x3) ?hiz2x3 (by kernel_rfl) (by kernel_rfl) (by kernel_rfl) (fun _ _ _ h => h) ?yz2x3 hHeld ?rz2x3
  case hiz2x3 => (simp only [List.getElem?_toArray, List.getElem?_cons_succ, List.getElem?_cons_zero]; rfl)
  case yz2x3 => (refine Or.inl ⟨by rfl, ?_⟩; intro w' hSw; (try dsimp only at hSw); go_simp; (try with_reducible rfl))
  try simp only [Act.put, List.setIfInBounds_toArray, List.set_cons_zero, List.set_cons_succ]
  refine wpAnyH_take (i := 4) (oi := ?oz2x4) (v := ?vz2x4) ?hiz2x4 (by kernel_rfl) (by kernel_rfl) (by kernel_rfl) (fun _ _ _ h => h) ?yz2x4 hHeld ?rz2x4
  case hiz2x4 => (simp only [List.getElem?_toArray, List.getElem?_cons_succ, List.getElem?_cons_zero]; rfl)
  case yz2x4 => (refine Or.inl ⟨by rfl, ?_⟩; intro w' hSw; (try dsimp only at hSw); go_simp; (try with_reducible rfl))
  try simp only [Act.put, List.setIfInBounds_toArray, List.set_cons_zero, List.set_cons_succ]
  refine wpAnyH_take (i := 5) (oi := ?oz2x5) (v := ?vz2x5) ?hiz2x5 (by kernel_rfl) (by kernel_rfl) (by kernel_rfl) (fun _ _ _ h => h) ?yz2x5 hHeld ?rz2x5
  case hiz2x5 => (simp only [List.getElem?_toArray, List.getElem?_cons_succ, List.getElem?_cons_zero]; rfl)
  case yz2x5 => (refine Or.inl ⟨by rfl, ?_⟩; intro w' hSw; (try dsimp only at hSw); go_simp; (try with_reducible rfl))
  try simp only [Act.put, List.setIfInBounds_toArray, List.set_cons_zero, List.set_cons_succ]
  refine wpAnyH_take (i := 6) (oi := ?oz2x6) (v := ?vz2x6) ?hiz2x6 (by kernel_rfl) (by kernel_rfl) (by kernel_rfl) (fun _ _ _ h => h) ?yz2x6 hHeld ?rz2x6
  case hiz2x6 => (simp only [List.getElem?_toArray, List.getElem?_cons_succ, List.getElem?_cons_zero]; rfl)
  case yz2x6 => (refine Or.inl ⟨by rfl, ?_⟩; intro w' hSw; (try dsimp only at hSw); go_simp; (try with_reducible rfl))
  try simp only [Act.put, List.setIfInBounds_toArray, List.set_cons_zero, List.set_cons_succ]
  refine wpAnyH_take (i := 7) (oi := ?oz2x7) (v := ?vz2x7) ?hiz2x7 (by kernel_rfl) (by kernel_rfl) (by kernel_rfl) (fun _ _ _ h => h) ?yz2x7 hHeld ?rz2x7
  case hiz2x7 => (simp only [List.getElem?_toArray, List.getElem?_cons_succ, List.getElem?_cons_zero]; rfl)
  case yz2x7 => (refine Or.inl ⟨by rfl, ?_⟩; intro w' hSw; (try dsimp only at hSw); go_simp; (try with_reducible rfl))
  try simp only [Act.put, List.setIfInBounds_toArray, List.set_cons_zero, List.set_cons_succ]
  refine wpAnyH_take (i := 8) (oi := ?oz2x8) (v := ?vz2x8) ?hiz2x8 (by kernel_rfl) (by kernel_rfl) (by kernel_rfl) (fun _ _ _ h => h) ?yz2x8 hHeld ?rz2x8
  case hiz2x8 => (simp only [List.getElem?_toArray, List.getElem?_cons_succ, List.getElem?_cons_zero]; rfl)
  case yz2x8 => (refine Or.inl ⟨by rfl, ?_⟩; intro w' hSw; (try dsimp only at hSw); go_simp; (try with_reducible rfl))
  try simp only [Act.put, List.setIfInBounds_toArray, List.set_cons_zero, List.set_cons_succ]
  refine wpAnyH_take (i := 9) (oi := ?oz2x9) (v := ?vz2x9) ?hiz2x9 (by kernel_rfl) (by kernel_rfl) (by kernel_rfl) (fun _ _ _ h => h) ?yz2x9 hHeld ?rz2x9
  case hiz2x9 => (simp only [List.getElem?_toArray, List.getElem?_cons_succ, List.getElem?_cons_zero]; rfl)
  case yz2x9 => (refine Or.inl ⟨by rfl, ?_⟩; intro w' hSw; (try dsimp only at hSw); go_simp; (try with_reducible rfl))
  try simp only [Act.put, List.setIfInBounds_toArray, List.set_cons_zero, List.set_cons_succ]
  refine wpAnyH_take (i := 10) (oi := ?oz2x10) (v := ?vz2x10) ?hiz2x10 (by kernel_rfl) (by kernel_rfl) (by kernel_rfl) (fun _ _ _ h => h) ?yz2x10 hHeld ?rz2x10
  case hiz2x10 => (simp only [List.getElem?_toArray, List.getElem?_cons_succ, List.getElem?_cons_zero]; rfl)
  case yz2x10 => (refine Or.inl ⟨by rfl, ?_⟩; intro w' hSw; (try dsimp only at hSw); go_simp; (try with_reducible rfl))
  try simp only [Act.put, List.setIfInBounds_toArray, List.set_cons_zero, List.set_cons_succ]
  refine wpAnyH_ready (rs := [11]) (by kernel_rfl) (by simp) ?_
  refine AllReadyH.cons (o := ?oz2x11) ?hiz2x11 ?hstz2x11 AllReadyH.nil
  case hiz2x11 => (simp only [List.getElem?_toArray, List.getElem?_cons_succ, List.getElem?_cons_zero]; rfl)
  intro K hK
  have q6 := C2.out.at 25 rfl
  have f6 := C2.out.2.2 25
  go_simp
  refine hK.out _ _ ⟨Bx.cell_other (by omega) hHeld.1, Bx.cell_other (by omega) hHeld.2⟩ (fun hNew => ?_)
  clear hHeld
  have hHeld := hNew
  clear hNew hK K
  clear q6 f6
  replace N3 := Lib.hid (N3.out.other (k' := w.heap.size) (o := 25) (x := .int .i64 p) (by omega))
  replace bel := Lib.hid (Bx.bel_set (k := w.heap.size) (o := 25) (x := .int .i64 p) (by omega) bel.out)
  replace C2 := Lib.hid ((C2.out.set (25) (.int .i64 p)).of (m := (cdl { c with up := true, role := 3, wai := (p : Int) })) (by first | rfl | simp [enc, tenc]))
  refine wpAnyH_take (i := 12) (oi := ?oz2x12) (v := ?vz2x12) ?hiz2x12 (by kernel_rfl) (by kernel_rfl) (by kernel_rfl) (fun _ _ _ h => h) ?yz2x12 hHeld ?rz2x12
  case hiz2x12 => (simp only [List.getElem?_toArray, List.getElem?_cons_succ, List.getElem?_cons_zero]; rfl)
  case yz2x12 => (refine Or.inl ⟨by rfl, ?_⟩; intro w' hSw; (try dsimp only at hSw); go_simp; (try with_reducible rfl))
  try simp only [Act.put, List.setIfInBounds_toArray, List.set_cons_zero, List.set_cons_succ]
  refine wpAnyH_take (i := 13) (oi := ?oz2x13) (v := ?vz2x13) ?hiz2x13 (by kernel_rfl) (by kernel_rfl) (by kernel_rfl) (fun _ _ _ h => h) ?yz2x13 hHeld ?rz2x13
  case hiz2x13 => (simp only [List.getElem?_toArray, List.getElem?_cons_succ, List.getElem?_cons_zero]; rfl)
  case yz2x13 => (refine Or.inl ⟨by rfl, ?_⟩; intro w' hSw; (try dsimp only at hSw); go_simp; (try with_reducible rfl))
  try simp only [Act.put, List.setIfInBounds_toArray, List.set_cons_zero, List.set_cons_succ]
  refine wpAnyH_ready (rs := [14]) (by kernel_rfl) (by simp) ?_
  refine AllReadyH.cons (o := ?oz2x14) ?hiz2x14 ?hstz2x14 AllReadyH.nil
  case hiz2x14 => (simp only [List.getElem?_toArray, List.getElem?_cons_succ, List.getElem?_cons_zero]; rfl)
  intro K hK
  have q6 := C2.out.at 12 rfl
  have f6 := C2.out.2.2 12
  go_simp
  refine hK.out _ _ ⟨Bx.cell_other (by omega) hHeld.1, Bx.cell_other (by omega) hHeld.2⟩ (fun hNew => ?_)
  clear hHeld
  have hHeld := hNew
  clear hNew hK K
  clear q6 f6
  replace N3 := Lib.hid (N3.out.other (k' := w.heap.size) (o := 12) (x := .int .i64 q) (by omega))
  replace bel := Lib.hid (Bx.bel_set (k := w.heap.size) (o := 12) (x := .int .i64 q) (by omega) bel.out)
  replace C2 := Lib.hid ((C2.out.set (12) (.int .i64 q)).of (m := (cdl { c with up := true, role := 3, wai := (p : Int), t := ⟨c.t.a, c.t.m, c.t.h, (q : Int)⟩ })) (by first | rfl | simp [enc, tenc]))
  refine wpAnyH_done (by kernel_rfl) ?_ _
  refine NoPanic.normal ?_
  clear hm1 hm2 hwp hwq
  go_upto_region 3 with fail
  generalize ((wd2.setCell ⟨w.heap.size, 25, none⟩ (.int .i64 p)).setCell ⟨w.heap.size, 12, none⟩ (.int .i64 q)) = W3 at *
  have C2_14 := C2.out.at 14 rfl
  have C2f14 := C2.out.2.2 14
  replace N3 := Lib.hid (N3.out.other (k' := w.heap.size) (o := 14) (x := .int .i64 r) (by omega))
  replace bel := Lib.hid (Bx.bel_set (k := w.heap.size) (o := 14) (x := .int .i64 r) (by omega) bel.out)
  replace C2 := Lib.hid ((C2.out.set (14) (.int .i64 r)).of (m := (cdl { c with up := true, role := 3, wai := (p : Int), t := ⟨c.t.a, c.t.m, c.t.h, (q : Int)⟩, st := (r : Int) })) (by first | rfl | simp [enc, tenc]))
  go_upto_region 4 with fail
  clear C2_14 C2f14
  generalize (W3.setCell ⟨w.heap.size, 14, none⟩ (.int .i64 r)) = W4 at *
  replace C2 := Lib.hid (C2.out.of (m := cdl x0) (by rw [hx0.out]))
  clear hm3 hwr
  have x25 := C2.out.at 25 (v := .int .i64 p) (by rw [hx0.out]; rfl)
  have x12 := C2.out.at 12 (v := .int .i64 q) (by rw [hx0.out]; rfl)
  go_wp2_with (first | ((with_reducible refine cd_load ?_ ?_ (w.heap.size) ?_ x0 ?_ ?_); (· rfl); (· rfl); (· rfl); (· exact C2.out.blk)))
  clear x25 x12 hs1 hs2
  go_loopg [35] N (fun g s35 wr => ∃ (k : Nat) (x : Cd), k + g = N ∧ s35 = .int .i64 k ∧ Aside (Waits x g) ∧ Aside (Bx.Fre wr w.heap.size (cdl x)) ∧ Aside (Below w.heap.size w wr))
  case atStart => exact ⟨0, x0, by omega, rfl, hA.out, C2.out, bel.out⟩
  case round =>
    clear N3
    clear C2 bel hA hx0
    obtain ⟨k, x, hkg, rfl, HA, C2, bel⟩ := hrel
    cases gk with
    | zero =>
      have hkz : ¬ ((k : Int) < N) := by omega
      have he := waits_end (c := x) HA
      have x14 := C2.out.at 14 rfl
      rw [he] at x14
      clear HA he
      go_wp2_with (first | ((with_reducible refine cd_load ?_ ?_ (w.heap.size) ?_ x ?_ ?_); (· rfl); (· rfl); (· rfl); (· exact C2.out.blk)))
      clear x14
      refine (HW.out _).mono ?_; rintro e w9 ⟨rfl, hb⟩
      replace C2 := Lib.hid (C2.out.keep hb)
      replace bel := Lib.hid (Bx.then_below bel.out hb)
      clear hb
      go_wp2_with fail
      go_ret
      exact ⟨rfl, bel.out⟩
    | succ g =>
      have hkz : (k : Int) < N := by omega
      obtain ⟨a1, a2⟩ := waits_next (c := x) (r := g) HA
      have HT : Hid (∀ w, Calls Try.prog 6 #[cdv x] w fun e w' => e = .returned (.tuple #[cdv (tckC x), .bool (tckB x)]) ∧ Below w.heap.size w w') := Lib.hid (tick_any x HA.1)
      have hst : 0 ≤ x.st ∧ x.st ≤ 2 := by have := HA.2.2.2.2; omega
      generalize tckC x = d at *
      generalize tckB x = b2 at *
      clear HA
      replace a1 := Lib.hid a1
      have hws : IntKind.i64.wrap (x.st + 1) = x.st + 1 := by rw [IntKind.wrap_i64]; omega
      have hl : decide (d.st < x.st) = false := by rw [decide_eq_false_iff_not]; omega
      have hg : decide (x.st + 1 < d.st) = false := by rw [decide_eq_false_iff_not]; omega
      clear a2 hst
      go_wp2_with (first | ((with_reducible refine cd_load ?_ ?_ (w.heap.size) ?_ x ?_ ?_); (· rfl); (· rfl); (· rfl); (· exact C2.out.blk)))
      refine (HT.out _).mono ?_; rintro e w1 ⟨rfl, hb⟩
      replace C2 := Lib.hid (C2.out.keep hb)
      replace bel := Lib.hid (Bx.then_below bel.out hb)
      clear hb
      have h26 : w.heap.size < w1.heap.size := C2.out.2.1
      replace C2 := Lib.hid (C2.out.more (cdo d))
      have D5 : Hid (Bx.Fre (w1.alloc (cdo d)) w1.heap.size (cdl d)) := Lib.hid (Bx.Fre.new w1 (cdl d) 28)
      replace bel := Lib.hid (Bx.bel_box bel.out (cdo d))
      go_upto_region 7 with (first | ((with_reducible refine cd_fresh ?_ ?_ (w1.heap.size) d ?_ ?_ w1 (cdl Cd.zero) ?_ ?_ ?_ ?_); (· rfl); (· rfl); (· rfl); (· rfl); (· rfl); (· rfl); (· first | rfl | (simp; done))))
      obtain ⟨n5, hn5⟩ : ∃ k, k = w1.heap.size := ⟨_, rfl⟩
      rw [← hn5] at D5 ⊢
      generalize (w1.alloc (cdo d)) = VD5 at *
      clear hn5
      have d14 := D5.out.at 14 rfl
      have x14 := C2.out.at 14 rfl
      go_upto_region 9 with fail
      clear d14 x14 hws hl hg
      go_upto_region 10 with (first | ((with_reducible refine cd_load ?_ ?_ (n5) ?_ d ?_ ?_); (· rfl); (· rfl); (· rfl); (· exact D5.out.blk)) | ((with_reducible refine cd_store ?_ ?_ (w.heap.size) d ?_ ?_ (cdl x) ?_ ?_ ?_); (· rfl); (· rfl); (· rfl); (· rfl); (· rfl); (· exact C2.out.own)))
      clear D5
      replace bel := Lib.hid (Bx.bel_put_at (k := w.heap.size) (cdl d) 0 (by omega) bel.out)
      replace C2 := Lib.hid (C2.out.full (m := (cdl d)) (rfl))
      generalize (VD5.setCells (w.heap.size) 0 (cdl d)) = V9 at *
      go_wp2_with (first | ((with_reducible refine cd_load ?_ ?_ (w.heap.size) ?_ d ?_ ?_); (· rfl); (· rfl); (· rfl); (· exact C2.out.blk)))
      go_roundg g
      case measure => omega
      case rel => exact ⟨k + 1, d, by omega, by go_num, a1.out, C2.out, bel.out⟩

theorem law_forwards (w : World) (c : Cd) (hc : wfCd c) (a b : Int) (_ha : (Lit.int .i64 a).wf = true) (_hb : (Lit.int .i64 b).wf = true) : Calls Try.prog 5 #[cdv c, .agg #[.int .i64 a, .int .i64 b]] w fun e w' => e = .returned (.bool true) ∧ Below w.heap.size w w' := walk_forwards c (ok_wf hc) a b w

end Clk
namespace LawClockForwards
open Go.ChangeShapes Go.WideShapes Go.ChangeAt Go.RowKit
open Go.ChangeMaps (open_string shut_string)

theorem own : ownKnob Try.prog.godebug = none := by kernel_rfl
theorem laidOut : laidOutB Try.prog = true := by kernel_rfl

set_option maxRecDepth 100000 in
theorem lifted (os : Os) (started : os.Started) (H : Type) (enc : TypeId × Value → H) :
    ReturnsInHanded {} Try.checked os 5 .any (Rows.clockForwardsSpec.pre6 enc Try.prog Try.f5 Rows.clockForwardsRow.domain false) (Rows.clockForwardsSpec.post enc Try.prog Try.f5 false true false false) := by
  refine Fr.law_lift (C := Try.checked) (tb := 4) own started (by kernel_rfl) Try.func5
    (ChangeSpec.witness6 (enc := enc) (C := Try.checked) false ⟨#[], #[.agg #[.bool false, .bool false, .bool false, .int .u64 0, .int .i64 0, .int .u64 0, .int .u64 0, .int .u64 0, .int .i64 0, .int .i64 0, .int .i64 0, .int .i64 0, .int .i64 0, .int .i64 0, .int .i64 0, .bool false, .bool false, .bool false, .bool false, .bool false, .bool false, .bool false, .bool false, .bool false, .int .i64 0, .int .i64 0, .int .i64 0, .int .i64 0, .int .i64 0, .int .i64 0, .int .i64 0], .agg #[.int .i64 0, .int .i64 0]], []⟩ 8 (by kernel_rfl) (by kernel_rfl) (by kernel_rfl) (by kernel_rfl))
    laidOut (by rw [Try.params5]; decide +kernel) rfl Try.underlying4 rfl ?_ ?_
  · intro ds hl
    match ds, hl with
    | [d0, d1], _ => rfl
  · intro W base args ds p hval hA
    rw [Try.params5] at hA hval
    obtain ⟨v0, vs0, d0, ds0, p0, q0, hargs, rfl, rfl, h0, r0⟩ := trodAll_cons hA
    obtain ⟨v1, vs1, d1, ds1, p1, q1, rfl, rfl, rfl, h1, r1⟩ := trodAll_cons r0
    obtain ⟨rfl, rfl, rfl⟩ := trodAll_nil r1
    obtain rfl : args = #[v0, v1] := by cases args; simp_all
    obtain ⟨x0, rfl, hx0⟩ := Crd.open_cd (hval 0 28 v0 rfl rfl) h0
    obtain ⟨a1, b1, rfl, w1, u1⟩ := Fr.open_two Try.underlying35 Try.underlying3 (by kernel_rfl) (by kernel_rfl) (hval 1 35 v1 rfl rfl) h1
    exact Clk.law_forwards W x0 hx0 a1 b1 w1 u1

theorem over : Rows.clockForwardsRow.holds Try.pinned (OpenSpec.ofChange Rows.clockForwardsSpec) :=
  OpenClaim.holds_of_wide 5 Try.f5 rfl rfl rfl rfl rfl rfl rfl ⟨rfl, rfl, rfl, rfl, rfl⟩ rfl rfl rfl rfl rfl (by kernel_rfl) Try.func5 (by kernel_rfl)
    (of_decide_eq_true (by kernel_rfl)) (by unfold Func.isWrapper; first | (rw [if_pos (by decide +kernel)]; kernel_rfl) | (rw [if_neg (by decide +kernel)]; exact ⟨rfl, rfl⟩))
    (fun os started H enc _ => lifted os started H enc)
end LawClockForwards

/-- The statement ClockForwards. -/
theorem clockForwards_holds : Rows.ClockForwardsSaid := LawClockForwards.over

end Go.Proofs.Ytakbmdamegjdeaa
