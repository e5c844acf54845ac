/-
  What leads, limited, lasts, answered, closes and opens answer; and how long a port tells, by the document.
-/
import Derived.Test.YtkjdnmlaehjmgaaChgNum
import Derived.Test.YtkjdnmlaehjmgaaTre
import Derived.Test.YtkjdnmlaehjmgaaCrdEq
import Derived.Test.YtkjdnmlaehjmgaaEltB
import Derived.Lib.MinMax
namespace Go.Proofs.Ytkjdnmlaehjmgaa
open Go.RowKit
namespace Chg
open Pre Crd Tre Elt Rip

theorem lim_in (n : Int) : 1 ≤ lim n ∧ lim n ≤ 255 := by unfold lim; omega
theorem lim_doc (n : Int) : max 1 (min n 255) = lim n := by unfold lim; omega

set_option maxRecDepth 40000 in
set_option maxHeartbeats 8000000 in
theorem leads_any (c : Cd) (w : World) : Calls Try.prog 20 #[cdv c] w fun e w' => e = .returned (.bool (ldB c)) ∧ Below w.heap.size w w' := by
  have B0 : Hid (Bx.Fre (w.alloc (cdo c)) w.heap.size (cdl c)) := Lib.hid (Bx.Fre.new w (cdl c) 28)
  have bel := Lib.hid (Bx.box_below w (cdo c))
  go_enter Try.func20, Try.ntmps20
  go_upto_region 1 with fail
  generalize (w.alloc (cdo c)) = W0 at *
  have B0_0 := B0.out.at 0 rfl
  have B0_2 := B0.out.at 2 rfl
  have B0_13 := B0.out.at 13 rfl
  rcases Bool.eq_false_or_eq_true c.up with h0 | h0
  · rw [h0] at B0_0
    rcases Bool.eq_false_or_eq_true c.edge with h1 | h1
    · rw [h1] at B0_2
      have HE : Hid (ldB c = false) := Lib.hid (by unfold ldB; simp [h0, h1])
      clear h0 h1
      go_wp2_with (first | ((with_reducible refine cd_load ?_ ?_ (w.heap.size) ?_ c ?_ ?_); (· rfl); (· rfl); (· rfl); (· exact B0.out.blk)))
      go_ret
      exact ⟨by rw [HE.out]; rfl, bel.out⟩
    · rw [h1] at B0_2
      by_cases h2 : c.role = 2
      · have gh2 : (c.role == 2) = true := by simp [h2]
        have HE : Hid (ldB c = true) := Lib.hid (by unfold ldB; simp [h0, h1, h2])
        clear h0 h1 h2
        go_wp2_with (first | ((with_reducible refine cd_load ?_ ?_ (w.heap.size) ?_ c ?_ ?_); (· rfl); (· rfl); (· rfl); (· exact B0.out.blk)))
        go_ret
        exact ⟨by rw [HE.out]; rfl, bel.out⟩
      · have gh2 : (c.role == 2) = false := by simp [h2]
        by_cases h3 : c.role = 3
        · have gh3 : (c.role == 3) = true := by simp [h3]
          have HE : Hid (ldB c = true) := Lib.hid (by unfold ldB; simp [h0, h1, h3])
          clear h0 h1 h2 h3
          go_wp2_with (first | ((with_reducible refine cd_load ?_ ?_ (w.heap.size) ?_ c ?_ ?_); (· rfl); (· rfl); (· rfl); (· exact B0.out.blk)))
          go_ret
          exact ⟨by rw [HE.out]; rfl, bel.out⟩
        · have gh3 : (c.role == 3) = false := by simp [h3]
          have HE : Hid (ldB c = false) := Lib.hid (by unfold ldB; simp [h0, h1, h2, h3])
          clear h0 h1 h2 h3
          go_wp2_with (first | ((with_reducible refine cd_load ?_ ?_ (w.heap.size) ?_ c ?_ ?_); (· rfl); (· rfl); (· rfl); (· exact B0.out.blk)))
          go_ret
          exact ⟨by rw [HE.out]; rfl, bel.out⟩
  · rw [h0] at B0_0
    have HE : Hid (ldB c = false) := Lib.hid (by unfold ldB; simp [h0])
    clear h0
    go_wp2_with (first | ((with_reducible refine cd_load ?_ ?_ (w.heap.size) ?_ c ?_ ?_); (· rfl); (· rfl); (· rfl); (· exact B0.out.blk)))
    go_ret
    exact ⟨by rw [HE.out]; rfl, bel.out⟩

set_option maxRecDepth 40000 in
set_option maxHeartbeats 8000000 in
theorem limited_any (n : Int) (w : World) : Calls Try.prog 28 #[.int .i64 n] w fun e w' => e = .returned (.int .i64 (lim n)) ∧ Below w.heap.size w w' := by
  have HE : Hid (lim n = min (max n 1) 255) := Lib.hid rfl
  go_enter Try.func28, Try.ntmps28
  go_wp2_with fail
  go_ret
  exact ⟨by rw [HE.out]; rfl, Below.refl _ _⟩

set_option maxRecDepth 40000 in
set_option maxHeartbeats 8000000 in
theorem lasts_any (c : Cd) (w : World) : Calls Try.prog 22 #[cdv c] w fun e w' => e = .returned (.int .i64 (lasI c)) ∧ Below w.heap.size w w' := by
  have B0 : Hid (Bx.Fre (w.alloc (cdo c)) w.heap.size (cdl c)) := Lib.hid (Bx.Fre.new w (cdl c) 28)
  have bel := Lib.hid (Bx.box_below w (cdo c))
  have HL := Lib.hid limited_any
  go_enter Try.func22, Try.ntmps22
  go_upto_region 1 with fail
  generalize (w.alloc (cdo c)) = W0 at *
  rcases Bool.eq_false_or_eq_true c.rap with h | h
  · have HE : Hid (lasI c = lim c.t.h + 1) := Lib.hid (if_pos h)
    have HM := Lib.hid (HL.out c.t.h)
    have hl := lim_in c.t.h
    generalize lim c.t.h = m at *
    have hw : IntKind.i64.wrap (m + 1) = m + 1 := by rw [IntKind.wrap_i64]; omega
    have B0_21 := B0.out.at 21 rfl
    have B0_11 := B0.out.at 11 rfl
    rw [h] at B0_21
    clear h
    go_wp2_with (first | ((with_reducible refine cd_load ?_ ?_ (w.heap.size) ?_ c ?_ ?_); (· rfl); (· rfl); (· rfl); (· exact B0.out.blk)))
    clear B0_21 B0_11
    refine (HM.out _).mono ?_; rintro e w1 ⟨rfl, hb⟩
    replace B0 := Lib.hid (B0.out.keep hb)
    replace bel := Lib.hid (Bx.then_below bel.out hb)
    clear hb
    go_wp2_with (first | ((with_reducible refine cd_load ?_ ?_ (w.heap.size) ?_ c ?_ ?_); (· rfl); (· rfl); (· rfl); (· exact B0.out.blk)))
    go_ret
    exact ⟨by rw [HE.out]; rfl, bel.out⟩
  · have HE : Hid (lasI c = lim c.t.m + lim c.t.d) := Lib.hid (if_neg (by rw [h]; decide))
    have HM := Lib.hid (HL.out c.t.m)
    have HD := Lib.hid (HL.out c.t.d)
    have hl := lim_in c.t.m
    have hd := lim_in c.t.d
    generalize lim c.t.m = m at *
    generalize lim c.t.d = d at *
    have hw : IntKind.i64.wrap (m + d) = m + d := by rw [IntKind.wrap_i64]; omega
    have B0_21 := B0.out.at 21 rfl
    rw [h] at B0_21
    clear h
    go_upto_region 3 with fail
    clear B0_21
    refine wp_region_noPanic ?_
    refine wp_region_held_drew (S := fun w' => w'.cell? ⟨w.heap.size, 10, none⟩ = some (.int .i64 c.t.m) ∧ w'.cell? ⟨w.heap.size, 12, none⟩ = some (.int .i64 c.t.d)) (by kernel_rfl) (by exact ⟨B0.out.at 10 rfl, B0.out.at 12 rfl⟩) (fun hHeld => ?_)
    refine wpAnyH_take (i := 0) (oi := ?ot1x1) (v := ?vt1x1) ?hit1x1 (by kernel_rfl) (by kernel_rfl) (by kernel_rfl) (fun _ _ _ h => h) ?yt1x1 (by assumption) ?rt1x1
    case hit1x1 => (simp only [List.getElem?_toArray, List.getElem?_cons_zero]; rfl)
    case yt1x1 => (refine Or.inl ⟨by rfl, ?_⟩; intro w' hSw; (try dsimp only at hSw); go_simp; (try with_reducible rfl))
    try simp only [Act.put, List.setIfInBounds_toArray, List.set_cons_zero, List.set_cons_succ]
    refine wpAnyH_take (i := 1) (oi := ?ot1x2) (v := ?vt1x2) ?hit1x2 (by kernel_rfl) (by kernel_rfl) (by kernel_rfl) (fun _ _ _ h => h) ?yt1x2 (by assumption) ?rt1x2
    case hit1x2 => (simp only [List.getElem?_toArray, List.getElem?_cons_succ, List.getElem?_cons_zero]; rfl)
    case yt1x2 => (refine Or.inl ⟨by rfl, ?_⟩; intro w' hSw; (try dsimp only at hSw); go_simp; (try with_reducible rfl))
    try simp only [Act.put, List.setIfInBounds_toArray, List.set_cons_zero, List.set_cons_succ]
    refine wpAnyH_take (i := 2) (oi := ?ot1x3) (v := ?vt1x3) ?hit1x3 (by kernel_rfl) (by kernel_rfl) (by kernel_rfl) (fun _ _ _ h => h) ?yt1x3 (by assumption) ?rt1x3
    case hit1x3 => (simp only [List.getElem?_toArray, List.getElem?_cons_succ, List.getElem?_cons_zero]; rfl)
    case yt1x3 => (refine Or.inl ⟨by rfl, ?_⟩; intro w' hSw; (try dsimp only at hSw); go_simp; (try with_reducible rfl))
    try simp only [Act.put, List.setIfInBounds_toArray, List.set_cons_zero, List.set_cons_succ]
    refine wpAnyH_take (i := 4) (oi := ?ot1x4) (v := ?vt1x4) ?hit1x4 (by kernel_rfl) (by kernel_rfl) (by kernel_rfl) (fun _ _ _ h => h) ?yt1x4 (by assumption) ?rt1x4
    case hit1x4 => (simp only [List.getElem?_toArray, List.getElem?_cons_succ, List.getElem?_cons_zero]; rfl)
    case yt1x4 => (refine Or.inl ⟨by rfl, ?_⟩; intro w' hSw; (try dsimp only at hSw); go_simp; (try with_reducible rfl))
    try simp only [Act.put, List.setIfInBounds_toArray, List.set_cons_zero, List.set_cons_succ]
    refine wpAnyH_take (i := 5) (oi := ?ot1x5) (v := ?vt1x5) ?hit1x5 (by kernel_rfl) (by kernel_rfl) (by kernel_rfl) (fun _ _ _ h => h) ?yt1x5 (by assumption) ?rt1x5
    case hit1x5 => (simp only [List.getElem?_toArray, List.getElem?_cons_succ, List.getElem?_cons_zero]; rfl)
    case yt1x5 => (refine Or.inl ⟨by rfl, ?_⟩; intro w' hSw; (try dsimp only at hSw); go_simp; (try with_reducible rfl))
    try simp only [Act.put, List.setIfInBounds_toArray, List.set_cons_zero, List.set_cons_succ]
    refine wpAnyH_take (i := 6) (oi := ?ot1x6) (v := ?vt1x6) ?hit1x6 (by kernel_rfl) (by kernel_rfl) (by kernel_rfl) (fun _ _ _ h => h) ?yt1x6 (by assumption) ?rt1x6
    case hit1x6 => (simp only [List.getElem?_toArray, List.getElem?_cons_succ, List.getElem?_cons_zero]; rfl)
    case yt1x6 => (refine Or.inl ⟨by rfl, ?_⟩; intro w' hSw; (try dsimp only at hSw); go_simp; (try with_reducible rfl))
    try simp only [Act.put, List.setIfInBounds_toArray, List.set_cons_zero, List.set_cons_succ]
    refine wpAnyH_ready (rs := [3]) (by kernel_rfl) (by simp) ?_
    refine AllReadyH.cons (o := ?ot1x7) ?hit1x7 ?hstt1x7 AllReadyH.nil
    case hit1x7 => (simp only [List.getElem?_toArray, List.getElem?_cons_succ, List.getElem?_cons_zero]; rfl)
    intro K hK
    go_simp
    (go_at_call 28; (with_reducible refine (HM.out _).mono ?_); rintro e vt1x8 ⟨rfl, hb⟩)
    go_wp2_with fail
    refine hK.out _ _ ⟨Bx.keep_cell hb hHeld.1, Bx.keep_cell hb hHeld.2⟩ (fun hNew => ?_)
    clear hHeld
    have hHeld := hNew
    clear hNew hK K
    replace bel := Lib.hid (Bx.then_below (Bx.bel_drewn bel.out) hb)
    replace B0 := Lib.hid (B0.out.drew.keep hb)
    clear hb
    refine wpAnyH_ready (rs := [7]) (by kernel_rfl) (by simp) ?_
    refine AllReadyH.cons (o := ?ot1x9) ?hit1x9 ?hstt1x9 AllReadyH.nil
    case hit1x9 => (simp only [List.getElem?_toArray, List.getElem?_cons_succ, List.getElem?_cons_zero]; rfl)
    intro K hK
    go_simp
    (go_at_call 28; (with_reducible refine (HD.out _).mono ?_); rintro e vt1x10 ⟨rfl, hb⟩)
    go_wp2_with fail
    refine hK.out _ _ ⟨Bx.keep_cell hb hHeld.1, Bx.keep_cell hb hHeld.2⟩ (fun hNew => ?_)
    clear hHeld
    have hHeld := hNew
    clear hNew hK K
    replace bel := Lib.hid (Bx.then_below bel.out hb)
    replace B0 := Lib.hid (B0.out.keep hb)
    clear hb
    refine wpAnyH_take (i := 8) (oi := ?ot1x11) (v := ?vt1x11) ?hit1x11 (by kernel_rfl) (by kernel_rfl) (by kernel_rfl) (fun _ _ _ h => h) ?yt1x11 (by assumption) ?rt1x11
    case hit1x11 => (simp only [List.getElem?_toArray, List.getElem?_cons_succ, List.getElem?_cons_zero]; rfl)
    case yt1x11 => (refine Or.inl ⟨by rfl, ?_⟩; intro w' hSw; (try dsimp only at hSw); go_simp; (try with_reducible rfl))
    try simp only [Act.put, List.setIfInBounds_toArray, List.set_cons_zero, List.set_cons_succ]
    refine wpAnyH_take (i := 9) (oi := ?ot1x12) (v := ?vt1x12) ?hit1x12 (by kernel_rfl) (by kernel_rfl) (by kernel_rfl) (fun _ _ _ h => h) ?yt1x12 (by assumption) ?rt1x12
    case hit1x12 => (simp only [List.getElem?_toArray, List.getElem?_cons_succ, List.getElem?_cons_zero]; rfl)
    case yt1x12 => (refine Or.inl ⟨by rfl, ?_⟩; intro w' hSw; (try dsimp only at hSw); go_simp; (try with_reducible rfl))
    try simp only [Act.put, List.setIfInBounds_toArray, List.set_cons_zero, List.set_cons_succ]
    refine wpAnyH_done (by kernel_rfl) ?_ _
    refine NoPanic.normal ?_
    go_wp2_with fail
    go_ret
    exact ⟨by rw [HE.out]; rfl, bel.out⟩

set_option maxRecDepth 40000 in
set_option maxHeartbeats 8000000 in
theorem rlong_any (c : Cd) (w : World) : Calls Try.prog 24 #[cdv c] w fun e w' => e = .returned (.int .i64 (lasI c)) ∧ Below w.heap.size w w' := by
  have B0 : Hid (Bx.Fre (w.alloc (cdo c)) w.heap.size (cdl c)) := Lib.hid (Bx.Fre.new w (cdl c) 28)
  have bel := Lib.hid (Bx.box_below w (cdo c))
  go_enter Try.func24, Try.ntmps24
  go_upto_region 1 with fail
  generalize (w.alloc (cdo c)) = W0 at *
  rcases Bool.eq_false_or_eq_true c.rap with h | h
  · have HE : Hid (lasI c = max 1 (min c.t.h 255) + 1) := Lib.hid ((if_pos h).trans (by rw [lim_doc]))
    have hl := lim_in c.t.h
    rw [← lim_doc] at hl
    have hw : IntKind.i64.wrap (max 1 (min c.t.h 255) + 1) = max 1 (min c.t.h 255) + 1 := by rw [IntKind.wrap_i64]; omega
    have B0_21 := B0.out.at 21 rfl
    have B0_11 := B0.out.at 11 rfl
    rw [h] at B0_21
    clear h hl
    go_wp2_with (first | ((with_reducible refine cd_load ?_ ?_ (w.heap.size) ?_ c ?_ ?_); (· rfl); (· rfl); (· rfl); (· exact B0.out.blk)))
    go_ret
    exact ⟨by rw [HE.out]; rfl, bel.out⟩
  · have HE : Hid (lasI c = max 1 (min c.t.m 255) + max 1 (min c.t.d 255)) := Lib.hid ((if_neg (by rw [h]; decide)).trans (by rw [lim_doc, lim_doc]))
    have hl := lim_in c.t.m
    have hd := lim_in c.t.d
    rw [← lim_doc] at hl hd
    have hw : IntKind.i64.wrap (max 1 (min c.t.m 255) + max 1 (min c.t.d 255)) = max 1 (min c.t.m 255) + max 1 (min c.t.d 255) := by rw [IntKind.wrap_i64]; omega
    have B0_21 := B0.out.at 21 rfl
    have B0_10 := B0.out.at 10 rfl
    have B0_12 := B0.out.at 12 rfl
    rw [h] at B0_21
    clear h hl hd
    go_wp2_with (first | ((with_reducible refine cd_load ?_ ?_ (w.heap.size) ?_ c ?_ ?_); (· rfl); (· rfl); (· rfl); (· exact B0.out.blk)))
    go_ret
    exact ⟨by rw [HE.out]; rfl, bel.out⟩

set_option maxRecDepth 40000 in
set_option maxHeartbeats 8000000 in
theorem answered_any (c : Cd) (b : Bd) (w : World) : Calls Try.prog 19 #[cdv c, bdv b] w fun e w' => e = .returned (cdv (hrA c b)) ∧ Below w.heap.size w w' := by
  have C0 : Hid (Bx.Fre (w.alloc (cdo c)) w.heap.size (cdl c)) := Lib.hid (Bx.Fre.new w (cdl c) 28)
  have bel := Lib.hid (Bx.box_below w (cdo c))
  replace C0 := Lib.hid (C0.out.more (bdo b))
  have B1 : Hid (Bx.Fre ((w.alloc (cdo c)).alloc (bdo b)) (w.heap.size + 1) (bdl b)) := Lib.hid (Bx.Fre.new_at (W := (w.alloc (cdo c))) (k := w.heap.size + 1) (bdl b) 33 (by simp))
  replace bel := Lib.hid (Bx.bel_box bel.out (bdo b))
  replace C0 := Lib.hid (C0.out.more (cdo Cd.zero))
  replace B1 := Lib.hid (B1.out.more (cdo Cd.zero))
  have R2 : Hid (Bx.Fre (((w.alloc (cdo c)).alloc (bdo b)).alloc (cdo Cd.zero)) (w.heap.size + 1 + 1) (cdl Cd.zero)) := Lib.hid (Bx.Fre.new_at (W := ((w.alloc (cdo c)).alloc (bdo b))) (k := w.heap.size + 1 + 1) (cdl Cd.zero) 28 (by simp))
  replace bel := Lib.hid (Bx.bel_box bel.out (cdo Cd.zero))
  go_enter Try.func19, Try.ntmps19
  go_upto_region 1 with fail
  generalize (((w.alloc (cdo c)).alloc (bdo b)).alloc (cdo Cd.zero)) = W0 at *
  have HE : Hid (hrA c b = if b.k = 128 then { c with ack := decide (c.role = 3), tel := true } else if b.ac = true then { c with chg := 0 } else c) := Lib.hid rfl
  by_cases h : b.k = 128
  · replace HE := Lib.hid (HE.out.trans (if_pos h))
    have g : (b.k == 128) = true := by simp [h]
    clear h
    have B1_0 := B1.out.at 0 rfl
    go_upto_region 2 with fail
    clear B1_0
    by_cases h3 : c.role = 3
    · have g3 : (c.role == 3) = true := by simp [h3]
      rw [decide_eq_true h3] at HE
      clear h3
      have C0_13 := C0.out.at 13 rfl
      have C0_23 := C0.out.at 23 rfl
      have C0_22 := C0.out.at 22 rfl
      have C0f23 := C0.out.2.2 23
      have C0f22 := C0.out.2.2 22
      replace B1 := Lib.hid (B1.out.other (k' := w.heap.size) (o := 23) (x := .bool true) (by omega))
      replace R2 := Lib.hid (R2.out.other (k' := w.heap.size) (o := 23) (x := .bool true) (by omega))
      replace bel := Lib.hid (Bx.bel_set (k := w.heap.size) (o := 23) (x := .bool true) (by omega) bel.out)
      replace C0 := Lib.hid ((C0.out.set (23) (.bool true)).of (m := (cdl { c with ack := true })) (by first | rfl | simp [enc, tenc]))
      replace B1 := Lib.hid (B1.out.other (k' := w.heap.size) (o := 22) (x := .bool true) (by omega))
      replace R2 := Lib.hid (R2.out.other (k' := w.heap.size) (o := 22) (x := .bool true) (by omega))
      replace bel := Lib.hid (Bx.bel_set (k := w.heap.size) (o := 22) (x := .bool true) (by omega) bel.out)
      replace C0 := Lib.hid ((C0.out.set (22) (.bool true)).of (m := (cdl { c with ack := true, tel := true })) (by first | rfl | simp [enc, tenc]))
      go_upto_region 5 with fail
      clear C0_13 C0_23 C0_22 C0f23 C0f22
      generalize ((W0.setCell ⟨w.heap.size, 23, none⟩ (.bool true)).setCell ⟨w.heap.size, 22, none⟩ (.bool true)) = W5 at *
      go_wp2_with (first | ((with_reducible refine cd_store ?_ ?_ (w.heap.size + 1 + 1) { c with ack := true, tel := true } ?_ ?_ (cdl Cd.zero) ?_ ?_ ?_); (· rfl); (· rfl); (· rfl); (· rfl); (· rfl); (· exact R2.out.own)) | ((with_reducible refine cd_load ?_ ?_ (w.heap.size) ?_ { c with ack := true, tel := true } ?_ ?_); (· rfl); (· rfl); (· rfl); (· exact C0.out.blk)))
      replace C0 := Lib.hid (C0.out.apart_at (k' := w.heap.size + 1 + 1) (cdl { c with ack := true, tel := true }) 0 (by omega))
      replace B1 := Lib.hid (B1.out.apart_at (k' := w.heap.size + 1 + 1) (cdl { c with ack := true, tel := true }) 0 (by omega))
      replace bel := Lib.hid (Bx.bel_put_at (k := w.heap.size + 1 + 1) (cdl { c with ack := true, tel := true }) 0 (by omega) bel.out)
      replace R2 := Lib.hid (R2.out.full (m := (cdl { c with ack := true, tel := true })) (rfl))
      exact bodyPost_ret (v := cdv { c with ack := true, tel := true }) (cd_result Try.results19 rfl R2.out.blk) rfl ⟨by rw [HE.out], bel.out⟩
    · have g3 : (c.role == 3) = false := by simp [h3]
      rw [decide_eq_false h3] at HE
      clear h3
      have C0_13 := C0.out.at 13 rfl
      have C0_23 := C0.out.at 23 rfl
      have C0_22 := C0.out.at 22 rfl
      have C0f23 := C0.out.2.2 23
      have C0f22 := C0.out.2.2 22
      replace B1 := Lib.hid (B1.out.other (k' := w.heap.size) (o := 23) (x := .bool false) (by omega))
      replace R2 := Lib.hid (R2.out.other (k' := w.heap.size) (o := 23) (x := .bool false) (by omega))
      replace bel := Lib.hid (Bx.bel_set (k := w.heap.size) (o := 23) (x := .bool false) (by omega) bel.out)
      replace C0 := Lib.hid ((C0.out.set (23) (.bool false)).of (m := (cdl { c with ack := false })) (by first | rfl | simp [enc, tenc]))
      replace B1 := Lib.hid (B1.out.other (k' := w.heap.size) (o := 22) (x := .bool true) (by omega))
      replace R2 := Lib.hid (R2.out.other (k' := w.heap.size) (o := 22) (x := .bool true) (by omega))
      replace bel := Lib.hid (Bx.bel_set (k := w.heap.size) (o := 22) (x := .bool true) (by omega) bel.out)
      replace C0 := Lib.hid ((C0.out.set (22) (.bool true)).of (m := (cdl { c with ack := false, tel := true })) (by first | rfl | simp [enc, tenc]))
      go_upto_region 5 with fail
      clear C0_13 C0_23 C0_22 C0f23 C0f22
      generalize ((W0.setCell ⟨w.heap.size, 23, none⟩ (.bool false)).setCell ⟨w.heap.size, 22, none⟩ (.bool true)) = W5 at *
      go_wp2_with (first | ((with_reducible refine cd_store ?_ ?_ (w.heap.size + 1 + 1) { c with ack := false, tel := true } ?_ ?_ (cdl Cd.zero) ?_ ?_ ?_); (· rfl); (· rfl); (· rfl); (· rfl); (· rfl); (· exact R2.out.own)) | ((with_reducible refine cd_load ?_ ?_ (w.heap.size) ?_ { c with ack := false, tel := true } ?_ ?_); (· rfl); (· rfl); (· rfl); (· exact C0.out.blk)))
      replace C0 := Lib.hid (C0.out.apart_at (k' := w.heap.size + 1 + 1) (cdl { c with ack := false, tel := true }) 0 (by omega))
      replace B1 := Lib.hid (B1.out.apart_at (k' := w.heap.size + 1 + 1) (cdl { c with ack := false, tel := true }) 0 (by omega))
      replace bel := Lib.hid (Bx.bel_put_at (k := w.heap.size + 1 + 1) (cdl { c with ack := false, tel := true }) 0 (by omega) bel.out)
      replace R2 := Lib.hid (R2.out.full (m := (cdl { c with ack := false, tel := true })) (rfl))
      exact bodyPost_ret (v := cdv { c with ack := false, tel := true }) (cd_result Try.results19 rfl R2.out.blk) rfl ⟨by rw [HE.out], bel.out⟩
  · replace HE := Lib.hid (HE.out.trans (if_neg h))
    have g : (b.k == 128) = false := by simp [h]
    clear h
    have B1_0 := B1.out.at 0 rfl
    have B1_7 := B1.out.at 7 rfl
    rcases Bool.eq_false_or_eq_true b.ac with h | h
    · replace HE := Lib.hid (HE.out.trans (if_pos h))
      rw [h] at B1_7
      clear h
      go_upto_region 4 with fail
      have C0_27 := C0.out.at 27 rfl
      have C0f27 := C0.out.2.2 27
      replace B1 := Lib.hid (B1.out.other (k' := w.heap.size) (o := 27) (x := .int .i64 0) (by omega))
      replace R2 := Lib.hid (R2.out.other (k' := w.heap.size) (o := 27) (x := .int .i64 0) (by omega))
      replace bel := Lib.hid (Bx.bel_set (k := w.heap.size) (o := 27) (x := .int .i64 0) (by omega) bel.out)
      replace C0 := Lib.hid ((C0.out.set (27) (.int .i64 0)).of (m := (cdl { c with chg := 0 })) (by first | rfl | simp [enc, tenc]))
      go_upto_region 5 with fail
      clear C0_27 C0f27
      generalize (W0.setCell ⟨w.heap.size, 27, none⟩ (.int .i64 0)) = W5 at *
      go_wp2_with (first | ((with_reducible refine cd_store ?_ ?_ (w.heap.size + 1 + 1) { c with chg := 0 } ?_ ?_ (cdl Cd.zero) ?_ ?_ ?_); (· rfl); (· rfl); (· rfl); (· rfl); (· rfl); (· exact R2.out.own)) | ((with_reducible refine cd_load ?_ ?_ (w.heap.size) ?_ { c with chg := 0 } ?_ ?_); (· rfl); (· rfl); (· rfl); (· exact C0.out.blk)))
      replace C0 := Lib.hid (C0.out.apart_at (k' := w.heap.size + 1 + 1) (cdl { c with chg := 0 }) 0 (by omega))
      replace B1 := Lib.hid (B1.out.apart_at (k' := w.heap.size + 1 + 1) (cdl { c with chg := 0 }) 0 (by omega))
      replace bel := Lib.hid (Bx.bel_put_at (k := w.heap.size + 1 + 1) (cdl { c with chg := 0 }) 0 (by omega) bel.out)
      replace R2 := Lib.hid (R2.out.full (m := (cdl { c with chg := 0 })) (rfl))
      exact bodyPost_ret (v := cdv { c with chg := 0 }) (cd_result Try.results19 rfl R2.out.blk) rfl ⟨by rw [HE.out], bel.out⟩
    · replace HE := Lib.hid (HE.out.trans (if_neg (by rw [h]; decide)))
      rw [h] at B1_7
      clear h
      go_wp2_with (first | ((with_reducible refine cd_store ?_ ?_ (w.heap.size + 1 + 1) c ?_ ?_ (cdl Cd.zero) ?_ ?_ ?_); (· rfl); (· rfl); (· rfl); (· rfl); (· rfl); (· exact R2.out.own)) | ((with_reducible refine cd_load ?_ ?_ (w.heap.size) ?_ c ?_ ?_); (· rfl); (· rfl); (· rfl); (· exact C0.out.blk)))
      replace C0 := Lib.hid (C0.out.apart_at (k' := w.heap.size + 1 + 1) (cdl c) 0 (by omega))
      replace B1 := Lib.hid (B1.out.apart_at (k' := w.heap.size + 1 + 1) (cdl c) 0 (by omega))
      replace bel := Lib.hid (Bx.bel_put_at (k := w.heap.size + 1 + 1) (cdl c) 0 (by omega) bel.out)
      replace R2 := Lib.hid (R2.out.full (m := (cdl c)) (rfl))
      exact bodyPost_ret (v := cdv c) (cd_result Try.results19 rfl R2.out.blk) rfl ⟨by rw [HE.out], bel.out⟩

set_option maxRecDepth 40000 in
set_option maxHeartbeats 8000000 in
theorem closes_any (a c : Cd) (w : World) : Calls Try.prog 15 #[cdv a, cdv c] w fun e w' => e = .returned (.bool (clsB a c)) ∧ Below w.heap.size w w' := by
  have A0 : Hid (Bx.Fre (w.alloc (cdo a)) w.heap.size (cdl a)) := Lib.hid (Bx.Fre.new w (cdl a) 28)
  have bel := Lib.hid (Bx.box_below w (cdo a))
  replace A0 := Lib.hid (A0.out.more (cdo c))
  have C1 : Hid (Bx.Fre ((w.alloc (cdo a)).alloc (cdo c)) (w.heap.size + 1) (cdl c)) := Lib.hid (Bx.Fre.new_at (W := (w.alloc (cdo a))) (k := w.heap.size + 1) (cdl c) 28 (by simp))
  replace bel := Lib.hid (Bx.bel_box bel.out (cdo c))
  go_enter Try.func15, Try.ntmps15
  go_upto_region 1 with fail
  generalize ((w.alloc (cdo a)).alloc (cdo c)) = W0 at *
  have A0_0 := A0.out.at 0 rfl
  have A0_14 := A0.out.at 14 rfl
  have C1_0 := C1.out.at 0 rfl
  have C1_14 := C1.out.at 14 rfl
  rcases Bool.eq_false_or_eq_true a.up with h0 | h0
  · rw [h0] at A0_0
    rcases Bool.eq_false_or_eq_true c.up with h1 | h1
    · rw [h1] at C1_0
      by_cases h2 : a.st = 0
      · have gh2 : (a.st != 0) = false := by simp [h2]
        have HE : Hid (clsB a c = false) := Lib.hid (by unfold clsB; simp [h0, h1, h2])
        clear h0 h1 h2
        go_wp2_with (first | ((with_reducible refine cd_load ?_ ?_ (w.heap.size) ?_ a ?_ ?_); (· rfl); (· rfl); (· rfl); (· exact A0.out.blk)) | ((with_reducible refine cd_load ?_ ?_ (w.heap.size + 1) ?_ c ?_ ?_); (· rfl); (· rfl); (· rfl); (· exact C1.out.blk)))
        go_ret
        exact ⟨by rw [HE.out]; rfl, bel.out⟩
      · have gh2 : (a.st != 0) = true := by simp [h2]
        by_cases h3 : c.st = 0
        · have gh3 : (c.st == 0) = true := by simp [h3]
          have HE : Hid (clsB a c = true) := Lib.hid (by unfold clsB; simp [h0, h1, h2, h3])
          clear h0 h1 h2 h3
          go_wp2_with (first | ((with_reducible refine cd_load ?_ ?_ (w.heap.size) ?_ a ?_ ?_); (· rfl); (· rfl); (· rfl); (· exact A0.out.blk)) | ((with_reducible refine cd_load ?_ ?_ (w.heap.size + 1) ?_ c ?_ ?_); (· rfl); (· rfl); (· rfl); (· exact C1.out.blk)))
          go_ret
          exact ⟨by rw [HE.out]; rfl, bel.out⟩
        · have gh3 : (c.st == 0) = false := by simp [h3]
          have HE : Hid (clsB a c = false) := Lib.hid (by unfold clsB; simp [h0, h1, h2, h3])
          clear h0 h1 h2 h3
          go_wp2_with (first | ((with_reducible refine cd_load ?_ ?_ (w.heap.size) ?_ a ?_ ?_); (· rfl); (· rfl); (· rfl); (· exact A0.out.blk)) | ((with_reducible refine cd_load ?_ ?_ (w.heap.size + 1) ?_ c ?_ ?_); (· rfl); (· rfl); (· rfl); (· exact C1.out.blk)))
          go_ret
          exact ⟨by rw [HE.out]; rfl, bel.out⟩
    · rw [h1] at C1_0
      have HE : Hid (clsB a c = true) := Lib.hid (by unfold clsB; simp [h0, h1])
      clear h0 h1
      go_wp2_with (first | ((with_reducible refine cd_load ?_ ?_ (w.heap.size) ?_ a ?_ ?_); (· rfl); (· rfl); (· rfl); (· exact A0.out.blk)) | ((with_reducible refine cd_load ?_ ?_ (w.heap.size + 1) ?_ c ?_ ?_); (· rfl); (· rfl); (· rfl); (· exact C1.out.blk)))
      go_ret
      exact ⟨by rw [HE.out]; rfl, bel.out⟩
  · rw [h0] at A0_0
    by_cases h1 : a.st = 0
    · have gh1 : (a.st != 0) = false := by simp [h1]
      have HE : Hid (clsB a c = false) := Lib.hid (by unfold clsB; simp [h0, h1])
      clear h0 h1
      go_wp2_with (first | ((with_reducible refine cd_load ?_ ?_ (w.heap.size) ?_ a ?_ ?_); (· rfl); (· rfl); (· rfl); (· exact A0.out.blk)) | ((with_reducible refine cd_load ?_ ?_ (w.heap.size + 1) ?_ c ?_ ?_); (· rfl); (· rfl); (· rfl); (· exact C1.out.blk)))
      go_ret
      exact ⟨by rw [HE.out]; rfl, bel.out⟩
    · have gh1 : (a.st != 0) = true := by simp [h1]
      by_cases h2 : c.st = 0
      · have gh2 : (c.st == 0) = true := by simp [h2]
        have HE : Hid (clsB a c = true) := Lib.hid (by unfold clsB; simp [h0, h1, h2])
        clear h0 h1 h2
        go_wp2_with (first | ((with_reducible refine cd_load ?_ ?_ (w.heap.size) ?_ a ?_ ?_); (· rfl); (· rfl); (· rfl); (· exact A0.out.blk)) | ((with_reducible refine cd_load ?_ ?_ (w.heap.size + 1) ?_ c ?_ ?_); (· rfl); (· rfl); (· rfl); (· exact C1.out.blk)))
        go_ret
        exact ⟨by rw [HE.out]; rfl, bel.out⟩
      · have gh2 : (c.st == 0) = false := by simp [h2]
        have HE : Hid (clsB a c = false) := Lib.hid (by unfold clsB; simp [h0, h1, h2])
        clear h0 h1 h2
        go_wp2_with (first | ((with_reducible refine cd_load ?_ ?_ (w.heap.size) ?_ a ?_ ?_); (· rfl); (· rfl); (· rfl); (· exact A0.out.blk)) | ((with_reducible refine cd_load ?_ ?_ (w.heap.size + 1) ?_ c ?_ ?_); (· rfl); (· rfl); (· rfl); (· exact C1.out.blk)))
        go_ret
        exact ⟨by rw [HE.out]; rfl, bel.out⟩

set_option maxRecDepth 40000 in
set_option maxHeartbeats 8000000 in
theorem opens_any (a c : Cd) (w : World) : Calls Try.prog 17 #[cdv a, cdv c] w fun e w' => e = .returned (.bool (opnB a c)) ∧ Below w.heap.size w w' := by
  have A0 : Hid (Bx.Fre (w.alloc (cdo a)) w.heap.size (cdl a)) := Lib.hid (Bx.Fre.new w (cdl a) 28)
  have bel := Lib.hid (Bx.box_below w (cdo a))
  replace A0 := Lib.hid (A0.out.more (cdo c))
  have C1 : Hid (Bx.Fre ((w.alloc (cdo a)).alloc (cdo c)) (w.heap.size + 1) (cdl c)) := Lib.hid (Bx.Fre.new_at (W := (w.alloc (cdo a))) (k := w.heap.size + 1) (cdl c) 28 (by simp))
  replace bel := Lib.hid (Bx.bel_box bel.out (cdo c))
  go_enter Try.func17, Try.ntmps17
  go_upto_region 1 with fail
  generalize ((w.alloc (cdo a)).alloc (cdo c)) = W0 at *
  have A0_14 := A0.out.at 14 rfl
  have C1_14 := C1.out.at 14 rfl
  have C1_2 := C1.out.at 2 rfl
  by_cases h0 : a.st = 2
  · have gh0 : (a.st != 2) = false := by simp [h0]
    have HE : Hid (opnB a c = false) := Lib.hid (by unfold opnB; simp [h0])
    clear h0
    go_wp2_with (first | ((with_reducible refine cd_load ?_ ?_ (w.heap.size) ?_ a ?_ ?_); (· rfl); (· rfl); (· rfl); (· exact A0.out.blk)) | ((with_reducible refine cd_load ?_ ?_ (w.heap.size + 1) ?_ c ?_ ?_); (· rfl); (· rfl); (· rfl); (· exact C1.out.blk)))
    go_ret
    exact ⟨by rw [HE.out]; rfl, bel.out⟩
  · have gh0 : (a.st != 2) = true := by simp [h0]
    by_cases h1 : c.st = 2
    · have gh1 : (c.st == 2) = true := by simp [h1]
      rcases Bool.eq_false_or_eq_true c.edge with h2 | h2
      · rw [h2] at C1_2
        have HE : Hid (opnB a c = false) := Lib.hid (by unfold opnB; simp [h0, h1, h2])
        clear h0 h1 h2
        go_wp2_with (first | ((with_reducible refine cd_load ?_ ?_ (w.heap.size) ?_ a ?_ ?_); (· rfl); (· rfl); (· rfl); (· exact A0.out.blk)) | ((with_reducible refine cd_load ?_ ?_ (w.heap.size + 1) ?_ c ?_ ?_); (· rfl); (· rfl); (· rfl); (· exact C1.out.blk)))
        go_ret
        exact ⟨by rw [HE.out]; rfl, bel.out⟩
      · rw [h2] at C1_2
        have HE : Hid (opnB a c = true) := Lib.hid (by unfold opnB; simp [h0, h1, h2])
        clear h0 h1 h2
        go_wp2_with (first | ((with_reducible refine cd_load ?_ ?_ (w.heap.size) ?_ a ?_ ?_); (· rfl); (· rfl); (· rfl); (· exact A0.out.blk)) | ((with_reducible refine cd_load ?_ ?_ (w.heap.size + 1) ?_ c ?_ ?_); (· rfl); (· rfl); (· rfl); (· exact C1.out.blk)))
        go_ret
        exact ⟨by rw [HE.out]; rfl, bel.out⟩
    · have gh1 : (c.st == 2) = false := by simp [h1]
      have HE : Hid (opnB a c = false) := Lib.hid (by unfold opnB; simp [h0, h1])
      clear h0 h1
      go_wp2_with (first | ((with_reducible refine cd_load ?_ ?_ (w.heap.size) ?_ a ?_ ?_); (· rfl); (· rfl); (· rfl); (· exact A0.out.blk)) | ((with_reducible refine cd_load ?_ ?_ (w.heap.size + 1) ?_ c ?_ ?_); (· rfl); (· rfl); (· rfl); (· exact C1.out.blk)))
      go_ret
      exact ⟨by rw [HE.out]; rfl, bel.out⟩

end Chg
end Go.Proofs.Ytkjdnmlaehjmgaa
