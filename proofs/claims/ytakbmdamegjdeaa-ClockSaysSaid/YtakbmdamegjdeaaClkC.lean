/-
  What Tick answers, and the document's.
-/
import Derived.Test.YtakbmdamegjdeaaClkB
namespace Go.Proofs.Ytakbmdamegjdeaa
open Go.RowKit
namespace Clk
open Pre Crd Clk

set_option maxRecDepth 40000 in
set_option maxHeartbeats 8000000 in
theorem tick_any (c : Cd) (hc : Ok c) (w : World) : Calls Try.prog 6 #[cdv c] w fun e w' => e = .returned (.tuple #[cdv (tckC c), .bool (tckB c)]) ∧ Below w.heap.size w w' := by
  have hO : Ok (ageC (tmrC c)) := ok_age (ok_tmr hc)
  have HM : Hid (∀ w, Calls Try.prog 8 #[cdv (ageC (tmrC c))] w fun e w' => e = .returned (cdv (movC (ageC (tmrC c)))) ∧ Below w.heap.size w w') := Lib.hid (fun w => moves_any _ hO.1 w)
  have HG : Hid (∀ w, Calls Try.prog 10 #[cdv (movC (ageC (tmrC c)))] w fun e w' => e = .returned (cdv (edgC (movC (ageC (tmrC c))))) ∧ Below w.heap.size w w') := Lib.hid (fun w => edges_any _ w)
  have HE : Hid (tckC c = if c.up = true then edgC (movC (ageC (tmrC c))) else c) := Lib.hid rfl
  have HB : Hid (tckB c = (c.up && oldB (tmrC c))) := Lib.hid rfl
  have HA : Hid (∀ d, ageC d = if oldB d = true then { d with info := 0 } else d) := Lib.hid (fun _ => rfl)
  have HO : Hid (∀ d, oldB d = (decide (d.info = 2) && decide (d.hrd = 0))) := Lib.hid (fun _ => rfl)
  clear hO
  have HT := Lib.hid (timers_any c hc)
  clear hc
  have C0 : Hid (Bx.Fre (w.alloc (cdo c)) w.heap.size (cdl c)) := Lib.hid (Bx.Fre.new w (cdl c) 28)
  have bel := Lib.hid (Bx.box_below w (cdo c))
  replace C0 := Lib.hid (C0.out.more (cdo Cd.zero))
  have R1 : Hid (Bx.Fre ((w.alloc (cdo c)).alloc (cdo Cd.zero)) (w.heap.size + 1) (cdl Cd.zero)) := Lib.hid (Bx.Fre.new_at (W := (w.alloc (cdo c))) (k := w.heap.size + 1) (cdl Cd.zero) 28 (by simp))
  replace bel := Lib.hid (Bx.bel_box bel.out (cdo Cd.zero))
  go_enter Try.func6, Try.ntmps6
  go_upto_region 1 with fail
  generalize ((w.alloc (cdo c)).alloc (cdo Cd.zero)) = W0 at *
  rcases Bool.eq_false_or_eq_true c.up with h | h
  · rw [h] at HE HB
    rw [if_pos rfl] at HE
    rw [Bool.true_and] at HB
    replace HA := Lib.hid (HA.out (tmrC c))
    replace HO := Lib.hid (HO.out (tmrC c))
    generalize edgC (movC (ageC (tmrC c))) = e at *
    generalize movC (ageC (tmrC c)) = m at *
    generalize ageC (tmrC c) = a at *
    generalize tmrC c = d at *
    have C0_0 := C0.out.at 0 rfl
    rw [h] at C0_0
    clear h
    go_upto_region 3 with fail
    clear C0_0
    go_wp2_with (first | ((with_reducible refine cd_load ?_ ?_ (w.heap.size) ?_ c ?_ ?_); (· rfl); (· rfl); (· rfl); (· exact C0.out.blk)))
    refine (HT.out _).mono ?_; rintro e w1 ⟨rfl, hb⟩
    replace C0 := Lib.hid (C0.out.keep hb)
    replace R1 := Lib.hid (R1.out.keep hb)
    replace bel := Lib.hid (Bx.then_below bel.out hb)
    clear hb
    go_upto_region 4 with (first | ((with_reducible refine cd_store ?_ ?_ (w.heap.size) d ?_ ?_ (cdl c) ?_ ?_ ?_); (· rfl); (· rfl); (· rfl); (· rfl); (· rfl); (· exact C0.out.own)))
    replace R1 := Lib.hid (R1.out.apart_at (k' := w.heap.size) (cdl d) 0 (by omega))
    replace bel := Lib.hid (Bx.bel_put_at (k := w.heap.size) (cdl d) 0 (by omega) bel.out)
    replace C0 := Lib.hid (C0.out.full (m := (cdl d)) (rfl))
    generalize (w1.setCells (w.heap.size) 0 (cdl d)) = W3 at *
    by_cases h1 : d.info = 2
    · have g1 : (d.info == 2) = true := by simp [h1]
      by_cases h2 : d.hrd = 0
      · have g2 : (d.hrd == 0) = true := by simp [h2]
        rw [h1, h2, decide_eq_true rfl, decide_eq_true rfl, Bool.true_and] at HO
        replace HB := Lib.hid (HB.out.trans HO.out)
        replace HA := Lib.hid (HA.out.trans (if_pos HO.out))
        clear HO h1 h2
        have C0_4 := C0.out.at 4 rfl
        have C0_24 := C0.out.at 24 rfl
        go_upto_region 6 with fail
        clear C0_4 C0_24
        have C0_4 := C0.out.at 4 rfl
        have C0f4 := C0.out.2.2 4
        replace R1 := Lib.hid (R1.out.other (k' := w.heap.size) (o := 4) (x := .int .i64 0) (by omega))
        replace bel := Lib.hid (Bx.bel_set (k := w.heap.size) (o := 4) (x := .int .i64 0) (by omega) bel.out)
        replace C0 := Lib.hid ((C0.out.set (4) (.int .i64 0)).of (m := (cdl { d with info := 0 })) (by first | rfl | simp [enc, tenc]))
        go_upto_region 7 with fail
        clear C0_4 C0f4
        generalize (W3.setCell ⟨w.heap.size, 4, none⟩ (.int .i64 0)) = W8 at *
        replace C0 := Lib.hid (C0.out.of (m := cdl a) (by rw [HA.out]))
        go_wp2_with (first | ((with_reducible refine cd_load ?_ ?_ (w.heap.size) ?_ a ?_ ?_); (· rfl); (· rfl); (· rfl); (· exact C0.out.blk)))
        refine (HM.out _).mono ?_; rintro e w2 ⟨rfl, hb⟩
        replace C0 := Lib.hid (C0.out.keep hb)
        replace R1 := Lib.hid (R1.out.keep hb)
        replace bel := Lib.hid (Bx.then_below bel.out hb)
        clear hb
        go_wp2_with (first | ((with_reducible refine cd_load ?_ ?_ (w.heap.size) ?_ a ?_ ?_); (· rfl); (· rfl); (· rfl); (· exact C0.out.blk)) | ((with_reducible refine cd_load ?_ ?_ (w.heap.size + 1) ?_ Cd.zero ?_ ?_); (· rfl); (· rfl); (· rfl); (· exact R1.out.blk)))
        refine (HG.out _).mono ?_; rintro e w3 ⟨rfl, hb⟩
        replace C0 := Lib.hid (C0.out.keep hb)
        replace R1 := Lib.hid (R1.out.keep hb)
        replace bel := Lib.hid (Bx.then_below bel.out hb)
        clear hb
        go_wp2_with (first | ((with_reducible refine cd_store ?_ ?_ (w.heap.size + 1) e ?_ ?_ (cdl Cd.zero) ?_ ?_ ?_); (· rfl); (· rfl); (· rfl); (· rfl); (· rfl); (· exact R1.out.own)) | ((with_reducible refine cd_load ?_ ?_ (w.heap.size) ?_ a ?_ ?_); (· rfl); (· rfl); (· rfl); (· exact C0.out.blk)) | ((with_reducible refine cd_load ?_ ?_ (w.heap.size + 1) ?_ Cd.zero ?_ ?_); (· rfl); (· rfl); (· rfl); (· exact R1.out.blk)))
        replace C0 := Lib.hid (C0.out.apart_at (k' := w.heap.size + 1) (cdl e) 0 (by omega))
        replace bel := Lib.hid (Bx.bel_put_at (k := w.heap.size + 1) (cdl e) 0 (by omega) bel.out)
        replace R1 := Lib.hid (R1.out.full (m := (cdl e)) (rfl))
        exact bodyPost_ret (v := .tuple #[cdv e, .bool true]) (cd_result2 Try.results6 rfl rfl R1.out.blk) rfl ⟨by rw [HE.out, HB.out], bel.out⟩
      · have g2 : (d.hrd == 0) = false := by simp [h2]
        rw [h1, decide_eq_true rfl, decide_eq_false h2, Bool.true_and] at HO
        clear h1 h2
        have C0_4 := C0.out.at 4 rfl
        have C0_24 := C0.out.at 24 rfl
        go_upto_region 7 with fail
        clear C0_4 C0_24
        replace HB := Lib.hid (HB.out.trans HO.out)
        replace HA := Lib.hid (HA.out.trans (if_neg (by rw [HO.out]; decide)))
        clear HO
        replace C0 := Lib.hid (C0.out.of (m := cdl a) (by rw [HA.out]))
        go_wp2_with (first | ((with_reducible refine cd_load ?_ ?_ (w.heap.size) ?_ a ?_ ?_); (· rfl); (· rfl); (· rfl); (· exact C0.out.blk)))
        refine (HM.out _).mono ?_; rintro e w2 ⟨rfl, hb⟩
        replace C0 := Lib.hid (C0.out.keep hb)
        replace R1 := Lib.hid (R1.out.keep hb)
        replace bel := Lib.hid (Bx.then_below bel.out hb)
        clear hb
        go_wp2_with (first | ((with_reducible refine cd_load ?_ ?_ (w.heap.size) ?_ a ?_ ?_); (· rfl); (· rfl); (· rfl); (· exact C0.out.blk)) | ((with_reducible refine cd_load ?_ ?_ (w.heap.size + 1) ?_ Cd.zero ?_ ?_); (· rfl); (· rfl); (· rfl); (· exact R1.out.blk)))
        refine (HG.out _).mono ?_; rintro e w3 ⟨rfl, hb⟩
        replace C0 := Lib.hid (C0.out.keep hb)
        replace R1 := Lib.hid (R1.out.keep hb)
        replace bel := Lib.hid (Bx.then_below bel.out hb)
        clear hb
        go_wp2_with (first | ((with_reducible refine cd_store ?_ ?_ (w.heap.size + 1) e ?_ ?_ (cdl Cd.zero) ?_ ?_ ?_); (· rfl); (· rfl); (· rfl); (· rfl); (· rfl); (· exact R1.out.own)) | ((with_reducible refine cd_load ?_ ?_ (w.heap.size) ?_ a ?_ ?_); (· rfl); (· rfl); (· rfl); (· exact C0.out.blk)) | ((with_reducible refine cd_load ?_ ?_ (w.heap.size + 1) ?_ Cd.zero ?_ ?_); (· rfl); (· rfl); (· rfl); (· exact R1.out.blk)))
        replace C0 := Lib.hid (C0.out.apart_at (k' := w.heap.size + 1) (cdl e) 0 (by omega))
        replace bel := Lib.hid (Bx.bel_put_at (k := w.heap.size + 1) (cdl e) 0 (by omega) bel.out)
        replace R1 := Lib.hid (R1.out.full (m := (cdl e)) (rfl))
        exact bodyPost_ret (v := .tuple #[cdv e, .bool false]) (cd_result2 Try.results6 rfl rfl R1.out.blk) rfl ⟨by rw [HE.out, HB.out], bel.out⟩
    · have g1 : (d.info == 2) = false := by simp [h1]
      rw [decide_eq_false h1, Bool.false_and] at HO
      clear h1
      have C0_4 := C0.out.at 4 rfl
      go_upto_region 7 with fail
      clear C0_4
      replace HB := Lib.hid (HB.out.trans HO.out)
      replace HA := Lib.hid (HA.out.trans (if_neg (by rw [HO.out]; decide)))
      clear HO
      replace C0 := Lib.hid (C0.out.of (m := cdl a) (by rw [HA.out]))
      go_wp2_with (first | ((with_reducible refine cd_load ?_ ?_ (w.heap.size) ?_ a ?_ ?_); (· rfl); (· rfl); (· rfl); (· exact C0.out.blk)))
      refine (HM.out _).mono ?_; rintro e w2 ⟨rfl, hb⟩
      replace C0 := Lib.hid (C0.out.keep hb)
      replace R1 := Lib.hid (R1.out.keep hb)
      replace bel := Lib.hid (Bx.then_below bel.out hb)
      clear hb
      go_wp2_with (first | ((with_reducible refine cd_load ?_ ?_ (w.heap.size) ?_ a ?_ ?_); (· rfl); (· rfl); (· rfl); (· exact C0.out.blk)) | ((with_reducible refine cd_load ?_ ?_ (w.heap.size + 1) ?_ Cd.zero ?_ ?_); (· rfl); (· rfl); (· rfl); (· exact R1.out.blk)))
      refine (HG.out _).mono ?_; rintro e w3 ⟨rfl, hb⟩
      replace C0 := Lib.hid (C0.out.keep hb)
      replace R1 := Lib.hid (R1.out.keep hb)
      replace bel := Lib.hid (Bx.then_below bel.out hb)
      clear hb
      go_wp2_with (first | ((with_reducible refine cd_store ?_ ?_ (w.heap.size + 1) e ?_ ?_ (cdl Cd.zero) ?_ ?_ ?_); (· rfl); (· rfl); (· rfl); (· rfl); (· rfl); (· exact R1.out.own)) | ((with_reducible refine cd_load ?_ ?_ (w.heap.size) ?_ a ?_ ?_); (· rfl); (· rfl); (· rfl); (· exact C0.out.blk)) | ((with_reducible refine cd_load ?_ ?_ (w.heap.size + 1) ?_ Cd.zero ?_ ?_); (· rfl); (· rfl); (· rfl); (· exact R1.out.blk)))
      replace C0 := Lib.hid (C0.out.apart_at (k' := w.heap.size + 1) (cdl e) 0 (by omega))
      replace bel := Lib.hid (Bx.bel_put_at (k := w.heap.size + 1) (cdl e) 0 (by omega) bel.out)
      replace R1 := Lib.hid (R1.out.full (m := (cdl e)) (rfl))
      exact bodyPost_ret (v := .tuple #[cdv e, .bool false]) (cd_result2 Try.results6 rfl rfl R1.out.blk) rfl ⟨by rw [HE.out, HB.out], bel.out⟩
  · clear HT
    rw [h] at HE HB
    rw [if_neg (by decide)] at HE
    rw [Bool.false_and] at HB
    clear HM HG HA HO
    have C0_0 := C0.out.at 0 rfl
    rw [h] at C0_0
    clear h
    go_wp2_with (first | ((with_reducible refine cd_store ?_ ?_ (w.heap.size + 1) c ?_ ?_ (cdl Cd.zero) ?_ ?_ ?_); (· rfl); (· rfl); (· rfl); (· rfl); (· rfl); (· exact R1.out.own)) | ((with_reducible refine cd_load ?_ ?_ (w.heap.size) ?_ c ?_ ?_); (· rfl); (· rfl); (· rfl); (· exact C0.out.blk)))
    replace C0 := Lib.hid (C0.out.apart_at (k' := w.heap.size + 1) (cdl c) 0 (by omega))
    replace bel := Lib.hid (Bx.bel_put_at (k := w.heap.size + 1) (cdl c) 0 (by omega) bel.out)
    replace R1 := Lib.hid (R1.out.full (m := (cdl c)) (rfl))
    exact bodyPost_ret (v := .tuple #[cdv c, .bool false]) (cd_result2 Try.results6 rfl rfl R1.out.blk) rfl ⟨by rw [HE.out, HB.out], bel.out⟩

set_option maxRecDepth 40000 in
set_option maxHeartbeats 8000000 in
theorem rtick_any (c : Cd) (hc : Ok c) (w : World) : Calls Try.prog 7 #[cdv c] w fun e w' => e = .returned (.tuple #[cdv (tckC c), .bool (tckB c)]) ∧ Below w.heap.size w w' := by
  have hO : Ok (ageC (tmrC c)) := ok_age (ok_tmr hc)
  have HM : Hid (∀ w, Calls Try.prog 9 #[cdv (ageC (tmrC c))] w fun e w' => e = .returned (cdv (movC (ageC (tmrC c)))) ∧ Below w.heap.size w w') := Lib.hid (fun w => rmoves_any _ hO.1 w)
  have HG : Hid (∀ w, Calls Try.prog 11 #[cdv (movC (ageC (tmrC c)))] w fun e w' => e = .returned (cdv (edgC (movC (ageC (tmrC c))))) ∧ Below w.heap.size w w') := Lib.hid (fun w => redges_any _ w)
  have HE : Hid (tckC c = if c.up = true then edgC (movC (ageC (tmrC c))) else c) := Lib.hid rfl
  have HB : Hid (tckB c = (c.up && oldB (tmrC c))) := Lib.hid rfl
  have HA : Hid (∀ d, ageC d = if oldB d = true then { d with info := 0 } else d) := Lib.hid (fun _ => rfl)
  have HO : Hid (∀ d, oldB d = (decide (d.info = 2) && decide (d.hrd = 0))) := Lib.hid (fun _ => rfl)
  clear hO
  obtain ⟨_, k1, k2, k3, k4, k5, k6, k7, _⟩ := hc
  have H1 := Lib.hid (rdown_bel c.wai k1)
  have H2 := Lib.hid (rdown_bel c.chg k2)
  have H3 := Lib.hid (rdown_bel c.qui k3)
  have H4 := Lib.hid (rdown_bel c.sen k4)
  have H5 := Lib.hid (rdown_bel c.hel k5)
  have H6 := Lib.hid (rdown_bel c.hrd k6)
  have H7 := Lib.hid (rdown_bel c.rcn k7)
  clear k1 k2 k3 k4 k5 k6 k7
  have C0 : Hid (Bx.Fre (w.alloc (cdo c)) w.heap.size (cdl c)) := Lib.hid (Bx.Fre.new w (cdl c) 28)
  have bel := Lib.hid (Bx.box_below w (cdo c))
  replace C0 := Lib.hid (C0.out.more (cdo Cd.zero))
  have R1 : Hid (Bx.Fre ((w.alloc (cdo c)).alloc (cdo Cd.zero)) (w.heap.size + 1) (cdl Cd.zero)) := Lib.hid (Bx.Fre.new_at (W := (w.alloc (cdo c))) (k := w.heap.size + 1) (cdl Cd.zero) 28 (by simp))
  replace bel := Lib.hid (Bx.bel_box bel.out (cdo Cd.zero))
  go_enter Try.func7, Try.ntmps7
  go_upto_region 1 with fail
  generalize ((w.alloc (cdo c)).alloc (cdo Cd.zero)) = W0 at *
  rcases Bool.eq_false_or_eq_true c.up with h | h
  · rw [h] at HE HB
    rw [if_pos rfl] at HE
    rw [Bool.true_and] at HB
    replace HA := Lib.hid (HA.out (tmrC c))
    replace HO := Lib.hid (HO.out (tmrC c))
    generalize edgC (movC (ageC (tmrC c))) = e at *
    generalize movC (ageC (tmrC c)) = m at *
    generalize ageC (tmrC c) = a at *
    have C0_0 := C0.out.at 0 rfl
    rw [h] at C0_0
    clear h
    go_upto_region 3 with fail
    clear C0_0
    refine wp_region_noPanic ?_
    refine Gt.region_gate (g := 13) (S := fun w' => w'.cell? ⟨w.heap.size, 25, none⟩ = some (.int .i64 c.wai) ∧ w'.cell? ⟨w.heap.size, 27, none⟩ = some (.int .i64 c.chg) ∧ w'.cell? ⟨w.heap.size, 28, none⟩ = some (.int .i64 c.qui) ∧ w'.cell? ⟨w.heap.size, 29, none⟩ = some (.int .i64 c.sen)) (by kernel_rfl) (by exact ⟨C0.out.at 25 rfl, C0.out.at 27 rfl, C0.out.at 28 rfl, C0.out.at 29 rfl⟩) (fun hHeld => ?_)
    replace bel := Lib.hid (Bx.bel_drewn bel.out)
    replace C0 := Lib.hid (C0.out.drew)
    replace R1 := Lib.hid (R1.out.drew)
    generalize W0.drew = wd3 at *
    refine Gt.gate_take (i := 0) (oi := ?oz1x0) (v := ?vz1x0) ?hiz1x0 (by kernel_rfl) (by kernel_rfl) (by kernel_rfl) (by kernel_rfl) (fun _ _ _ h => h) ?yz1x0 hHeld ?rz1x0
    case hiz1x0 => (simp only [List.getElem?_toArray, List.getElem?_cons_zero]; rfl)
    case yz1x0 => (refine Or.inl ⟨by rfl, ?_⟩; intro w' hSw; (try dsimp only at hSw); go_simp; (try with_reducible rfl))
    try simp only [Act.put, List.setIfInBounds_toArray, List.set_cons_zero, List.set_cons_succ]
    refine Gt.gate_take (i := 1) (oi := ?oz1x1) (v := ?vz1x1) ?hiz1x1 (by kernel_rfl) (by kernel_rfl) (by kernel_rfl) (by kernel_rfl) (fun _ _ _ h => h) ?yz1x1 hHeld ?rz1x1
    case hiz1x1 => (simp only [List.getElem?_toArray, List.getElem?_cons_succ, List.getElem?_cons_zero]; rfl)
    case yz1x1 => (refine Or.inl ⟨by rfl, ?_⟩; intro w' hSw; (try dsimp only at hSw); go_simp; (try with_reducible rfl))
    try simp only [Act.put, List.setIfInBounds_toArray, List.set_cons_zero, List.set_cons_succ]
    refine Gt.gate_take (i := 3) (oi := ?oz1x3) (v := ?vz1x3) ?hiz1x3 (by kernel_rfl) (by kernel_rfl) (by kernel_rfl) (by kernel_rfl) (fun _ _ _ h => h) ?yz1x3 hHeld ?rz1x3
    case hiz1x3 => (simp only [List.getElem?_toArray, List.getElem?_cons_succ, List.getElem?_cons_zero]; rfl)
    case yz1x3 => (refine Or.inl ⟨by rfl, ?_⟩; intro w' hSw; (try dsimp only at hSw); go_simp; (try with_reducible rfl))
    try simp only [Act.put, List.setIfInBounds_toArray, List.set_cons_zero, List.set_cons_succ]
    refine Gt.gate_take (i := 4) (oi := ?oz1x4) (v := ?vz1x4) ?hiz1x4 (by kernel_rfl) (by kernel_rfl) (by kernel_rfl) (by kernel_rfl) (fun _ _ _ h => h) ?yz1x4 hHeld ?rz1x4
    case hiz1x4 => (simp only [List.getElem?_toArray, List.getElem?_cons_succ, List.getElem?_cons_zero]; rfl)
    case yz1x4 => (refine Or.inl ⟨by rfl, ?_⟩; intro w' hSw; (try dsimp only at hSw); go_simp; (try with_reducible rfl))
    try simp only [Act.put, List.setIfInBounds_toArray, List.set_cons_zero, List.set_cons_succ]
    refine Gt.gate_take (i := 6) (oi := ?oz1x6) (v := ?vz1x6) ?hiz1x6 (by kernel_rfl) (by kernel_rfl) (by kernel_rfl) (by kernel_rfl) (fun _ _ _ h => h) ?yz1x6 hHeld ?rz1x6
    case hiz1x6 => (simp only [List.getElem?_toArray, List.getElem?_cons_succ, List.getElem?_cons_zero]; rfl)
    case yz1x6 => (refine Or.inl ⟨by rfl, ?_⟩; intro w' hSw; (try dsimp only at hSw); go_simp; (try with_reducible rfl))
    try simp only [Act.put, List.setIfInBounds_toArray, List.set_cons_zero, List.set_cons_succ]
    refine Gt.gate_take (i := 7) (oi := ?oz1x7) (v := ?vz1x7) ?hiz1x7 (by kernel_rfl) (by kernel_rfl) (by kernel_rfl) (by kernel_rfl) (fun _ _ _ h => h) ?yz1x7 hHeld ?rz1x7
    case hiz1x7 => (simp only [List.getElem?_toArray, List.getElem?_cons_succ, List.getElem?_cons_zero]; rfl)
    case yz1x7 => (refine Or.inl ⟨by rfl, ?_⟩; intro w' hSw; (try dsimp only at hSw); go_simp; (try with_reducible rfl))
    try simp only [Act.put, List.setIfInBounds_toArray, List.set_cons_zero, List.set_cons_succ]
    refine Gt.gate_take (i := 9) (oi := ?oz1x9) (v := ?vz1x9) ?hiz1x9 (by kernel_rfl) (by kernel_rfl) (by kernel_rfl) (by kernel_rfl) (fun _ _ _ h => h) ?yz1x9 hHeld ?rz1x9
    case hiz1x9 => (simp only [List.getElem?_toArray, List.getElem?_cons_succ, List.getElem?_cons_zero]; rfl)
    case yz1x9 => (refine Or.inl ⟨by rfl, ?_⟩; intro w' hSw; (try dsimp only at hSw); go_simp; (try with_reducible rfl))
    try simp only [Act.put, List.setIfInBounds_toArray, List.set_cons_zero, List.set_cons_succ]
    refine Gt.gate_take (i := 10) (oi := ?oz1x10) (v := ?vz1x10) ?hiz1x10 (by kernel_rfl) (by kernel_rfl) (by kernel_rfl) (by kernel_rfl) (fun _ _ _ h => h) ?yz1x10 hHeld ?rz1x10
    case hiz1x10 => (simp only [List.getElem?_toArray, List.getElem?_cons_succ, List.getElem?_cons_zero]; rfl)
    case yz1x10 => (refine Or.inl ⟨by rfl, ?_⟩; intro w' hSw; (try dsimp only at hSw); go_simp; (try with_reducible rfl))
    try simp only [Act.put, List.setIfInBounds_toArray, List.set_cons_zero, List.set_cons_succ]
    refine Gt.gate_step (i := 2) (o := ?oz1x2) (by kernel_rfl) (by decide) ?hiz1x2 ?hstz1x2
    case hiz1x2 => (simp only [List.getElem?_toArray, List.getElem?_cons_succ, List.getElem?_cons_zero]; rfl)
    intro K hK
    go_simp
    (go_at_call 13; (with_reducible refine (H1.out _).mono ?_); rintro e w1 ⟨rfl, hb⟩)
    go_wp2_with fail
    refine hK.out _ _ ⟨Bx.keep_cell hb hHeld.1, Bx.keep_cell hb hHeld.2.1, Bx.keep_cell hb hHeld.2.2.1, Bx.keep_cell hb hHeld.2.2.2⟩ (fun hNew => ?_)
    clear hHeld
    have hHeld := hNew
    clear hNew hK K
    replace bel := Lib.hid (Bx.then_below bel.out hb)
    replace C0 := Lib.hid (C0.out.keep hb)
    replace R1 := Lib.hid (R1.out.keep hb)
    clear hb
    refine Gt.gate_take (i := 12) (oi := ?oz1x12) (v := ?vz1x12) ?hiz1x12 (by kernel_rfl) (by kernel_rfl) (by kernel_rfl) (by kernel_rfl) (fun _ _ _ h => h) ?yz1x12 hHeld ?rz1x12
    case hiz1x12 => (simp only [List.getElem?_toArray, List.getElem?_cons_succ, List.getElem?_cons_zero]; rfl)
    case yz1x12 => (refine Or.inl ⟨by rfl, ?_⟩; intro w' hSw; (try dsimp only at hSw); go_simp; (try with_reducible rfl))
    try simp only [Act.put, List.setIfInBounds_toArray, List.set_cons_zero, List.set_cons_succ]
    refine Gt.gate_step (i := 5) (o := ?oz1x5) (by kernel_rfl) (by decide) ?hiz1x5 ?hstz1x5
    case hiz1x5 => (simp only [List.getElem?_toArray, List.getElem?_cons_succ, List.getElem?_cons_zero]; rfl)
    intro K hK
    go_simp
    (go_at_call 13; (with_reducible refine (H2.out _).mono ?_); rintro e w2 ⟨rfl, hb⟩)
    go_wp2_with fail
    refine hK.out _ _ ⟨Bx.keep_cell hb hHeld.1, Bx.keep_cell hb hHeld.2.1, Bx.keep_cell hb hHeld.2.2.1, Bx.keep_cell hb hHeld.2.2.2⟩ (fun hNew => ?_)
    clear hHeld
    have hHeld := hNew
    clear hNew hK K
    replace bel := Lib.hid (Bx.then_below bel.out hb)
    replace C0 := Lib.hid (C0.out.keep hb)
    replace R1 := Lib.hid (R1.out.keep hb)
    clear hb
    refine Gt.gate_step (i := 8) (o := ?oz1x8) (by kernel_rfl) (by decide) ?hiz1x8 ?hstz1x8
    case hiz1x8 => (simp only [List.getElem?_toArray, List.getElem?_cons_succ, List.getElem?_cons_zero]; rfl)
    intro K hK
    go_simp
    (go_at_call 13; (with_reducible refine (H3.out _).mono ?_); rintro e w3 ⟨rfl, hb⟩)
    go_wp2_with fail
    refine hK.out _ _ ⟨Bx.keep_cell hb hHeld.1, Bx.keep_cell hb hHeld.2.1, Bx.keep_cell hb hHeld.2.2.1, Bx.keep_cell hb hHeld.2.2.2⟩ (fun hNew => ?_)
    clear hHeld
    have hHeld := hNew
    clear hNew hK K
    replace bel := Lib.hid (Bx.then_below bel.out hb)
    replace C0 := Lib.hid (C0.out.keep hb)
    replace R1 := Lib.hid (R1.out.keep hb)
    clear hb
    refine Gt.gate_step (i := 11) (o := ?oz1x11) (by kernel_rfl) (by decide) ?hiz1x11 ?hstz1x11
    case hiz1x11 => (simp only [List.getElem?_toArray, List.getElem?_cons_succ, List.getElem?_cons_zero]; rfl)
    intro K hK
    go_simp
    (go_at_call 13; (with_reducible refine (H4.out _).mono ?_); rintro e w4 ⟨rfl, hb⟩)
    go_wp2_with fail
    refine hK.out _ _ ⟨Bx.keep_cell hb hHeld.1, Bx.keep_cell hb hHeld.2.1, Bx.keep_cell hb hHeld.2.2.1, Bx.keep_cell hb hHeld.2.2.2⟩ (fun hNew => ?_)
    clear hHeld
    have hHeld := hNew
    clear hNew hK K
    replace bel := Lib.hid (Bx.then_below bel.out hb)
    replace C0 := Lib.hid (C0.out.keep hb)
    replace R1 := Lib.hid (R1.out.keep hb)
    clear hb
    refine Gt.gate_gate (o := ?oz1x13) (by kernel_rfl) ?hiz1x13 ?hstz1x13
    case hiz1x13 => (simp only [List.getElem?_toArray, List.getElem?_cons_succ, List.getElem?_cons_zero]; rfl)
    intro K hK
    have q6 := C0.out.at 25 rfl
    have f6 := C0.out.2.2 25
    go_simp
    refine hK.out _ _ ?_
    clear hK K hHeld
    clear q6 f6
    replace R1 := Lib.hid (R1.out.other (k' := w.heap.size) (o := 25) (x := .int .i64 (dnI c.wai)) (by omega))
    replace bel := Lib.hid (Bx.bel_set (k := w.heap.size) (o := 25) (x := .int .i64 (dnI c.wai)) (by omega) bel.out)
    replace C0 := Lib.hid ((C0.out.set (25) (.int .i64 (dnI c.wai))).of (m := (cdl { c with wai := dnI c.wai })) (by first | rfl | simp [enc, tenc]))
    refine wpAnyH_take (i := 14) (oi := ?oz1x14) (v := ?vz1x14) ?hiz1x14 (by kernel_rfl) (by kernel_rfl) (by kernel_rfl) (fun _ _ _ h => h) ?yz1x14 trivial ?rz1x14
    case hiz1x14 => (simp only [List.getElem?_toArray, List.getElem?_cons_succ, List.getElem?_cons_zero]; rfl)
    case yz1x14 => (refine Or.inl ⟨by rfl, ?_⟩; intro w' hSw; (try dsimp only at hSw); go_simp; (try with_reducible rfl))
    try simp only [Act.put, List.setIfInBounds_toArray, List.set_cons_zero, List.set_cons_succ]
    refine wpAnyH_ready (rs := [15]) (by kernel_rfl) (by simp) ?_
    refine AllReadyH.cons (o := ?oz1x15) ?hiz1x15 ?hstz1x15 AllReadyH.nil
    case hiz1x15 => (simp only [List.getElem?_toArray, List.getElem?_cons_succ, List.getElem?_cons_zero]; rfl)
    intro K hK
    have q6 := C0.out.at 27 rfl
    have f6 := C0.out.2.2 27
    go_simp
    refine hK.out _ _ trivial (fun _ => ?_)
    clear hK K
    clear q6 f6
    replace R1 := Lib.hid (R1.out.other (k' := w.heap.size) (o := 27) (x := .int .i64 (dnI c.chg)) (by omega))
    replace bel := Lib.hid (Bx.bel_set (k := w.heap.size) (o := 27) (x := .int .i64 (dnI c.chg)) (by omega) bel.out)
    replace C0 := Lib.hid ((C0.out.set (27) (.int .i64 (dnI c.chg))).of (m := (cdl { c with wai := dnI c.wai, chg := dnI c.chg })) (by first | rfl | simp [enc, tenc]))
    refine wpAnyH_take (i := 16) (oi := ?oz1x16) (v := ?vz1x16) ?hiz1x16 (by kernel_rfl) (by kernel_rfl) (by kernel_rfl) (fun _ _ _ h => h) ?yz1x16 trivial ?rz1x16
    case hiz1x16 => (simp only [List.getElem?_toArray, List.getElem?_cons_succ, List.getElem?_cons_zero]; rfl)
    case yz1x16 => (refine Or.inl ⟨by rfl, ?_⟩; intro w' hSw; (try dsimp only at hSw); go_simp; (try with_reducible rfl))
    try simp only [Act.put, List.setIfInBounds_toArray, List.set_cons_zero, List.set_cons_succ]
    refine wpAnyH_ready (rs := [17]) (by kernel_rfl) (by simp) ?_
    refine AllReadyH.cons (o := ?oz1x17) ?hiz1x17 ?hstz1x17 AllReadyH.nil
    case hiz1x17 => (simp only [List.getElem?_toArray, List.getElem?_cons_succ, List.getElem?_cons_zero]; rfl)
    intro K hK
    have q6 := C0.out.at 28 rfl
    have f6 := C0.out.2.2 28
    go_simp
    refine hK.out _ _ trivial (fun _ => ?_)
    clear hK K
    clear q6 f6
    replace R1 := Lib.hid (R1.out.other (k' := w.heap.size) (o := 28) (x := .int .i64 (dnI c.qui)) (by omega))
    replace bel := Lib.hid (Bx.bel_set (k := w.heap.size) (o := 28) (x := .int .i64 (dnI c.qui)) (by omega) bel.out)
    replace C0 := Lib.hid ((C0.out.set (28) (.int .i64 (dnI c.qui))).of (m := (cdl { c with wai := dnI c.wai, chg := dnI c.chg, qui := dnI c.qui })) (by first | rfl | simp [enc, tenc]))
    refine wpAnyH_take (i := 18) (oi := ?oz1x18) (v := ?vz1x18) ?hiz1x18 (by kernel_rfl) (by kernel_rfl) (by kernel_rfl) (fun _ _ _ h => h) ?yz1x18 trivial ?rz1x18
    case hiz1x18 => (simp only [List.getElem?_toArray, List.getElem?_cons_succ, List.getElem?_cons_zero]; rfl)
    case yz1x18 => (refine Or.inl ⟨by rfl, ?_⟩; intro w' hSw; (try dsimp only at hSw); go_simp; (try with_reducible rfl))
    try simp only [Act.put, List.setIfInBounds_toArray, List.set_cons_zero, List.set_cons_succ]
    refine wpAnyH_ready (rs := [19]) (by kernel_rfl) (by simp) ?_
    refine AllReadyH.cons (o := ?oz1x19) ?hiz1x19 ?hstz1x19 AllReadyH.nil
    case hiz1x19 => (simp only [List.getElem?_toArray, List.getElem?_cons_succ, List.getElem?_cons_zero]; rfl)
    intro K hK
    have q6 := C0.out.at 29 rfl
    have f6 := C0.out.2.2 29
    go_simp
    refine hK.out _ _ trivial (fun _ => ?_)
    clear hK K
    clear q6 f6
    replace R1 := Lib.hid (R1.out.other (k' := w.heap.size) (o := 29) (x := .int .i64 (dnI c.sen)) (by omega))
    replace bel := Lib.hid (Bx.bel_set (k := w.heap.size) (o := 29) (x := .int .i64 (dnI c.sen)) (by omega) bel.out)
    replace C0 := Lib.hid ((C0.out.set (29) (.int .i64 (dnI c.sen))).of (m := (cdl { c with wai := dnI c.wai, chg := dnI c.chg, qui := dnI c.qui, sen := dnI c.sen })) (by first | rfl | simp [enc, tenc]))
    refine wpAnyH_done (by kernel_rfl) ?_ _
    refine NoPanic.normal ?_
    go_upto_region 4 with fail
    generalize ((((w4.setCell ⟨w.heap.size, 25, none⟩ (.int .i64 (dnI c.wai))).setCell ⟨w.heap.size, 27, none⟩ (.int .i64 (dnI c.chg))).setCell ⟨w.heap.size, 28, none⟩ (.int .i64 (dnI c.qui))).setCell ⟨w.heap.size, 29, none⟩ (.int .i64 (dnI c.sen))) = W3 at *
    refine wp_region_noPanic ?_
    refine Gt.region_gate (g := 7) (S := fun w' => w'.cell? ⟨w.heap.size, 30, none⟩ = some (.int .i64 c.hel) ∧ w'.cell? ⟨w.heap.size, 24, none⟩ = some (.int .i64 c.hrd)) (by kernel_rfl) (by exact ⟨C0.out.at 30 rfl, C0.out.at 24 rfl⟩) (fun hHeld => ?_)
    replace bel := Lib.hid (Bx.bel_drewn bel.out)
    replace C0 := Lib.hid (C0.out.drew)
    replace R1 := Lib.hid (R1.out.drew)
    generalize W3.drew = wd4 at *
    refine Gt.gate_take (i := 0) (oi := ?oz2x0) (v := ?vz2x0) ?hiz2x0 (by kernel_rfl) (by kernel_rfl) (by kernel_rfl) (by kernel_rfl) (fun _ _ _ h => h) ?yz2x0 hHeld ?rz2x0
    case hiz2x0 => (simp only [List.getElem?_toArray, List.getElem?_cons_zero]; rfl)
    case yz2x0 => (refine Or.inl ⟨by rfl, ?_⟩; intro w' hSw; (try dsimp only at hSw); go_simp; (try with_reducible rfl))
    try simp only [Act.put, List.setIfInBounds_toArray, List.set_cons_zero, List.set_cons_succ]
    refine Gt.gate_take (i := 1) (oi := ?oz2x1) (v := ?vz2x1) ?hiz2x1 (by kernel_rfl) (by kernel_rfl) (by kernel_rfl) (by kernel_rfl) (fun _ _ _ h => h) ?yz2x1 hHeld ?rz2x1
    case hiz2x1 => (simp only [List.getElem?_toArray, List.getElem?_cons_succ, List.getElem?_cons_zero]; rfl)
    case yz2x1 => (refine Or.inl ⟨by rfl, ?_⟩; intro w' hSw; (try dsimp only at hSw); go_simp; (try with_reducible rfl))
    try simp only [Act.put, List.setIfInBounds_toArray, List.set_cons_zero, List.set_cons_succ]
    refine Gt.gate_take (i := 3) (oi := ?oz2x3) (v := ?vz2x3) ?hiz2x3 (by kernel_rfl) (by kernel_rfl) (by kernel_rfl) (by kernel_rfl) (fun _ _ _ h => h) ?yz2x3 hHeld ?rz2x3
    case hiz2x3 => (simp only [List.getElem?_toArray, List.getElem?_cons_succ, List.getElem?_cons_zero]; rfl)
    case yz2x3 => (refine Or.inl ⟨by rfl, ?_⟩; intro w' hSw; (try dsimp only at hSw); go_simp; (try with_reducible rfl))
    try simp only [Act.put, List.setIfInBounds_toArray, List.set_cons_zero, List.set_cons_succ]
    refine Gt.gate_take (i := 4) (oi := ?oz2x4) (v := ?vz2x4) ?hiz2x4 (by kernel_rfl) (by kernel_rfl) (by kernel_rfl) (by kernel_rfl) (fun _ _ _ h => h) ?yz2x4 hHeld ?rz2x4
    case hiz2x4 => (simp only [List.getElem?_toArray, List.getElem?_cons_succ, List.getElem?_cons_zero]; rfl)
    case yz2x4 => (refine Or.inl ⟨by rfl, ?_⟩; intro w' hSw; (try dsimp only at hSw); go_simp; (try with_reducible rfl))
    try simp only [Act.put, List.setIfInBounds_toArray, List.set_cons_zero, List.set_cons_succ]
    refine Gt.gate_step (i := 2) (o := ?oz2x2) (by kernel_rfl) (by decide) ?hiz2x2 ?hstz2x2
    case hiz2x2 => (simp only [List.getElem?_toArray, List.getElem?_cons_succ, List.getElem?_cons_zero]; rfl)
    intro K hK
    go_simp
    (go_at_call 13; (with_reducible refine (H5.out _).mono ?_); rintro e w5 ⟨rfl, hb⟩)
    go_wp2_with fail
    refine hK.out _ _ ⟨Bx.keep_cell hb hHeld.1, Bx.keep_cell hb hHeld.2⟩ (fun hNew => ?_)
    clear hHeld
    have hHeld := hNew
    clear hNew hK K
    replace bel := Lib.hid (Bx.then_below bel.out hb)
    replace C0 := Lib.hid (C0.out.keep hb)
    replace R1 := Lib.hid (R1.out.keep hb)
    clear hb
    refine Gt.gate_take (i := 6) (oi := ?oz2x6) (v := ?vz2x6) ?hiz2x6 (by kernel_rfl) (by kernel_rfl) (by kernel_rfl) (by kernel_rfl) (fun _ _ _ h => h) ?yz2x6 hHeld ?rz2x6
    case hiz2x6 => (simp only [List.getElem?_toArray, List.getElem?_cons_succ, List.getElem?_cons_zero]; rfl)
    case yz2x6 => (refine Or.inl ⟨by rfl, ?_⟩; intro w' hSw; (try dsimp only at hSw); go_simp; (try with_reducible rfl))
    try simp only [Act.put, List.setIfInBounds_toArray, List.set_cons_zero, List.set_cons_succ]
    refine Gt.gate_step (i := 5) (o := ?oz2x5) (by kernel_rfl) (by decide) ?hiz2x5 ?hstz2x5
    case hiz2x5 => (simp only [List.getElem?_toArray, List.getElem?_cons_succ, List.getElem?_cons_zero]; rfl)
    intro K hK
    go_simp
    (go_at_call 13; (with_reducible refine (H6.out _).mono ?_); rintro e w6 ⟨rfl, hb⟩)
    go_wp2_with fail
    refine hK.out _ _ ⟨Bx.keep_cell hb hHeld.1, Bx.keep_cell hb hHeld.2⟩ (fun hNew => ?_)
    clear hHeld
    have hHeld := hNew
    clear hNew hK K
    replace bel := Lib.hid (Bx.then_below bel.out hb)
    replace C0 := Lib.hid (C0.out.keep hb)
    replace R1 := Lib.hid (R1.out.keep hb)
    clear hb
    refine Gt.gate_gate (o := ?oz2x7) (by kernel_rfl) ?hiz2x7 ?hstz2x7
    case hiz2x7 => (simp only [List.getElem?_toArray, List.getElem?_cons_succ, List.getElem?_cons_zero]; rfl)
    intro K hK
    have q6 := C0.out.at 30 rfl
    have f6 := C0.out.2.2 30
    go_simp
    refine hK.out _ _ ?_
    clear hK K hHeld
    clear q6 f6
    replace R1 := Lib.hid (R1.out.other (k' := w.heap.size) (o := 30) (x := .int .i64 (dnI c.hel)) (by omega))
    replace bel := Lib.hid (Bx.bel_set (k := w.heap.size) (o := 30) (x := .int .i64 (dnI c.hel)) (by omega) bel.out)
    replace C0 := Lib.hid ((C0.out.set (30) (.int .i64 (dnI c.hel))).of (m := (cdl { c with wai := dnI c.wai, chg := dnI c.chg, qui := dnI c.qui, sen := dnI c.sen, hel := dnI c.hel })) (by first | rfl | simp [enc, tenc]))
    refine wpAnyH_take (i := 8) (oi := ?oz2x8) (v := ?vz2x8) ?hiz2x8 (by kernel_rfl) (by kernel_rfl) (by kernel_rfl) (fun _ _ _ h => h) ?yz2x8 trivial ?rz2x8
    case hiz2x8 => (simp only [List.getElem?_toArray, List.getElem?_cons_succ, List.getElem?_cons_zero]; rfl)
    case yz2x8 => (refine Or.inl ⟨by rfl, ?_⟩; intro w' hSw; (try dsimp only at hSw); go_simp; (try with_reducible rfl))
    try simp only [Act.put, List.setIfInBounds_toArray, List.set_cons_zero, List.set_cons_succ]
    refine wpAnyH_ready (rs := [9]) (by kernel_rfl) (by simp) ?_
    refine AllReadyH.cons (o := ?oz2x9) ?hiz2x9 ?hstz2x9 AllReadyH.nil
    case hiz2x9 => (simp only [List.getElem?_toArray, List.getElem?_cons_succ, List.getElem?_cons_zero]; rfl)
    intro K hK
    have q6 := C0.out.at 24 rfl
    have f6 := C0.out.2.2 24
    go_simp
    refine hK.out _ _ trivial (fun _ => ?_)
    clear hK K
    clear q6 f6
    replace R1 := Lib.hid (R1.out.other (k' := w.heap.size) (o := 24) (x := .int .i64 (dnI c.hrd)) (by omega))
    replace bel := Lib.hid (Bx.bel_set (k := w.heap.size) (o := 24) (x := .int .i64 (dnI c.hrd)) (by omega) bel.out)
    replace C0 := Lib.hid ((C0.out.set (24) (.int .i64 (dnI c.hrd))).of (m := (cdl { c with wai := dnI c.wai, chg := dnI c.chg, qui := dnI c.qui, sen := dnI c.sen, hel := dnI c.hel, hrd := dnI c.hrd })) (by first | rfl | simp [enc, tenc]))
    refine wpAnyH_done (by kernel_rfl) ?_ _
    refine NoPanic.normal ?_
    go_upto_region 5 with fail
    generalize ((w6.setCell ⟨w.heap.size, 30, none⟩ (.int .i64 (dnI c.hel))).setCell ⟨w.heap.size, 24, none⟩ (.int .i64 (dnI c.hrd))) = W4 at *
    by_cases h : c.role = 2
    · have g : (c.role != 2) = false := by simp [h]
      have HD : Hid (tmrC c = { c with wai := dnI c.wai, chg := dnI c.chg, qui := dnI c.qui, sen := dnI c.sen, hel := dnI c.hel, hrd := dnI c.hrd }) := Lib.hid (by unfold tmrC; rw [if_pos h])
      clear h
      have C0_13 := C0.out.at 13 rfl
      go_upto_region 7 with fail
      clear C0_13
      clear g
      generalize tmrC c = d at *
      replace C0 := Lib.hid (C0.out.of (m := cdl d) (by rw [HD.out]))
      clear HD
      by_cases h1 : d.info = 2
      · have g1 : (d.info == 2) = true := by simp [h1]
        by_cases h2 : d.hrd = 0
        · have g2 : (d.hrd == 0) = true := by simp [h2]
          rw [h1, h2, decide_eq_true rfl, decide_eq_true rfl, Bool.true_and] at HO
          replace HB := Lib.hid (HB.out.trans HO.out)
          replace HA := Lib.hid (HA.out.trans (if_pos HO.out))
          clear HO h1 h2
          have C0_4 := C0.out.at 4 rfl
          have C0_24 := C0.out.at 24 rfl
          go_upto_region 8 with fail
          clear C0_4 C0_24
          have C0_4 := C0.out.at 4 rfl
          have C0f4 := C0.out.2.2 4
          replace R1 := Lib.hid (R1.out.other (k' := w.heap.size) (o := 4) (x := .int .i64 0) (by omega))
          replace bel := Lib.hid (Bx.bel_set (k := w.heap.size) (o := 4) (x := .int .i64 0) (by omega) bel.out)
          replace C0 := Lib.hid ((C0.out.set (4) (.int .i64 0)).of (m := (cdl { d with info := 0 })) (by first | rfl | simp [enc, tenc]))
          go_upto_region 9 with fail
          clear C0_4 C0f4
          generalize (W4.setCell ⟨w.heap.size, 4, none⟩ (.int .i64 0)) = W8 at *
          replace C0 := Lib.hid (C0.out.of (m := cdl a) (by rw [HA.out]))
          go_wp2_with (first | ((with_reducible refine cd_load ?_ ?_ (w.heap.size) ?_ a ?_ ?_); (· rfl); (· rfl); (· rfl); (· exact C0.out.blk)))
          refine (HM.out _).mono ?_; rintro e w7 ⟨rfl, hb⟩
          replace C0 := Lib.hid (C0.out.keep hb)
          replace R1 := Lib.hid (R1.out.keep hb)
          replace bel := Lib.hid (Bx.then_below bel.out hb)
          clear hb
          go_wp2_with (first | ((with_reducible refine cd_load ?_ ?_ (w.heap.size) ?_ a ?_ ?_); (· rfl); (· rfl); (· rfl); (· exact C0.out.blk)) | ((with_reducible refine cd_load ?_ ?_ (w.heap.size + 1) ?_ Cd.zero ?_ ?_); (· rfl); (· rfl); (· rfl); (· exact R1.out.blk)))
          refine (HG.out _).mono ?_; rintro e w8 ⟨rfl, hb⟩
          replace C0 := Lib.hid (C0.out.keep hb)
          replace R1 := Lib.hid (R1.out.keep hb)
          replace bel := Lib.hid (Bx.then_below bel.out hb)
          clear hb
          go_wp2_with (first | ((with_reducible refine cd_store ?_ ?_ (w.heap.size + 1) e ?_ ?_ (cdl Cd.zero) ?_ ?_ ?_); (· rfl); (· rfl); (· rfl); (· rfl); (· rfl); (· exact R1.out.own)) | ((with_reducible refine cd_load ?_ ?_ (w.heap.size) ?_ a ?_ ?_); (· rfl); (· rfl); (· rfl); (· exact C0.out.blk)) | ((with_reducible refine cd_load ?_ ?_ (w.heap.size + 1) ?_ Cd.zero ?_ ?_); (· rfl); (· rfl); (· rfl); (· exact R1.out.blk)))
          replace C0 := Lib.hid (C0.out.apart_at (k' := w.heap.size + 1) (cdl e) 0 (by omega))
          replace bel := Lib.hid (Bx.bel_put_at (k := w.heap.size + 1) (cdl e) 0 (by omega) bel.out)
          replace R1 := Lib.hid (R1.out.full (m := (cdl e)) (rfl))
          exact bodyPost_ret (v := .tuple #[cdv e, .bool true]) (cd_result2 Try.results7 rfl rfl R1.out.blk) rfl ⟨by rw [HE.out, HB.out], bel.out⟩
        · have g2 : (d.hrd == 0) = false := by simp [h2]
          rw [h1, decide_eq_true rfl, decide_eq_false h2, Bool.true_and] at HO
          clear h1 h2
          have C0_4 := C0.out.at 4 rfl
          have C0_24 := C0.out.at 24 rfl
          go_upto_region 10 with fail
          clear C0_4 C0_24
          replace HB := Lib.hid (HB.out.trans HO.out)
          replace HA := Lib.hid (HA.out.trans (if_neg (by rw [HO.out]; decide)))
          clear HO
          replace C0 := Lib.hid (C0.out.of (m := cdl a) (by rw [HA.out]))
          go_wp2_with (first | ((with_reducible refine cd_load ?_ ?_ (w.heap.size) ?_ a ?_ ?_); (· rfl); (· rfl); (· rfl); (· exact C0.out.blk)))
          refine (HM.out _).mono ?_; rintro e w7 ⟨rfl, hb⟩
          replace C0 := Lib.hid (C0.out.keep hb)
          replace R1 := Lib.hid (R1.out.keep hb)
          replace bel := Lib.hid (Bx.then_below bel.out hb)
          clear hb
          go_wp2_with (first | ((with_reducible refine cd_load ?_ ?_ (w.heap.size) ?_ a ?_ ?_); (· rfl); (· rfl); (· rfl); (· exact C0.out.blk)) | ((with_reducible refine cd_load ?_ ?_ (w.heap.size + 1) ?_ Cd.zero ?_ ?_); (· rfl); (· rfl); (· rfl); (· exact R1.out.blk)))
          refine (HG.out _).mono ?_; rintro e w8 ⟨rfl, hb⟩
          replace C0 := Lib.hid (C0.out.keep hb)
          replace R1 := Lib.hid (R1.out.keep hb)
          replace bel := Lib.hid (Bx.then_below bel.out hb)
          clear hb
          go_wp2_with (first | ((with_reducible refine cd_store ?_ ?_ (w.heap.size + 1) e ?_ ?_ (cdl Cd.zero) ?_ ?_ ?_); (· rfl); (· rfl); (· rfl); (· rfl); (· rfl); (· exact R1.out.own)) | ((with_reducible refine cd_load ?_ ?_ (w.heap.size) ?_ a ?_ ?_); (· rfl); (· rfl); (· rfl); (· exact C0.out.blk)) | ((with_reducible refine cd_load ?_ ?_ (w.heap.size + 1) ?_ Cd.zero ?_ ?_); (· rfl); (· rfl); (· rfl); (· exact R1.out.blk)))
          replace C0 := Lib.hid (C0.out.apart_at (k' := w.heap.size + 1) (cdl e) 0 (by omega))
          replace bel := Lib.hid (Bx.bel_put_at (k := w.heap.size + 1) (cdl e) 0 (by omega) bel.out)
          replace R1 := Lib.hid (R1.out.full (m := (cdl e)) (rfl))
          exact bodyPost_ret (v := .tuple #[cdv e, .bool false]) (cd_result2 Try.results7 rfl rfl R1.out.blk) rfl ⟨by rw [HE.out, HB.out], bel.out⟩
      · have g1 : (d.info == 2) = false := by simp [h1]
        rw [decide_eq_false h1, Bool.false_and] at HO
        clear h1
        have C0_4 := C0.out.at 4 rfl
        go_upto_region 10 with fail
        clear C0_4
        replace HB := Lib.hid (HB.out.trans HO.out)
        replace HA := Lib.hid (HA.out.trans (if_neg (by rw [HO.out]; decide)))
        clear HO
        replace C0 := Lib.hid (C0.out.of (m := cdl a) (by rw [HA.out]))
        go_wp2_with (first | ((with_reducible refine cd_load ?_ ?_ (w.heap.size) ?_ a ?_ ?_); (· rfl); (· rfl); (· rfl); (· exact C0.out.blk)))
        refine (HM.out _).mono ?_; rintro e w7 ⟨rfl, hb⟩
        replace C0 := Lib.hid (C0.out.keep hb)
        replace R1 := Lib.hid (R1.out.keep hb)
        replace bel := Lib.hid (Bx.then_below bel.out hb)
        clear hb
        go_wp2_with (first | ((with_reducible refine cd_load ?_ ?_ (w.heap.size) ?_ a ?_ ?_); (· rfl); (· rfl); (· rfl); (· exact C0.out.blk)) | ((with_reducible refine cd_load ?_ ?_ (w.heap.size + 1) ?_ Cd.zero ?_ ?_); (· rfl); (· rfl); (· rfl); (· exact R1.out.blk)))
        refine (HG.out _).mono ?_; rintro e w8 ⟨rfl, hb⟩
        replace C0 := Lib.hid (C0.out.keep hb)
        replace R1 := Lib.hid (R1.out.keep hb)
        replace bel := Lib.hid (Bx.then_below bel.out hb)
        clear hb
        go_wp2_with (first | ((with_reducible refine cd_store ?_ ?_ (w.heap.size + 1) e ?_ ?_ (cdl Cd.zero) ?_ ?_ ?_); (· rfl); (· rfl); (· rfl); (· rfl); (· rfl); (· exact R1.out.own)) | ((with_reducible refine cd_load ?_ ?_ (w.heap.size) ?_ a ?_ ?_); (· rfl); (· rfl); (· rfl); (· exact C0.out.blk)) | ((with_reducible refine cd_load ?_ ?_ (w.heap.size + 1) ?_ Cd.zero ?_ ?_); (· rfl); (· rfl); (· rfl); (· exact R1.out.blk)))
        replace C0 := Lib.hid (C0.out.apart_at (k' := w.heap.size + 1) (cdl e) 0 (by omega))
        replace bel := Lib.hid (Bx.bel_put_at (k := w.heap.size + 1) (cdl e) 0 (by omega) bel.out)
        replace R1 := Lib.hid (R1.out.full (m := (cdl e)) (rfl))
        exact bodyPost_ret (v := .tuple #[cdv e, .bool false]) (cd_result2 Try.results7 rfl rfl R1.out.blk) rfl ⟨by rw [HE.out, HB.out], bel.out⟩
    · have g : (c.role != 2) = true := by simp [h]
      have HD : Hid (tmrC c = { c with wai := dnI c.wai, chg := dnI c.chg, qui := dnI c.qui, sen := dnI c.sen, hel := dnI c.hel, hrd := dnI c.hrd, rcn := dnI c.rcn }) := Lib.hid (by unfold tmrC; rw [if_neg h])
      clear h
      have C0_13 := C0.out.at 13 rfl
      go_upto_region 6 with fail
      clear C0_13
      clear g
      have C0_26 := C0.out.at 26 rfl
      go_wp2_with (first | ((with_reducible refine cd_load ?_ ?_ (w.heap.size) ?_ { c with wai := dnI c.wai, chg := dnI c.chg, qui := dnI c.qui, sen := dnI c.sen, hel := dnI c.hel, hrd := dnI c.hrd } ?_ ?_); (· rfl); (· rfl); (· rfl); (· exact C0.out.blk)) | ((with_reducible refine cd_load ?_ ?_ (w.heap.size + 1) ?_ Cd.zero ?_ ?_); (· rfl); (· rfl); (· rfl); (· exact R1.out.blk)))
      clear C0_26
      refine (H7.out _).mono ?_; rintro e w7 ⟨rfl, hb⟩
      replace C0 := Lib.hid (C0.out.keep hb)
      replace R1 := Lib.hid (R1.out.keep hb)
      replace bel := Lib.hid (Bx.then_below bel.out hb)
      clear hb
      have C0_26 := C0.out.at 26 rfl
      have C0f26 := C0.out.2.2 26
      replace R1 := Lib.hid (R1.out.other (k' := w.heap.size) (o := 26) (x := .int .i64 (dnI c.rcn)) (by omega))
      replace bel := Lib.hid (Bx.bel_set (k := w.heap.size) (o := 26) (x := .int .i64 (dnI c.rcn)) (by omega) bel.out)
      replace C0 := Lib.hid ((C0.out.set (26) (.int .i64 (dnI c.rcn))).of (m := (cdl { c with wai := dnI c.wai, chg := dnI c.chg, qui := dnI c.qui, sen := dnI c.sen, hel := dnI c.hel, hrd := dnI c.hrd, rcn := dnI c.rcn })) (by first | rfl | simp [enc, tenc]))
      go_upto_region 7 with fail
      clear C0_26 C0f26
      generalize (w7.setCell ⟨w.heap.size, 26, none⟩ (.int .i64 (dnI c.rcn))) = W6 at *
      generalize tmrC c = d at *
      replace C0 := Lib.hid (C0.out.of (m := cdl d) (by rw [HD.out]))
      clear HD
      by_cases h1 : d.info = 2
      · have g1 : (d.info == 2) = true := by simp [h1]
        by_cases h2 : d.hrd = 0
        · have g2 : (d.hrd == 0) = true := by simp [h2]
          rw [h1, h2, decide_eq_true rfl, decide_eq_true rfl, Bool.true_and] at HO
          replace HB := Lib.hid (HB.out.trans HO.out)
          replace HA := Lib.hid (HA.out.trans (if_pos HO.out))
          clear HO h1 h2
          have C0_4 := C0.out.at 4 rfl
          have C0_24 := C0.out.at 24 rfl
          go_upto_region 8 with fail
          clear C0_4 C0_24
          have C0_4 := C0.out.at 4 rfl
          have C0f4 := C0.out.2.2 4
          replace R1 := Lib.hid (R1.out.other (k' := w.heap.size) (o := 4) (x := .int .i64 0) (by omega))
          replace bel := Lib.hid (Bx.bel_set (k := w.heap.size) (o := 4) (x := .int .i64 0) (by omega) bel.out)
          replace C0 := Lib.hid ((C0.out.set (4) (.int .i64 0)).of (m := (cdl { d with info := 0 })) (by first | rfl | simp [enc, tenc]))
          go_upto_region 9 with fail
          clear C0_4 C0f4
          generalize (W6.setCell ⟨w.heap.size, 4, none⟩ (.int .i64 0)) = W8 at *
          replace C0 := Lib.hid (C0.out.of (m := cdl a) (by rw [HA.out]))
          go_wp2_with (first | ((with_reducible refine cd_load ?_ ?_ (w.heap.size) ?_ a ?_ ?_); (· rfl); (· rfl); (· rfl); (· exact C0.out.blk)))
          refine (HM.out _).mono ?_; rintro e w8 ⟨rfl, hb⟩
          replace C0 := Lib.hid (C0.out.keep hb)
          replace R1 := Lib.hid (R1.out.keep hb)
          replace bel := Lib.hid (Bx.then_below bel.out hb)
          clear hb
          go_wp2_with (first | ((with_reducible refine cd_load ?_ ?_ (w.heap.size) ?_ a ?_ ?_); (· rfl); (· rfl); (· rfl); (· exact C0.out.blk)) | ((with_reducible refine cd_load ?_ ?_ (w.heap.size + 1) ?_ Cd.zero ?_ ?_); (· rfl); (· rfl); (· rfl); (· exact R1.out.blk)))
          refine (HG.out _).mono ?_; rintro e w9 ⟨rfl, hb⟩
          replace C0 := Lib.hid (C0.out.keep hb)
          replace R1 := Lib.hid (R1.out.keep hb)
          replace bel := Lib.hid (Bx.then_below bel.out hb)
          clear hb
          go_wp2_with (first | ((with_reducible refine cd_store ?_ ?_ (w.heap.size + 1) e ?_ ?_ (cdl Cd.zero) ?_ ?_ ?_); (· rfl); (· rfl); (· rfl); (· rfl); (· rfl); (· exact R1.out.own)) | ((with_reducible refine cd_load ?_ ?_ (w.heap.size) ?_ a ?_ ?_); (· rfl); (· rfl); (· rfl); (· exact C0.out.blk)) | ((with_reducible refine cd_load ?_ ?_ (w.heap.size + 1) ?_ Cd.zero ?_ ?_); (· rfl); (· rfl); (· rfl); (· exact R1.out.blk)))
          replace C0 := Lib.hid (C0.out.apart_at (k' := w.heap.size + 1) (cdl e) 0 (by omega))
          replace bel := Lib.hid (Bx.bel_put_at (k := w.heap.size + 1) (cdl e) 0 (by omega) bel.out)
          replace R1 := Lib.hid (R1.out.full (m := (cdl e)) (rfl))
          exact bodyPost_ret (v := .tuple #[cdv e, .bool true]) (cd_result2 Try.results7 rfl rfl R1.out.blk) rfl ⟨by rw [HE.out, HB.out], bel.out⟩
        · have g2 : (d.hrd == 0) = false := by simp [h2]
          rw [h1, decide_eq_true rfl, decide_eq_false h2, Bool.true_and] at HO
          clear h1 h2
          have C0_4 := C0.out.at 4 rfl
          have C0_24 := C0.out.at 24 rfl
          go_upto_region 10 with fail
          clear C0_4 C0_24
          replace HB := Lib.hid (HB.out.trans HO.out)
          replace HA := Lib.hid (HA.out.trans (if_neg (by rw [HO.out]; decide)))
          clear HO
          replace C0 := Lib.hid (C0.out.of (m := cdl a) (by rw [HA.out]))
          go_wp2_with (first | ((with_reducible refine cd_load ?_ ?_ (w.heap.size) ?_ a ?_ ?_); (· rfl); (· rfl); (· rfl); (· exact C0.out.blk)))
          refine (HM.out _).mono ?_; rintro e w8 ⟨rfl, hb⟩
          replace C0 := Lib.hid (C0.out.keep hb)
          replace R1 := Lib.hid (R1.out.keep hb)
          replace bel := Lib.hid (Bx.then_below bel.out hb)
          clear hb
          go_wp2_with (first | ((with_reducible refine cd_load ?_ ?_ (w.heap.size) ?_ a ?_ ?_); (· rfl); (· rfl); (· rfl); (· exact C0.out.blk)) | ((with_reducible refine cd_load ?_ ?_ (w.heap.size + 1) ?_ Cd.zero ?_ ?_); (· rfl); (· rfl); (· rfl); (· exact R1.out.blk)))
          refine (HG.out _).mono ?_; rintro e w9 ⟨rfl, hb⟩
          replace C0 := Lib.hid (C0.out.keep hb)
          replace R1 := Lib.hid (R1.out.keep hb)
          replace bel := Lib.hid (Bx.then_below bel.out hb)
          clear hb
          go_wp2_with (first | ((with_reducible refine cd_store ?_ ?_ (w.heap.size + 1) e ?_ ?_ (cdl Cd.zero) ?_ ?_ ?_); (· rfl); (· rfl); (· rfl); (· rfl); (· rfl); (· exact R1.out.own)) | ((with_reducible refine cd_load ?_ ?_ (w.heap.size) ?_ a ?_ ?_); (· rfl); (· rfl); (· rfl); (· exact C0.out.blk)) | ((with_reducible refine cd_load ?_ ?_ (w.heap.size + 1) ?_ Cd.zero ?_ ?_); (· rfl); (· rfl); (· rfl); (· exact R1.out.blk)))
          replace C0 := Lib.hid (C0.out.apart_at (k' := w.heap.size + 1) (cdl e) 0 (by omega))
          replace bel := Lib.hid (Bx.bel_put_at (k := w.heap.size + 1) (cdl e) 0 (by omega) bel.out)
          replace R1 := Lib.hid (R1.out.full (m := (cdl e)) (rfl))
          exact bodyPost_ret (v := .tuple #[cdv e, .bool false]) (cd_result2 Try.results7 rfl rfl R1.out.blk) rfl ⟨by rw [HE.out, HB.out], bel.out⟩
      · have g1 : (d.info == 2) = false := by simp [h1]
        rw [decide_eq_false h1, Bool.false_and] at HO
        clear h1
        have C0_4 := C0.out.at 4 rfl
        go_upto_region 10 with fail
        clear C0_4
        replace HB := Lib.hid (HB.out.trans HO.out)
        replace HA := Lib.hid (HA.out.trans (if_neg (by rw [HO.out]; decide)))
        clear HO
        replace C0 := Lib.hid (C0.out.of (m := cdl a) (by rw [HA.out]))
        go_wp2_with (first | ((with_reducible refine cd_load ?_ ?_ (w.heap.size) ?_ a ?_ ?_); (· rfl); (· rfl); (· rfl); (· exact C0.out.blk)))
        refine (HM.out _).mono ?_; rintro e w8 ⟨rfl, hb⟩
        replace C0 := Lib.hid (C0.out.keep hb)
        replace R1 := Lib.hid (R1.out.keep hb)
        replace bel := Lib.hid (Bx.then_below bel.out hb)
        clear hb
        go_wp2_with (first | ((with_reducible refine cd_load ?_ ?_ (w.heap.size) ?_ a ?_ ?_); (· rfl); (· rfl); (· rfl); (· exact C0.out.blk)) | ((with_reducible refine cd_load ?_ ?_ (w.heap.size + 1) ?_ Cd.zero ?_ ?_); (· rfl); (· rfl); (· rfl); (· exact R1.out.blk)))
        refine (HG.out _).mono ?_; rintro e w9 ⟨rfl, hb⟩
        replace C0 := Lib.hid (C0.out.keep hb)
        replace R1 := Lib.hid (R1.out.keep hb)
        replace bel := Lib.hid (Bx.then_below bel.out hb)
        clear hb
        go_wp2_with (first | ((with_reducible refine cd_store ?_ ?_ (w.heap.size + 1) e ?_ ?_ (cdl Cd.zero) ?_ ?_ ?_); (· rfl); (· rfl); (· rfl); (· rfl); (· rfl); (· exact R1.out.own)) | ((with_reducible refine cd_load ?_ ?_ (w.heap.size) ?_ a ?_ ?_); (· rfl); (· rfl); (· rfl); (· exact C0.out.blk)) | ((with_reducible refine cd_load ?_ ?_ (w.heap.size + 1) ?_ Cd.zero ?_ ?_); (· rfl); (· rfl); (· rfl); (· exact R1.out.blk)))
        replace C0 := Lib.hid (C0.out.apart_at (k' := w.heap.size + 1) (cdl e) 0 (by omega))
        replace bel := Lib.hid (Bx.bel_put_at (k := w.heap.size + 1) (cdl e) 0 (by omega) bel.out)
        replace R1 := Lib.hid (R1.out.full (m := (cdl e)) (rfl))
        exact bodyPost_ret (v := .tuple #[cdv e, .bool false]) (cd_result2 Try.results7 rfl rfl R1.out.blk) rfl ⟨by rw [HE.out, HB.out], bel.out⟩
  · clear H1 H2 H3 H4 H5 H6 H7
    rw [h] at HE HB
    rw [if_neg (by decide)] at HE
    rw [Bool.false_and] at HB
    clear HM HG HA HO
    have C0_0 := C0.out.at 0 rfl
    rw [h] at C0_0
    clear h
    go_wp2_with (first | ((with_reducible refine cd_store ?_ ?_ (w.heap.size + 1) c ?_ ?_ (cdl Cd.zero) ?_ ?_ ?_); (· rfl); (· rfl); (· rfl); (· rfl); (· rfl); (· exact R1.out.own)) | ((with_reducible refine cd_load ?_ ?_ (w.heap.size) ?_ c ?_ ?_); (· rfl); (· rfl); (· rfl); (· exact C0.out.blk)))
    replace C0 := Lib.hid (C0.out.apart_at (k' := w.heap.size + 1) (cdl c) 0 (by omega))
    replace bel := Lib.hid (Bx.bel_put_at (k := w.heap.size + 1) (cdl c) 0 (by omega) bel.out)
    replace R1 := Lib.hid (R1.out.full (m := (cdl c)) (rfl))
    exact bodyPost_ret (v := .tuple #[cdv c, .bool false]) (cd_result2 Try.results7 rfl rfl R1.out.blk) rfl ⟨by rw [HE.out, HB.out], bel.out⟩

end Clk
end Go.Proofs.Ytakbmdamegjdeaa
