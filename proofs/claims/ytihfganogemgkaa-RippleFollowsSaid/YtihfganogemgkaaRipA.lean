/-
  What leads, inState, discard, forward, agree, alternateStep and designatedStep answer.
-/
import Derived.Test.YtihfganogemgkaaRipNum
import Derived.Test.YtihfganogemgkaaTre
import Derived.Test.YtihfganogemgkaaCrdEq
import Derived.Test.YtihfganogemgkaaEltB
import Derived.Lib.MinMax
namespace Go.Proofs.Ytihfganogemgkaa
open Go.RowKit
namespace Rip
open Pre Crd Tre Elt

set_option maxRecDepth 40000 in
set_option maxHeartbeats 8000000 in
theorem leads_any (c : Cd) (w : World) : Calls Try.prog 32 #[cdv c] w fun e w' => e = .returned (.bool (ledB c)) ∧ Below w.heap.size w w' := by
  have B0 : Hid (Bx.Fre (w.alloc (cdo c)) w.heap.size (cdl c)) := Lib.hid (Bx.Fre.new w (cdl c) 28)
  have bel := Lib.hid (Bx.box_below w (cdo c))
  go_enter Try.func32, Try.ntmps32
  go_upto_region 1 with fail
  generalize (w.alloc (cdo c)) = W0 at *
  have B0_0 := B0.out.at 0 rfl
  have B0_13 := B0.out.at 13 rfl
  have B0_2 := B0.out.at 2 rfl
  rcases Bool.eq_false_or_eq_true c.up with h | h
  · rw [h] at B0_0
    by_cases h2 : c.role = 3
    · have g2 : (c.role == 3) = true := by simpa using h2
      rcases Bool.eq_false_or_eq_true c.edge with h3 | h3
      · rw [h3] at B0_2
        have HE : Hid (ledB c = false) := Lib.hid (by unfold ledB; simp [h, h2, h3])
        clear h h2 h3
        go_wp2_with (first | ((with_reducible refine cd_load ?_ ?_ (w.heap.size) ?_ c ?_ ?_); (· rfl); (· rfl); (· rfl); (· exact B0.out.blk)))
        go_ret
        exact ⟨by rw [HE.out]; rfl, bel.out⟩
      · rw [h3] at B0_2
        have HE : Hid (ledB c = true) := Lib.hid (by unfold ledB; simp [h, h2, h3])
        clear h h2 h3
        go_wp2_with (first | ((with_reducible refine cd_load ?_ ?_ (w.heap.size) ?_ c ?_ ?_); (· rfl); (· rfl); (· rfl); (· exact B0.out.blk)))
        go_ret
        exact ⟨by rw [HE.out]; rfl, bel.out⟩
    · have g2 : (c.role == 3) = false := by simpa using h2
      have HE : Hid (ledB c = false) := Lib.hid (by unfold ledB; simp [h, h2])
      clear h h2
      go_wp2_with (first | ((with_reducible refine cd_load ?_ ?_ (w.heap.size) ?_ c ?_ ?_); (· rfl); (· rfl); (· rfl); (· exact B0.out.blk)))
      go_ret
      exact ⟨by rw [HE.out]; rfl, bel.out⟩
  · rw [h] at B0_0
    have HE : Hid (ledB c = false) := Lib.hid (by unfold ledB; simp [h])
    clear h
    go_wp2_with (first | ((with_reducible refine cd_load ?_ ?_ (w.heap.size) ?_ c ?_ ?_); (· rfl); (· rfl); (· rfl); (· exact B0.out.blk)))
    go_ret
    exact ⟨by rw [HE.out]; rfl, bel.out⟩

set_option maxRecDepth 40000 in
set_option maxHeartbeats 8000000 in
theorem inst_any (c : Cd) (s : Int) (w : World) : Calls Try.prog 46 #[cdv c, .int .i64 s] w fun e w' => e = .returned (cdv (inS c s)) ∧ Below w.heap.size w w' := by
  have C0 : Hid (Bx.Fre (w.alloc (cdo c)) w.heap.size (cdl c)) := Lib.hid (Bx.Fre.new w (cdl c) 28)
  have bel := Lib.hid (Bx.box_below w (cdo c))
  replace C0 := Lib.hid (C0.out.more (cdo Cd.zero))
  have R1 : Hid (Bx.Fre ((w.alloc (cdo c)).alloc (cdo Cd.zero)) (w.heap.size + 1) (cdl Cd.zero)) := Lib.hid (Bx.Fre.new_at (W := (w.alloc (cdo c))) (k := w.heap.size + 1) (cdl Cd.zero) 28 (by simp))
  replace bel := Lib.hid (Bx.bel_box bel.out (cdo Cd.zero))
  go_enter Try.func46, Try.ntmps46
  go_upto_region 1 with fail
  generalize ((w.alloc (cdo c)).alloc (cdo Cd.zero)) = W0 at *
  by_cases h : c.st = s
  · have HE : Hid (inS c s = c) := Lib.hid (if_pos h)
    have g : (c.st != s) = false := by simp [h]
    clear h
    have C0_14 := C0.out.at 14 rfl
    go_wp2_with (first | ((with_reducible refine cd_store ?_ ?_ (w.heap.size + 1) c ?_ ?_ (cdl Cd.zero) ?_ ?_ ?_); (· rfl); (· rfl); (· rfl); (· rfl); (· rfl); (· exact R1.out.own)) | ((with_reducible refine cd_load ?_ ?_ (w.heap.size) ?_ c ?_ ?_); (· rfl); (· rfl); (· rfl); (· exact C0.out.blk)))
    replace C0 := Lib.hid (C0.out.apart_at (k' := w.heap.size + 1) (cdl c) 0 (by omega))
    replace bel := Lib.hid (Bx.bel_put_at (k := w.heap.size + 1) (cdl c) 0 (by omega) bel.out)
    replace R1 := Lib.hid (R1.out.full (m := (cdl c)) (rfl))
    exact bodyPost_ret (v := cdv c) (cd_result Try.results46 rfl R1.out.blk) rfl ⟨by rw [HE.out], bel.out⟩
  · have HE : Hid (inS c s = { c with st := s, tel := true }) := Lib.hid (if_neg h)
    have g : (c.st != s) = true := by simp [h]
    clear h
    have C0_14 := C0.out.at 14 rfl
    go_upto_region 2 with fail
    clear C0_14
    have C0_14 := C0.out.at 14 rfl
    have C0_22 := C0.out.at 22 rfl
    have C0f14 := C0.out.2.2 14
    have C0f22 := C0.out.2.2 22
    replace R1 := Lib.hid (R1.out.other (k' := w.heap.size) (o := 14) (x := .int .i64 s) (by omega))
    replace bel := Lib.hid (Bx.bel_set (k := w.heap.size) (o := 14) (x := .int .i64 s) (by omega) bel.out)
    replace C0 := Lib.hid ((C0.out.set (14) (.int .i64 s)).of (m := (cdl { c with st := s })) (by first | rfl | simp [enc, tenc]))
    replace R1 := Lib.hid (R1.out.other (k' := w.heap.size) (o := 22) (x := .bool true) (by omega))
    replace bel := Lib.hid (Bx.bel_set (k := w.heap.size) (o := 22) (x := .bool true) (by omega) bel.out)
    replace C0 := Lib.hid ((C0.out.set (22) (.bool true)).of (m := (cdl { c with st := s, tel := true })) (by first | rfl | simp [enc, tenc]))
    go_upto_region 3 with fail
    clear C0_14 C0_22 C0f14 C0f22
    generalize ((W0.setCell ⟨w.heap.size, 14, none⟩ (.int .i64 s)).setCell ⟨w.heap.size, 22, none⟩ (.bool true)) = W2 at *
    go_wp2_with (first | ((with_reducible refine cd_store ?_ ?_ (w.heap.size + 1) { c with st := s, tel := true } ?_ ?_ (cdl Cd.zero) ?_ ?_ ?_); (· rfl); (· rfl); (· rfl); (· rfl); (· rfl); (· exact R1.out.own)) | ((with_reducible refine cd_load ?_ ?_ (w.heap.size) ?_ { c with st := s, tel := true } ?_ ?_); (· rfl); (· rfl); (· rfl); (· exact C0.out.blk)))
    replace C0 := Lib.hid (C0.out.apart_at (k' := w.heap.size + 1) (cdl { c with st := s, tel := true }) 0 (by omega))
    replace bel := Lib.hid (Bx.bel_put_at (k := w.heap.size + 1) (cdl { c with st := s, tel := true }) 0 (by omega) bel.out)
    replace R1 := Lib.hid (R1.out.full (m := (cdl { c with st := s, tel := true })) (rfl))
    exact bodyPost_ret (v := cdv { c with st := s, tel := true }) (cd_result Try.results46 rfl R1.out.blk) rfl ⟨by rw [HE.out], bel.out⟩

set_option maxRecDepth 40000 in
set_option maxHeartbeats 8000000 in
theorem discard_any (c : Cd) (w : World) : Calls Try.prog 39 #[cdv c] w fun e w' => e = .returned (cdv (disC c)) ∧ Below w.heap.size w w' := by
  have HI := Lib.hid (fun w => inst_any c 0 w)
  have HE : Hid (disC c = { inS c 0 with wai := (inS c 0).t.d }) := Lib.hid rfl
  generalize inS c 0 = d at *
  have C0 : Hid (Bx.Fre (w.alloc (cdo c)) w.heap.size (cdl c)) := Lib.hid (Bx.Fre.new w (cdl c) 28)
  have bel := Lib.hid (Bx.box_below w (cdo c))
  replace C0 := Lib.hid (C0.out.more (cdo Cd.zero))
  have R1 : Hid (Bx.Fre ((w.alloc (cdo c)).alloc (cdo Cd.zero)) (w.heap.size + 1) (cdl Cd.zero)) := Lib.hid (Bx.Fre.new_at (W := (w.alloc (cdo c))) (k := w.heap.size + 1) (cdl Cd.zero) 28 (by simp))
  replace bel := Lib.hid (Bx.bel_box bel.out (cdo Cd.zero))
  go_enter Try.func39, Try.ntmps39
  go_upto_region 1 with fail
  generalize ((w.alloc (cdo c)).alloc (cdo Cd.zero)) = W0 at *
  go_wp2_with (first | ((with_reducible refine cd_load ?_ ?_ (w.heap.size) ?_ c ?_ ?_); (· rfl); (· rfl); (· rfl); (· exact C0.out.blk)))
  refine (HI.out _).mono ?_; rintro e w1 ⟨rfl, hb⟩
  replace C0 := Lib.hid (C0.out.keep hb)
  replace R1 := Lib.hid (R1.out.keep hb)
  replace bel := Lib.hid (Bx.then_below bel.out hb)
  clear hb
  go_upto_region 2 with (first | ((with_reducible refine cd_store ?_ ?_ (w.heap.size) d ?_ ?_ (cdl c) ?_ ?_ ?_); (· rfl); (· rfl); (· rfl); (· rfl); (· rfl); (· exact C0.out.own)))
  replace R1 := Lib.hid (R1.out.apart_at (k' := w.heap.size) (cdl d) 0 (by omega))
  replace bel := Lib.hid (Bx.bel_put_at (k := w.heap.size) (cdl d) 0 (by omega) bel.out)
  replace C0 := Lib.hid (C0.out.full (m := (cdl d)) (rfl))
  generalize (w1.setCells (w.heap.size) 0 (cdl d)) = W2 at *
  have C0_12 := C0.out.at 12 rfl
  have C0_25 := C0.out.at 25 rfl
  have C0f25 := C0.out.2.2 25
  replace R1 := Lib.hid (R1.out.other (k' := w.heap.size) (o := 25) (x := .int .i64 d.t.d) (by omega))
  replace bel := Lib.hid (Bx.bel_set (k := w.heap.size) (o := 25) (x := .int .i64 d.t.d) (by omega) bel.out)
  replace C0 := Lib.hid ((C0.out.set (25) (.int .i64 d.t.d)).of (m := (cdl { d with wai := d.t.d })) (by first | rfl | simp [enc, tenc]))
  go_upto_region 3 with fail
  clear C0_12 C0_25 C0f25
  generalize (W2.setCell ⟨w.heap.size, 25, none⟩ (.int .i64 d.t.d)) = W3 at *
  go_wp2_with (first | ((with_reducible refine cd_store ?_ ?_ (w.heap.size + 1) { d with wai := d.t.d } ?_ ?_ (cdl Cd.zero) ?_ ?_ ?_); (· rfl); (· rfl); (· rfl); (· rfl); (· rfl); (· exact R1.out.own)) | ((with_reducible refine cd_load ?_ ?_ (w.heap.size) ?_ { d with wai := d.t.d } ?_ ?_); (· rfl); (· rfl); (· rfl); (· exact C0.out.blk)))
  replace C0 := Lib.hid (C0.out.apart_at (k' := w.heap.size + 1) (cdl { d with wai := d.t.d }) 0 (by omega))
  replace bel := Lib.hid (Bx.bel_put_at (k := w.heap.size + 1) (cdl { d with wai := d.t.d }) 0 (by omega) bel.out)
  replace R1 := Lib.hid (R1.out.full (m := (cdl { d with wai := d.t.d })) (rfl))
  exact bodyPost_ret (v := cdv { d with wai := d.t.d }) (cd_result Try.results39 rfl R1.out.blk) rfl ⟨by rw [HE.out], bel.out⟩

set_option maxRecDepth 40000 in
set_option maxHeartbeats 8000000 in
theorem forward_any (c : Cd) (w : World) : Calls Try.prog 38 #[cdv c] w fun e w' => e = .returned (cdv (forC c)) ∧ Below w.heap.size w w' := by
  have HI := Lib.hid (fun w => inst_any c 2 w)
  have HE : Hid (forC c = { inS c 2 with wai := 0 }) := Lib.hid rfl
  generalize inS c 2 = d at *
  have C0 : Hid (Bx.Fre (w.alloc (cdo c)) w.heap.size (cdl c)) := Lib.hid (Bx.Fre.new w (cdl c) 28)
  have bel := Lib.hid (Bx.box_below w (cdo c))
  replace C0 := Lib.hid (C0.out.more (cdo Cd.zero))
  have R1 : Hid (Bx.Fre ((w.alloc (cdo c)).alloc (cdo Cd.zero)) (w.heap.size + 1) (cdl Cd.zero)) := Lib.hid (Bx.Fre.new_at (W := (w.alloc (cdo c))) (k := w.heap.size + 1) (cdl Cd.zero) 28 (by simp))
  replace bel := Lib.hid (Bx.bel_box bel.out (cdo Cd.zero))
  go_enter Try.func38, Try.ntmps38
  go_upto_region 1 with fail
  generalize ((w.alloc (cdo c)).alloc (cdo Cd.zero)) = W0 at *
  go_wp2_with (first | ((with_reducible refine cd_load ?_ ?_ (w.heap.size) ?_ c ?_ ?_); (· rfl); (· rfl); (· rfl); (· exact C0.out.blk)))
  refine (HI.out _).mono ?_; rintro e w1 ⟨rfl, hb⟩
  replace C0 := Lib.hid (C0.out.keep hb)
  replace R1 := Lib.hid (R1.out.keep hb)
  replace bel := Lib.hid (Bx.then_below bel.out hb)
  clear hb
  go_upto_region 2 with (first | ((with_reducible refine cd_store ?_ ?_ (w.heap.size) d ?_ ?_ (cdl c) ?_ ?_ ?_); (· rfl); (· rfl); (· rfl); (· rfl); (· rfl); (· exact C0.out.own)))
  replace R1 := Lib.hid (R1.out.apart_at (k' := w.heap.size) (cdl d) 0 (by omega))
  replace bel := Lib.hid (Bx.bel_put_at (k := w.heap.size) (cdl d) 0 (by omega) bel.out)
  replace C0 := Lib.hid (C0.out.full (m := (cdl d)) (rfl))
  generalize (w1.setCells (w.heap.size) 0 (cdl d)) = W2 at *
  have C0_25 := C0.out.at 25 rfl
  have C0f25 := C0.out.2.2 25
  replace R1 := Lib.hid (R1.out.other (k' := w.heap.size) (o := 25) (x := .int .i64 0) (by omega))
  replace bel := Lib.hid (Bx.bel_set (k := w.heap.size) (o := 25) (x := .int .i64 0) (by omega) bel.out)
  replace C0 := Lib.hid ((C0.out.set (25) (.int .i64 0)).of (m := (cdl { d with wai := 0 })) (by first | rfl | simp [enc, tenc]))
  go_upto_region 3 with fail
  clear C0_25 C0f25
  generalize (W2.setCell ⟨w.heap.size, 25, none⟩ (.int .i64 0)) = W3 at *
  go_wp2_with (first | ((with_reducible refine cd_store ?_ ?_ (w.heap.size + 1) { d with wai := 0 } ?_ ?_ (cdl Cd.zero) ?_ ?_ ?_); (· rfl); (· rfl); (· rfl); (· rfl); (· rfl); (· exact R1.out.own)) | ((with_reducible refine cd_load ?_ ?_ (w.heap.size) ?_ { d with wai := 0 } ?_ ?_); (· rfl); (· rfl); (· rfl); (· exact C0.out.blk)))
  replace C0 := Lib.hid (C0.out.apart_at (k' := w.heap.size + 1) (cdl { d with wai := 0 }) 0 (by omega))
  replace bel := Lib.hid (Bx.bel_put_at (k := w.heap.size + 1) (cdl { d with wai := 0 }) 0 (by omega) bel.out)
  replace R1 := Lib.hid (R1.out.full (m := (cdl { d with wai := 0 })) (rfl))
  exact bodyPost_ret (v := cdv { d with wai := 0 }) (cd_result Try.results38 rfl R1.out.blk) rfl ⟨by rw [HE.out], bel.out⟩

set_option maxRecDepth 40000 in
set_option maxHeartbeats 8000000 in
theorem agree_any (c : Cd) (w : World) : Calls Try.prog 36 #[cdv c] w fun e w' => e = .returned (cdv (agrC c)) ∧ Below w.heap.size w w' := by
  have HE : Hid (agrC c = { c with prd := false, agr := true, tel := true }) := Lib.hid rfl
  have C0 : Hid (Bx.Fre (w.alloc (cdo c)) w.heap.size (cdl c)) := Lib.hid (Bx.Fre.new w (cdl c) 28)
  have bel := Lib.hid (Bx.box_below w (cdo c))
  replace C0 := Lib.hid (C0.out.more (cdo Cd.zero))
  have R1 : Hid (Bx.Fre ((w.alloc (cdo c)).alloc (cdo Cd.zero)) (w.heap.size + 1) (cdl Cd.zero)) := Lib.hid (Bx.Fre.new_at (W := (w.alloc (cdo c))) (k := w.heap.size + 1) (cdl Cd.zero) 28 (by simp))
  replace bel := Lib.hid (Bx.bel_box bel.out (cdo Cd.zero))
  go_enter Try.func36, Try.ntmps36
  go_upto_region 1 with fail
  generalize ((w.alloc (cdo c)).alloc (cdo Cd.zero)) = W0 at *
  have C0_18 := C0.out.at 18 rfl
  have C0_16 := C0.out.at 16 rfl
  have C0_22 := C0.out.at 22 rfl
  have C0f18 := C0.out.2.2 18
  have C0f16 := C0.out.2.2 16
  have C0f22 := C0.out.2.2 22
  replace R1 := Lib.hid (R1.out.other (k' := w.heap.size) (o := 18) (x := .bool false) (by omega))
  replace bel := Lib.hid (Bx.bel_set (k := w.heap.size) (o := 18) (x := .bool false) (by omega) bel.out)
  replace C0 := Lib.hid ((C0.out.set (18) (.bool false)).of (m := (cdl { c with prd := false })) (by first | rfl | simp [enc, tenc]))
  replace R1 := Lib.hid (R1.out.other (k' := w.heap.size) (o := 16) (x := .bool true) (by omega))
  replace bel := Lib.hid (Bx.bel_set (k := w.heap.size) (o := 16) (x := .bool true) (by omega) bel.out)
  replace C0 := Lib.hid ((C0.out.set (16) (.bool true)).of (m := (cdl { c with prd := false, agr := true })) (by first | rfl | simp [enc, tenc]))
  replace R1 := Lib.hid (R1.out.other (k' := w.heap.size) (o := 22) (x := .bool true) (by omega))
  replace bel := Lib.hid (Bx.bel_set (k := w.heap.size) (o := 22) (x := .bool true) (by omega) bel.out)
  replace C0 := Lib.hid ((C0.out.set (22) (.bool true)).of (m := (cdl { c with prd := false, agr := true, tel := true })) (by first | rfl | simp [enc, tenc]))
  go_upto_region 2 with fail
  clear C0_18 C0_16 C0_22 C0f18 C0f16 C0f22
  generalize (((W0.setCell ⟨w.heap.size, 18, none⟩ (.bool false)).setCell ⟨w.heap.size, 16, none⟩ (.bool true)).setCell ⟨w.heap.size, 22, none⟩ (.bool true)) = W2 at *
  go_wp2_with (first | ((with_reducible refine cd_store ?_ ?_ (w.heap.size + 1) { c with prd := false, agr := true, tel := true } ?_ ?_ (cdl Cd.zero) ?_ ?_ ?_); (· rfl); (· rfl); (· rfl); (· rfl); (· rfl); (· exact R1.out.own)) | ((with_reducible refine cd_load ?_ ?_ (w.heap.size) ?_ { c with prd := false, agr := true, tel := true } ?_ ?_); (· rfl); (· rfl); (· rfl); (· exact C0.out.blk)))
  replace C0 := Lib.hid (C0.out.apart_at (k' := w.heap.size + 1) (cdl { c with prd := false, agr := true, tel := true }) 0 (by omega))
  replace bel := Lib.hid (Bx.bel_put_at (k := w.heap.size + 1) (cdl { c with prd := false, agr := true, tel := true }) 0 (by omega) bel.out)
  replace R1 := Lib.hid (R1.out.full (m := (cdl { c with prd := false, agr := true, tel := true })) (rfl))
  exact bodyPost_ret (v := cdv { c with prd := false, agr := true, tel := true }) (cd_result Try.results36 rfl R1.out.blk) rfl ⟨by rw [HE.out], bel.out⟩

set_option maxRecDepth 40000 in
set_option maxHeartbeats 8000000 in
theorem alt_any (c : Cd) (w : World) : Calls Try.prog 25 #[cdv c] w fun e w' => e = .returned (cdv (altC c)) ∧ Below w.heap.size w w' := by
  have HD := Lib.hid (fun w => discard_any c w)
  have HA := Lib.hid agree_any
  have HE : Hid (altC c = if (altD c).prd = true then agrC (altD c) else altD c) := Lib.hid rfl
  have C0 : Hid (Bx.Fre (w.alloc (cdo c)) w.heap.size (cdl c)) := Lib.hid (Bx.Fre.new w (cdl c) 28)
  have bel := Lib.hid (Bx.box_below w (cdo c))
  replace C0 := Lib.hid (C0.out.more (cdo Cd.zero))
  have R1 : Hid (Bx.Fre ((w.alloc (cdo c)).alloc (cdo Cd.zero)) (w.heap.size + 1) (cdl Cd.zero)) := Lib.hid (Bx.Fre.new_at (W := (w.alloc (cdo c))) (k := w.heap.size + 1) (cdl Cd.zero) 28 (by simp))
  replace bel := Lib.hid (Bx.bel_box bel.out (cdo Cd.zero))
  go_enter Try.func25, Try.ntmps25
  go_upto_region 1 with fail
  generalize ((w.alloc (cdo c)).alloc (cdo Cd.zero)) = W0 at *
  by_cases h : c.st = 0
  · rw [show altD c = c by unfold altD; rw [if_pos h]] at HE
    have g : (c.st != 0) = false := by simp [h]
    clear h
    have C0_14 := C0.out.at 14 rfl
    go_upto_region 3 with fail
    clear C0_14
    have C0_18 := C0.out.at 18 rfl
    rcases Bool.eq_false_or_eq_true (c.prd) with h2 | h2
    · replace HE := Lib.hid (HE.out.trans (if_pos h2))
      rw [h2] at C0_18
      clear h2
      have HA2 := Lib.hid (HA.out c)
      generalize agrC c = a at *
      go_upto_region 4 with fail
      clear C0_18
      go_wp2_with (first | ((with_reducible refine cd_load ?_ ?_ (w.heap.size) ?_ c ?_ ?_); (· rfl); (· rfl); (· rfl); (· exact C0.out.blk)))
      refine (HA2.out _).mono ?_; rintro e w1 ⟨rfl, hb⟩
      replace C0 := Lib.hid (C0.out.keep hb)
      replace R1 := Lib.hid (R1.out.keep hb)
      replace bel := Lib.hid (Bx.then_below bel.out hb)
      clear hb
      go_upto_region 5 with (first | ((with_reducible refine cd_store ?_ ?_ (w.heap.size) a ?_ ?_ (cdl c) ?_ ?_ ?_); (· rfl); (· rfl); (· rfl); (· rfl); (· rfl); (· exact C0.out.own)))
      replace R1 := Lib.hid (R1.out.apart_at (k' := w.heap.size) (cdl a) 0 (by omega))
      replace bel := Lib.hid (Bx.bel_put_at (k := w.heap.size) (cdl a) 0 (by omega) bel.out)
      replace C0 := Lib.hid (C0.out.full (m := (cdl a)) (rfl))
      generalize (w1.setCells (w.heap.size) 0 (cdl a)) = W5 at *
      go_wp2_with (first | ((with_reducible refine cd_store ?_ ?_ (w.heap.size + 1) a ?_ ?_ (cdl Cd.zero) ?_ ?_ ?_); (· rfl); (· rfl); (· rfl); (· rfl); (· rfl); (· exact R1.out.own)) | ((with_reducible refine cd_load ?_ ?_ (w.heap.size) ?_ a ?_ ?_); (· rfl); (· rfl); (· rfl); (· exact C0.out.blk)))
      replace C0 := Lib.hid (C0.out.apart_at (k' := w.heap.size + 1) (cdl a) 0 (by omega))
      replace bel := Lib.hid (Bx.bel_put_at (k := w.heap.size + 1) (cdl a) 0 (by omega) bel.out)
      replace R1 := Lib.hid (R1.out.full (m := (cdl a)) (rfl))
      exact bodyPost_ret (v := cdv a) (cd_result Try.results25 rfl R1.out.blk) rfl ⟨by rw [HE.out], bel.out⟩
    · replace HE := Lib.hid (HE.out.trans (if_neg (by rw [h2]; decide)))
      rw [h2] at C0_18
      clear h2
      go_wp2_with (first | ((with_reducible refine cd_store ?_ ?_ (w.heap.size + 1) c ?_ ?_ (cdl Cd.zero) ?_ ?_ ?_); (· rfl); (· rfl); (· rfl); (· rfl); (· rfl); (· exact R1.out.own)) | ((with_reducible refine cd_load ?_ ?_ (w.heap.size) ?_ c ?_ ?_); (· rfl); (· rfl); (· rfl); (· exact C0.out.blk)))
      replace C0 := Lib.hid (C0.out.apart_at (k' := w.heap.size + 1) (cdl c) 0 (by omega))
      replace bel := Lib.hid (Bx.bel_put_at (k := w.heap.size + 1) (cdl c) 0 (by omega) bel.out)
      replace R1 := Lib.hid (R1.out.full (m := (cdl c)) (rfl))
      exact bodyPost_ret (v := cdv c) (cd_result Try.results25 rfl R1.out.blk) rfl ⟨by rw [HE.out], bel.out⟩
  · rw [show altD c = disC c by unfold altD; rw [if_neg h]] at HE
    have g : (c.st != 0) = true := by simp [h]
    clear h
    generalize disC c = d at *
    have C0_14 := C0.out.at 14 rfl
    go_upto_region 2 with fail
    clear C0_14
    go_wp2_with (first | ((with_reducible refine cd_load ?_ ?_ (w.heap.size) ?_ c ?_ ?_); (· rfl); (· rfl); (· rfl); (· exact C0.out.blk)))
    refine (HD.out _).mono ?_; rintro e w1 ⟨rfl, hb⟩
    replace C0 := Lib.hid (C0.out.keep hb)
    replace R1 := Lib.hid (R1.out.keep hb)
    replace bel := Lib.hid (Bx.then_below bel.out hb)
    clear hb
    go_upto_region 3 with (first | ((with_reducible refine cd_store ?_ ?_ (w.heap.size) d ?_ ?_ (cdl c) ?_ ?_ ?_); (· rfl); (· rfl); (· rfl); (· rfl); (· rfl); (· exact C0.out.own)))
    replace R1 := Lib.hid (R1.out.apart_at (k' := w.heap.size) (cdl d) 0 (by omega))
    replace bel := Lib.hid (Bx.bel_put_at (k := w.heap.size) (cdl d) 0 (by omega) bel.out)
    replace C0 := Lib.hid (C0.out.full (m := (cdl d)) (rfl))
    generalize (w1.setCells (w.heap.size) 0 (cdl d)) = W3 at *
    have C0_18 := C0.out.at 18 rfl
    rcases Bool.eq_false_or_eq_true (d.prd) with h2 | h2
    · replace HE := Lib.hid (HE.out.trans (if_pos h2))
      rw [h2] at C0_18
      clear h2
      have HA2 := Lib.hid (HA.out d)
      generalize agrC d = a at *
      go_upto_region 4 with fail
      clear C0_18
      go_wp2_with (first | ((with_reducible refine cd_load ?_ ?_ (w.heap.size) ?_ d ?_ ?_); (· rfl); (· rfl); (· rfl); (· exact C0.out.blk)))
      refine (HA2.out _).mono ?_; rintro e w2 ⟨rfl, hb⟩
      replace C0 := Lib.hid (C0.out.keep hb)
      replace R1 := Lib.hid (R1.out.keep hb)
      replace bel := Lib.hid (Bx.then_below bel.out hb)
      clear hb
      go_upto_region 5 with (first | ((with_reducible refine cd_store ?_ ?_ (w.heap.size) a ?_ ?_ (cdl d) ?_ ?_ ?_); (· rfl); (· rfl); (· rfl); (· rfl); (· rfl); (· exact C0.out.own)))
      replace R1 := Lib.hid (R1.out.apart_at (k' := w.heap.size) (cdl a) 0 (by omega))
      replace bel := Lib.hid (Bx.bel_put_at (k := w.heap.size) (cdl a) 0 (by omega) bel.out)
      replace C0 := Lib.hid (C0.out.full (m := (cdl a)) (rfl))
      generalize (w2.setCells (w.heap.size) 0 (cdl a)) = W5 at *
      go_wp2_with (first | ((with_reducible refine cd_store ?_ ?_ (w.heap.size + 1) a ?_ ?_ (cdl Cd.zero) ?_ ?_ ?_); (· rfl); (· rfl); (· rfl); (· rfl); (· rfl); (· exact R1.out.own)) | ((with_reducible refine cd_load ?_ ?_ (w.heap.size) ?_ a ?_ ?_); (· rfl); (· rfl); (· rfl); (· exact C0.out.blk)))
      replace C0 := Lib.hid (C0.out.apart_at (k' := w.heap.size + 1) (cdl a) 0 (by omega))
      replace bel := Lib.hid (Bx.bel_put_at (k := w.heap.size + 1) (cdl a) 0 (by omega) bel.out)
      replace R1 := Lib.hid (R1.out.full (m := (cdl a)) (rfl))
      exact bodyPost_ret (v := cdv a) (cd_result Try.results25 rfl R1.out.blk) rfl ⟨by rw [HE.out], bel.out⟩
    · replace HE := Lib.hid (HE.out.trans (if_neg (by rw [h2]; decide)))
      rw [h2] at C0_18
      clear h2
      go_wp2_with (first | ((with_reducible refine cd_store ?_ ?_ (w.heap.size + 1) d ?_ ?_ (cdl Cd.zero) ?_ ?_ ?_); (· rfl); (· rfl); (· rfl); (· rfl); (· rfl); (· exact R1.out.own)) | ((with_reducible refine cd_load ?_ ?_ (w.heap.size) ?_ d ?_ ?_); (· rfl); (· rfl); (· rfl); (· exact C0.out.blk)))
      replace C0 := Lib.hid (C0.out.apart_at (k' := w.heap.size + 1) (cdl d) 0 (by omega))
      replace bel := Lib.hid (Bx.bel_put_at (k := w.heap.size + 1) (cdl d) 0 (by omega) bel.out)
      replace R1 := Lib.hid (R1.out.full (m := (cdl d)) (rfl))
      exact bodyPost_ret (v := cdv d) (cd_result Try.results25 rfl R1.out.blk) rfl ⟨by rw [HE.out], bel.out⟩

set_option maxRecDepth 40000 in
set_option maxHeartbeats 8000000 in
theorem des_step (c : Cd) (w : World) : Calls Try.prog 24 #[cdv c] w fun e w' => e = .returned (cdv (desS c)) ∧ Below w.heap.size w w' := by
  have HF := Lib.hid forward_any
  have C0 : Hid (Bx.Fre (w.alloc (cdo c)) w.heap.size (cdl c)) := Lib.hid (Bx.Fre.new w (cdl c) 28)
  have bel := Lib.hid (Bx.box_below w (cdo c))
  replace C0 := Lib.hid (C0.out.more (cdo Cd.zero))
  have R1 : Hid (Bx.Fre ((w.alloc (cdo c)).alloc (cdo Cd.zero)) (w.heap.size + 1) (cdl Cd.zero)) := Lib.hid (Bx.Fre.new_at (W := (w.alloc (cdo c))) (k := w.heap.size + 1) (cdl Cd.zero) 28 (by simp))
  replace bel := Lib.hid (Bx.bel_box bel.out (cdo Cd.zero))
  go_enter Try.func24, Try.ntmps24
  go_upto_region 1 with fail
  generalize ((w.alloc (cdo c)).alloc (cdo Cd.zero)) = W0 at *
  have HE : Hid (desS c = if c.st = 2 then { c with png := false } else if (c.edge || c.agd) = true then forC { c with png := false } else if c.png = true then c else { c with png := true, tel := true }) := Lib.hid rfl
  by_cases h : c.st = 2
  · replace HE := Lib.hid (HE.out.trans (if_pos h))
    have g : (c.st == 2) = true := by simp [h]
    clear h
    have C0_14 := C0.out.at 14 rfl
    go_upto_region 2 with fail
    clear C0_14
    have C0_17 := C0.out.at 17 rfl
    have C0f17 := C0.out.2.2 17
    replace R1 := Lib.hid (R1.out.other (k' := w.heap.size) (o := 17) (x := .bool false) (by omega))
    replace bel := Lib.hid (Bx.bel_set (k := w.heap.size) (o := 17) (x := .bool false) (by omega) bel.out)
    replace C0 := Lib.hid ((C0.out.set (17) (.bool false)).of (m := (cdl { c with png := false })) (by first | rfl | simp [enc, tenc]))
    go_upto_region 8 with fail
    clear C0_17 C0f17
    generalize (W0.setCell ⟨w.heap.size, 17, none⟩ (.bool false)) = W2 at *
    go_wp2_with (first | ((with_reducible refine cd_store ?_ ?_ (w.heap.size + 1) { c with png := false } ?_ ?_ (cdl Cd.zero) ?_ ?_ ?_); (· rfl); (· rfl); (· rfl); (· rfl); (· rfl); (· exact R1.out.own)) | ((with_reducible refine cd_load ?_ ?_ (w.heap.size) ?_ { c with png := false } ?_ ?_); (· rfl); (· rfl); (· rfl); (· exact C0.out.blk)))
    replace C0 := Lib.hid (C0.out.apart_at (k' := w.heap.size + 1) (cdl { c with png := false }) 0 (by omega))
    replace bel := Lib.hid (Bx.bel_put_at (k := w.heap.size + 1) (cdl { c with png := false }) 0 (by omega) bel.out)
    replace R1 := Lib.hid (R1.out.full (m := (cdl { c with png := false })) (rfl))
    exact bodyPost_ret (v := cdv { c with png := false }) (cd_result Try.results24 rfl R1.out.blk) rfl ⟨by rw [HE.out], bel.out⟩
  · replace HE := Lib.hid (HE.out.trans (if_neg h))
    have g : (c.st == 2) = false := by simp [h]
    clear h
    have C0_14 := C0.out.at 14 rfl
    go_upto_region 3 with fail
    clear C0_14
    rcases Bool.eq_false_or_eq_true c.edge with h2 | h2
    · replace HE := Lib.hid (HE.out.trans (if_pos (by simp [h2])))
      have C0_2 := C0.out.at 2 rfl
      have C0_15 := C0.out.at 15 rfl
      rw [h2] at C0_2
      clear h2
      go_upto_region 4 with fail
      clear C0_2 C0_15
      have HF2 := Lib.hid (HF.out { c with png := false })
      generalize forC { c with png := false } = d at *
      have C0_17 := C0.out.at 17 rfl
      have C0f17 := C0.out.2.2 17
      replace R1 := Lib.hid (R1.out.other (k' := w.heap.size) (o := 17) (x := .bool false) (by omega))
      replace bel := Lib.hid (Bx.bel_set (k := w.heap.size) (o := 17) (x := .bool false) (by omega) bel.out)
      replace C0 := Lib.hid ((C0.out.set (17) (.bool false)).of (m := (cdl { c with png := false })) (by first | rfl | simp [enc, tenc]))
      go_upto_region 5 with fail
      clear C0_17 C0f17
      generalize (W0.setCell ⟨w.heap.size, 17, none⟩ (.bool false)) = W4 at *
      go_wp2_with (first | ((with_reducible refine cd_load ?_ ?_ (w.heap.size) ?_ { c with png := false } ?_ ?_); (· rfl); (· rfl); (· rfl); (· exact C0.out.blk)))
      refine (HF2.out _).mono ?_; rintro e w1 ⟨rfl, hb⟩
      replace C0 := Lib.hid (C0.out.keep hb)
      replace R1 := Lib.hid (R1.out.keep hb)
      replace bel := Lib.hid (Bx.then_below bel.out hb)
      clear hb
      go_upto_region 8 with (first | ((with_reducible refine cd_store ?_ ?_ (w.heap.size) d ?_ ?_ (cdl { c with png := false }) ?_ ?_ ?_); (· rfl); (· rfl); (· rfl); (· rfl); (· rfl); (· exact C0.out.own)))
      replace R1 := Lib.hid (R1.out.apart_at (k' := w.heap.size) (cdl d) 0 (by omega))
      replace bel := Lib.hid (Bx.bel_put_at (k := w.heap.size) (cdl d) 0 (by omega) bel.out)
      replace C0 := Lib.hid (C0.out.full (m := (cdl d)) (rfl))
      generalize (w1.setCells (w.heap.size) 0 (cdl d)) = W5 at *
      go_wp2_with (first | ((with_reducible refine cd_store ?_ ?_ (w.heap.size + 1) d ?_ ?_ (cdl Cd.zero) ?_ ?_ ?_); (· rfl); (· rfl); (· rfl); (· rfl); (· rfl); (· exact R1.out.own)) | ((with_reducible refine cd_load ?_ ?_ (w.heap.size) ?_ d ?_ ?_); (· rfl); (· rfl); (· rfl); (· exact C0.out.blk)))
      replace C0 := Lib.hid (C0.out.apart_at (k' := w.heap.size + 1) (cdl d) 0 (by omega))
      replace bel := Lib.hid (Bx.bel_put_at (k := w.heap.size + 1) (cdl d) 0 (by omega) bel.out)
      replace R1 := Lib.hid (R1.out.full (m := (cdl d)) (rfl))
      exact bodyPost_ret (v := cdv d) (cd_result Try.results24 rfl R1.out.blk) rfl ⟨by rw [HE.out], bel.out⟩
    · rcases Bool.eq_false_or_eq_true c.agd with h3 | h3
      · replace HE := Lib.hid (HE.out.trans (if_pos (by simp [h2, h3])))
        have C0_2 := C0.out.at 2 rfl
        have C0_15 := C0.out.at 15 rfl
        rw [h2] at C0_2
        rw [h3] at C0_15
        clear h2 h3
        go_upto_region 4 with fail
        clear C0_2 C0_15
        have HF2 := Lib.hid (HF.out { c with png := false })
        generalize forC { c with png := false } = d at *
        have C0_17 := C0.out.at 17 rfl
        have C0f17 := C0.out.2.2 17
        replace R1 := Lib.hid (R1.out.other (k' := w.heap.size) (o := 17) (x := .bool false) (by omega))
        replace bel := Lib.hid (Bx.bel_set (k := w.heap.size) (o := 17) (x := .bool false) (by omega) bel.out)
        replace C0 := Lib.hid ((C0.out.set (17) (.bool false)).of (m := (cdl { c with png := false })) (by first | rfl | simp [enc, tenc]))
        go_upto_region 5 with fail
        clear C0_17 C0f17
        generalize (W0.setCell ⟨w.heap.size, 17, none⟩ (.bool false)) = W4 at *
        go_wp2_with (first | ((with_reducible refine cd_load ?_ ?_ (w.heap.size) ?_ { c with png := false } ?_ ?_); (· rfl); (· rfl); (· rfl); (· exact C0.out.blk)))
        refine (HF2.out _).mono ?_; rintro e w1 ⟨rfl, hb⟩
        replace C0 := Lib.hid (C0.out.keep hb)
        replace R1 := Lib.hid (R1.out.keep hb)
        replace bel := Lib.hid (Bx.then_below bel.out hb)
        clear hb
        go_upto_region 8 with (first | ((with_reducible refine cd_store ?_ ?_ (w.heap.size) d ?_ ?_ (cdl { c with png := false }) ?_ ?_ ?_); (· rfl); (· rfl); (· rfl); (· rfl); (· rfl); (· exact C0.out.own)))
        replace R1 := Lib.hid (R1.out.apart_at (k' := w.heap.size) (cdl d) 0 (by omega))
        replace bel := Lib.hid (Bx.bel_put_at (k := w.heap.size) (cdl d) 0 (by omega) bel.out)
        replace C0 := Lib.hid (C0.out.full (m := (cdl d)) (rfl))
        generalize (w1.setCells (w.heap.size) 0 (cdl d)) = W5 at *
        go_wp2_with (first | ((with_reducible refine cd_store ?_ ?_ (w.heap.size + 1) d ?_ ?_ (cdl Cd.zero) ?_ ?_ ?_); (· rfl); (· rfl); (· rfl); (· rfl); (· rfl); (· exact R1.out.own)) | ((with_reducible refine cd_load ?_ ?_ (w.heap.size) ?_ d ?_ ?_); (· rfl); (· rfl); (· rfl); (· exact C0.out.blk)))
        replace C0 := Lib.hid (C0.out.apart_at (k' := w.heap.size + 1) (cdl d) 0 (by omega))
        replace bel := Lib.hid (Bx.bel_put_at (k := w.heap.size + 1) (cdl d) 0 (by omega) bel.out)
        replace R1 := Lib.hid (R1.out.full (m := (cdl d)) (rfl))
        exact bodyPost_ret (v := cdv d) (cd_result Try.results24 rfl R1.out.blk) rfl ⟨by rw [HE.out], bel.out⟩
      · replace HE := Lib.hid (HE.out.trans (if_neg (by simp [h2, h3])))
        have C0_2 := C0.out.at 2 rfl
        have C0_15 := C0.out.at 15 rfl
        rw [h2] at C0_2
        rw [h3] at C0_15
        clear h2 h3
        go_upto_region 6 with fail
        clear C0_2 C0_15
        rcases Bool.eq_false_or_eq_true c.png with h4 | h4
        · replace HE := Lib.hid (HE.out.trans (if_pos h4))
          have C0_17 := C0.out.at 17 rfl
          rw [h4] at C0_17
          clear h4
          go_wp2_with (first | ((with_reducible refine cd_store ?_ ?_ (w.heap.size + 1) c ?_ ?_ (cdl Cd.zero) ?_ ?_ ?_); (· rfl); (· rfl); (· rfl); (· rfl); (· rfl); (· exact R1.out.own)) | ((with_reducible refine cd_load ?_ ?_ (w.heap.size) ?_ c ?_ ?_); (· rfl); (· rfl); (· rfl); (· exact C0.out.blk)))
          replace C0 := Lib.hid (C0.out.apart_at (k' := w.heap.size + 1) (cdl c) 0 (by omega))
          replace bel := Lib.hid (Bx.bel_put_at (k := w.heap.size + 1) (cdl c) 0 (by omega) bel.out)
          replace R1 := Lib.hid (R1.out.full (m := (cdl c)) (rfl))
          exact bodyPost_ret (v := cdv c) (cd_result Try.results24 rfl R1.out.blk) rfl ⟨by rw [HE.out], bel.out⟩
        · replace HE := Lib.hid (HE.out.trans (if_neg (by simp [h4])))
          have C0_17 := C0.out.at 17 rfl
          rw [h4] at C0_17
          clear h4
          go_upto_region 7 with fail
          clear C0_17
          have C0_17 := C0.out.at 17 rfl
          have C0_22 := C0.out.at 22 rfl
          have C0f17 := C0.out.2.2 17
          have C0f22 := C0.out.2.2 22
          replace R1 := Lib.hid (R1.out.other (k' := w.heap.size) (o := 17) (x := .bool true) (by omega))
          replace bel := Lib.hid (Bx.bel_set (k := w.heap.size) (o := 17) (x := .bool true) (by omega) bel.out)
          replace C0 := Lib.hid ((C0.out.set (17) (.bool true)).of (m := (cdl { c with png := true })) (by first | rfl | simp [enc, tenc]))
          replace R1 := Lib.hid (R1.out.other (k' := w.heap.size) (o := 22) (x := .bool true) (by omega))
          replace bel := Lib.hid (Bx.bel_set (k := w.heap.size) (o := 22) (x := .bool true) (by omega) bel.out)
          replace C0 := Lib.hid ((C0.out.set (22) (.bool true)).of (m := (cdl { c with png := true, tel := true })) (by first | rfl | simp [enc, tenc]))
          go_upto_region 8 with fail
          clear C0_17 C0_22 C0f17 C0f22
          generalize ((W0.setCell ⟨w.heap.size, 17, none⟩ (.bool true)).setCell ⟨w.heap.size, 22, none⟩ (.bool true)) = W7 at *
          go_wp2_with (first | ((with_reducible refine cd_store ?_ ?_ (w.heap.size + 1) { c with png := true, tel := true } ?_ ?_ (cdl Cd.zero) ?_ ?_ ?_); (· rfl); (· rfl); (· rfl); (· rfl); (· rfl); (· exact R1.out.own)) | ((with_reducible refine cd_load ?_ ?_ (w.heap.size) ?_ { c with png := true, tel := true } ?_ ?_); (· rfl); (· rfl); (· rfl); (· exact C0.out.blk)))
          replace C0 := Lib.hid (C0.out.apart_at (k' := w.heap.size + 1) (cdl { c with png := true, tel := true }) 0 (by omega))
          replace bel := Lib.hid (Bx.bel_put_at (k := w.heap.size + 1) (cdl { c with png := true, tel := true }) 0 (by omega) bel.out)
          replace R1 := Lib.hid (R1.out.full (m := (cdl { c with png := true, tel := true })) (rfl))
          exact bodyPost_ret (v := cdv { c with png := true, tel := true }) (cd_result Try.results24 rfl R1.out.blk) rfl ⟨by rw [HE.out], bel.out⟩

end Rip
end Go.Proofs.Ytihfganogemgkaa
