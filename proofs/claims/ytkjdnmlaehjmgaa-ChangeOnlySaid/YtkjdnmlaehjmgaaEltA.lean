/-
  What offers, way, ownVector, designated, and the role of the document, answer.
-/
import Derived.Test.YtkjdnmlaehjmgaaTre
import Derived.Test.YtkjdnmlaehjmgaaEltNum
import Derived.Test.YtkjdnmlaehjmgaaCrdEq
import Derived.Test.YtkjdnmlaehjmgaaPreD
import Derived.Deep.RegionHeld3
import Derived.Deep.DeepCutAuto
namespace Go.Proofs.Ytkjdnmlaehjmgaa
open Go.RowKit
namespace Elt
open Pre Crd Tre

set_option maxRecDepth 40000 in
set_option maxHeartbeats 8000000 in
theorem offers_any (c : Cd) (id : Nat) (w : World) : Calls Try.prog 35 #[cdv c, .int .u64 id] w fun e w' => e = .returned (.bool (offB c id)) ∧ Below w.heap.size w w' := by
  have B0 := Lib.hid (Bx.Fre.new w (cdl c) 28)
  have bel := Lib.hid (Bx.box_below w (cdo c))
  have a0 := B0.out.at 0 rfl
  have a4 := B0.out.at 4 rfl
  have a7 := B0.out.at 7 rfl
  clear B0
  rcases Bool.eq_false_or_eq_true c.up with h | h
  · by_cases h2 : c.info = 2
    · by_cases h3 : c.v.b = id
      · rw [show offB c id = false by unfold offB; simp [h3]]
        have g2 : (c.info == 2) = true := by simpa using h2
        have g3 : ((c.v.b : Int) != (id : Int)) = false := by simp; omega
        rw [h] at a0
        clear h2 h3 h
        go_enter Try.func35, Try.ntmps35
        go_wp2
        go_ret
        exact ⟨rfl, bel.out⟩
      · rw [show offB c id = true by unfold offB; simp [h, h2, h3]]
        have g2 : (c.info == 2) = true := by simpa using h2
        have g3 : ((c.v.b : Int) != (id : Int)) = true := by simp; omega
        rw [h] at a0
        clear h2 h3 h
        go_enter Try.func35, Try.ntmps35
        go_wp2
        go_ret
        exact ⟨rfl, bel.out⟩
    · rw [show offB c id = false by unfold offB; simp [h2]]
      have g2 : (c.info == 2) = false := by simpa using h2
      rw [h] at a0
      clear h2 h
      go_enter Try.func35, Try.ntmps35
      go_wp2
      go_ret
      exact ⟨rfl, bel.out⟩
  · rw [show offB c id = false by unfold offB; simp [h]]
    rw [h] at a0
    clear h
    go_enter Try.func35, Try.ntmps35
    go_wp2
    go_ret
    exact ⟨rfl, bel.out⟩

set_option maxRecDepth 40000 in
set_option maxHeartbeats 8000000 in
theorem way_any (c : Cd) (w : World) : Calls Try.prog 36 #[cdv c] w fun e w' => e = .returned (vv (wayV c)) ∧ Below w.heap.size w w' := by
  have HV := Lib.hid (fun w => via_any c.v c.cost w)
  have B0 : Hid (Bx.Fre (w.alloc (cdo c)) w.heap.size (cdl c)) := Lib.hid (Bx.Fre.new w (cdl c) 28)
  have bel := Lib.hid (Bx.box_below w (cdo c))
  replace B0 := Lib.hid (B0.out.more (vo ⟨0, 0, 0, 0⟩))
  have R0 : Hid (Bx.Fre ((w.alloc (cdo c)).alloc (vo ⟨0, 0, 0, 0⟩)) (w.heap.size + 1) (enc ⟨0, 0, 0, 0⟩)) := Lib.hid (Bx.Fre.new_at (W := (w.alloc (cdo c))) (k := w.heap.size + 1) (enc ⟨0, 0, 0, 0⟩) 26 (by simp))
  replace bel := Lib.hid (Bx.bel_box bel.out (vo ⟨0, 0, 0, 0⟩))
  have B0_3 := B0.out.at 3 rfl
  have B0_5 := B0.out.at 5 rfl
  have B0_6 := B0.out.at 6 rfl
  have B0_7 := B0.out.at 7 rfl
  have B0_8 := B0.out.at 8 rfl
  go_enter Try.func36, Try.ntmps36
  go_wp2_with (first | ((with_reducible refine cd_load ?_ ?_ (w.heap.size) ?_ c ?_ ?_); (· rfl); (· rfl); (· rfl); (· exact B0.out.blk)))
  clear B0_3 B0_5 B0_6 B0_7 B0_8
  refine (HV.out _).mono ?_; rintro e w1 ⟨rfl, hb⟩
  replace B0 := Lib.hid (B0.out.keep hb)
  replace R0 := Lib.hid (R0.out.keep hb)
  replace bel := Lib.hid (Bx.then_below bel.out hb)
  clear hb
  go_wp2_with (first | ((with_reducible refine vec_put ?_ ?_ (w.heap.size + 1) 0 ?_ ⟨c.v.r, viaN c.v.c c.cost, c.v.b, c.v.p⟩ ?_ (enc ⟨0, 0, 0, 0⟩) ?_ ?_ ?_); (· rfl); (· rfl); (· rfl); (· rfl); (· simp [enc]); (· exact R0.out)) | ((with_reducible refine cd_load ?_ ?_ (w.heap.size) ?_ c ?_ ?_); (· rfl); (· rfl); (· rfl); (· exact B0.out.blk)))
  replace B0 := Lib.hid (B0.out.apart_at (k' := w.heap.size + 1) (enc (wayV c)) 0 (by omega))
  replace bel := Lib.hid (Bx.bel_put_at (k := w.heap.size + 1) (enc (wayV c)) 0 (by omega) bel.out)
  replace R0 := Lib.hid ((Bx.Fre.put_at (enc (wayV c)) 0 R0.out).of (m := (enc (wayV c))) (rfl))
  exact bodyPost_ret (v := vv (wayV c)) (row_result Try.results36 rfl (vec_var R0.out.blk)) rfl ⟨rfl, bel.out⟩

set_option maxRecDepth 40000 in
set_option maxHeartbeats 8000000 in
theorem ownv_any (x : Vc) (id i : Nat) (hi : i < 8) (w : World) : Calls Try.prog 32 #[vv x, .int .u64 id, .int .i64 (i : Int)] w fun e w' => e = .returned (vv (desV x id i)) ∧ Below w.heap.size w w' := by
  have HV := Lib.hid (fun w => des_any x id ((i : Int) + 1) w)
  have B0 : Hid (Bx.Fre (w.alloc (vo x)) w.heap.size (enc x)) := Lib.hid (Bx.Fre.new w (enc x) 26)
  have bel := Lib.hid (Bx.box_below w (vo x))
  replace B0 := Lib.hid (B0.out.more (vo ⟨0, 0, 0, 0⟩))
  have R0 : Hid (Bx.Fre ((w.alloc (vo x)).alloc (vo ⟨0, 0, 0, 0⟩)) (w.heap.size + 1) (enc ⟨0, 0, 0, 0⟩)) := Lib.hid (Bx.Fre.new_at (W := (w.alloc (vo x))) (k := w.heap.size + 1) (enc ⟨0, 0, 0, 0⟩) 26 (by simp))
  replace bel := Lib.hid (Bx.bel_box bel.out (vo ⟨0, 0, 0, 0⟩))
  have B0_0 := B0.out.at 0 rfl
  have B0_1 := B0.out.at 1 rfl
  have B0_2 := B0.out.at 2 rfl
  have B0_3 := B0.out.at 3 rfl
  have hw : IntKind.i64.wrap ((i : Int) + 1) = (i : Int) + 1 := by rw [IntKind.wrap_i64]; omega
  go_enter Try.func32, Try.ntmps32
  go_wp2_with fail
  clear B0_0 B0_1 B0_2 B0_3
  refine (HV.out _).mono ?_; rintro e w1 ⟨rfl, hb⟩
  replace B0 := Lib.hid (B0.out.keep hb)
  replace R0 := Lib.hid (R0.out.keep hb)
  replace bel := Lib.hid (Bx.then_below bel.out hb)
  clear hb
  go_wp2_with (first | ((with_reducible refine vec_put ?_ ?_ (w.heap.size + 1) 0 ?_ (desV x id i) ?_ (enc ⟨0, 0, 0, 0⟩) ?_ ?_ ?_); (· rfl); (· rfl); (· rfl); (· rfl); (· simp [enc]); (· exact R0.out)))
  replace B0 := Lib.hid (B0.out.apart_at (k' := w.heap.size + 1) (enc (desV x id i)) 0 (by omega))
  replace bel := Lib.hid (Bx.bel_put_at (k := w.heap.size + 1) (enc (desV x id i)) 0 (by omega) bel.out)
  replace R0 := Lib.hid ((Bx.Fre.put_at (enc (desV x id i)) 0 R0.out).of (m := (enc (desV x id i))) (rfl))
  exact bodyPost_ret (v := vv (desV x id i)) (row_result Try.results32 rfl (vec_var R0.out.blk)) rfl ⟨rfl, bel.out⟩

set_option maxRecDepth 40000 in
set_option maxHeartbeats 8000000 in
theorem dsg_same (c : Cd) (v : Vc) (t : Tm) (w : World) (h1 : c.info = 1) (h2 : c.v = v) (h3 : c.t = t) : Calls Try.prog 31 #[cdv c, vv v, tmv t] w fun e w' => e = .returned (cdv c) ∧ Below w.heap.size w w' := by
  have B0 : Hid (Bx.Fre (w.alloc (cdo c)) w.heap.size (cdl c)) := Lib.hid (Bx.Fre.new w (cdl c) 28)
  have bel := Lib.hid (Bx.box_below w (cdo c))
  replace B0 := Lib.hid (B0.out.more (vo v))
  have B1 : Hid (Bx.Fre ((w.alloc (cdo c)).alloc (vo v)) (w.heap.size + 1) (enc v)) := Lib.hid (Bx.Fre.new_at (W := (w.alloc (cdo c))) (k := w.heap.size + 1) (enc v) 26 (by simp))
  replace bel := Lib.hid (Bx.bel_box bel.out (vo v))
  replace B0 := Lib.hid (B0.out.more (tmo t))
  replace B1 := Lib.hid (B1.out.more (tmo t))
  have B2 : Hid (Bx.Fre (((w.alloc (cdo c)).alloc (vo v)).alloc (tmo t)) (w.heap.size + 1 + 1) (tenc t)) := Lib.hid (Bx.Fre.new_at (W := ((w.alloc (cdo c)).alloc (vo v))) (k := w.heap.size + 1 + 1) (tenc t) 24 (by simp))
  replace bel := Lib.hid (Bx.bel_box bel.out (tmo t))
  replace B0 := Lib.hid (B0.out.more (cdo Cd.zero))
  replace B1 := Lib.hid (B1.out.more (cdo Cd.zero))
  replace B2 := Lib.hid (B2.out.more (cdo Cd.zero))
  have R0 : Hid (Bx.Fre ((((w.alloc (cdo c)).alloc (vo v)).alloc (tmo t)).alloc (cdo Cd.zero)) (w.heap.size + 1 + 1 + 1) (cdl Cd.zero)) := Lib.hid (Bx.Fre.new_at (W := (((w.alloc (cdo c)).alloc (vo v)).alloc (tmo t))) (k := w.heap.size + 1 + 1 + 1) (cdl Cd.zero) 28 (by simp))
  replace bel := Lib.hid (Bx.bel_box bel.out (cdo Cd.zero))
  have B0_4 := B0.out.at 4 rfl
  have B0_5 := B0.out.at 5 rfl
  have B0_6 := B0.out.at 6 rfl
  have B0_7 := B0.out.at 7 rfl
  have B0_8 := B0.out.at 8 rfl
  have B0_9 := B0.out.at 9 rfl
  have B0_10 := B0.out.at 10 rfl
  have B0_11 := B0.out.at 11 rfl
  have B0_12 := B0.out.at 12 rfl
  have B1_0 := B1.out.at 0 rfl
  have B1_1 := B1.out.at 1 rfl
  have B1_2 := B1.out.at 2 rfl
  have B1_3 := B1.out.at 3 rfl
  have B2_0 := B2.out.at 0 rfl
  have B2_1 := B2.out.at 1 rfl
  have B2_2 := B2.out.at 2 rfl
  have B2_3 := B2.out.at 3 rfl
  have g1 : (c.info == 1) = true := by simpa using h1
  have hv : ∀ w, (binOp .eql 26 (vv c.v) (vv v)).run Try.prog w = .ok (.bool true) w := fun w => by rw [veql_at, decide_eq_true h2]
  have ht : ∀ w, (binOp .eql 24 (tmv c.t) (tmv t)).run Try.prog w = .ok (.bool true) w := fun w => by rw [teql_at, decide_eq_true h3]
  have hvg := fun op a y w => vguard_at op a y c.v v w
  have htg := fun op a y w => Crd.tguard_at op a y c.t t w
  clear h1 h2 h3
  go_enter Try.func31, Try.ntmps31
  go_wp2_with (first | ((with_reducible refine cd_store ?_ ?_ (w.heap.size + 1 + 1 + 1) c ?_ ?_ (cdl Cd.zero) ?_ ?_ ?_); (· rfl); (· rfl); (· rfl); (· rfl); (· rfl); (· exact R0.out.own)) | ((with_reducible refine cd_load ?_ ?_ (w.heap.size) ?_ c ?_ ?_); (· rfl); (· rfl); (· rfl); (· exact B0.out.blk)) | ((with_reducible refine cd_load ?_ ?_ (w.heap.size + 1 + 1 + 1) ?_ Cd.zero ?_ ?_); (· rfl); (· rfl); (· rfl); (· exact R0.out.blk)))
  replace B0 := Lib.hid (B0.out.apart_at (k' := w.heap.size + 1 + 1 + 1) (cdl c) 0 (by omega))
  replace B1 := Lib.hid (B1.out.apart_at (k' := w.heap.size + 1 + 1 + 1) (cdl c) 0 (by omega))
  replace B2 := Lib.hid (B2.out.apart_at (k' := w.heap.size + 1 + 1 + 1) (cdl c) 0 (by omega))
  replace bel := Lib.hid (Bx.bel_put_at (k := w.heap.size + 1 + 1 + 1) (cdl c) 0 (by omega) bel.out)
  replace R0 := Lib.hid (R0.out.full (m := (cdl c)) (rfl))
  exact bodyPost_ret (v := cdv c) (cd_result Try.results31 rfl R0.out.blk) rfl ⟨rfl, bel.out⟩

set_option maxRecDepth 40000 in
set_option maxHeartbeats 8000000 in
theorem dsg_info (c : Cd) (v : Vc) (t : Tm) (w : World) (h1 : ¬ c.info = 1) : Calls Try.prog 31 #[cdv c, vv v, tmv t] w fun e w' => e = .returned (cdv { c with info := 1, v := v, t := t, agd := false, syd := false, agr := false, prd := false, tel := true }) ∧ Below w.heap.size w w' := by
  have B0 : Hid (Bx.Fre (w.alloc (cdo c)) w.heap.size (cdl c)) := Lib.hid (Bx.Fre.new w (cdl c) 28)
  have bel := Lib.hid (Bx.box_below w (cdo c))
  replace B0 := Lib.hid (B0.out.more (vo v))
  have B1 : Hid (Bx.Fre ((w.alloc (cdo c)).alloc (vo v)) (w.heap.size + 1) (enc v)) := Lib.hid (Bx.Fre.new_at (W := (w.alloc (cdo c))) (k := w.heap.size + 1) (enc v) 26 (by simp))
  replace bel := Lib.hid (Bx.bel_box bel.out (vo v))
  replace B0 := Lib.hid (B0.out.more (tmo t))
  replace B1 := Lib.hid (B1.out.more (tmo t))
  have B2 : Hid (Bx.Fre (((w.alloc (cdo c)).alloc (vo v)).alloc (tmo t)) (w.heap.size + 1 + 1) (tenc t)) := Lib.hid (Bx.Fre.new_at (W := ((w.alloc (cdo c)).alloc (vo v))) (k := w.heap.size + 1 + 1) (tenc t) 24 (by simp))
  replace bel := Lib.hid (Bx.bel_box bel.out (tmo t))
  replace B0 := Lib.hid (B0.out.more (cdo Cd.zero))
  replace B1 := Lib.hid (B1.out.more (cdo Cd.zero))
  replace B2 := Lib.hid (B2.out.more (cdo Cd.zero))
  have R0 : Hid (Bx.Fre ((((w.alloc (cdo c)).alloc (vo v)).alloc (tmo t)).alloc (cdo Cd.zero)) (w.heap.size + 1 + 1 + 1) (cdl Cd.zero)) := Lib.hid (Bx.Fre.new_at (W := (((w.alloc (cdo c)).alloc (vo v)).alloc (tmo t))) (k := w.heap.size + 1 + 1 + 1) (cdl Cd.zero) 28 (by simp))
  replace bel := Lib.hid (Bx.bel_box bel.out (cdo Cd.zero))
  have B0_4 := B0.out.at 4 rfl
  have B0_5 := B0.out.at 5 rfl
  have B0_6 := B0.out.at 6 rfl
  have B0_7 := B0.out.at 7 rfl
  have B0_8 := B0.out.at 8 rfl
  have B0_9 := B0.out.at 9 rfl
  have B0_10 := B0.out.at 10 rfl
  have B0_11 := B0.out.at 11 rfl
  have B0_12 := B0.out.at 12 rfl
  have B1_0 := B1.out.at 0 rfl
  have B1_1 := B1.out.at 1 rfl
  have B1_2 := B1.out.at 2 rfl
  have B1_3 := B1.out.at 3 rfl
  have B2_0 := B2.out.at 0 rfl
  have B2_1 := B2.out.at 1 rfl
  have B2_2 := B2.out.at 2 rfl
  have B2_3 := B2.out.at 3 rfl
  have g1 : (c.info == 1) = false := by simpa using h1
  clear h1
  go_enter Try.func31, Try.ntmps31
  go_wp2_with (first | ((with_reducible refine cd_load ?_ ?_ (w.heap.size) ?_ c ?_ ?_); (· rfl); (· rfl); (· rfl); (· exact B0.out.blk)) | ((with_reducible refine cd_load ?_ ?_ (w.heap.size + 1 + 1 + 1) ?_ Cd.zero ?_ ?_); (· rfl); (· rfl); (· rfl); (· exact R0.out.blk)))
  clear B0_4 B0_5 B0_6 B0_7 B0_8 B0_9 B0_10 B0_11 B0_12 B1_0 B1_1 B1_2 B1_3 B2_0 B2_1 B2_2 B2_3
  generalize ((((w.alloc (cdo c)).alloc (vo v)).alloc (tmo t)).alloc (cdo Cd.zero)) = w0 at *
  refine wp_region_noPanic ?_
  refine wp_region_held_drew (S := fun w' => w'.cell? ⟨w.heap.size + 1, 0, none⟩ = some (.int .u64 v.r) ∧ w'.cell? ⟨w.heap.size + 1, 1, none⟩ = some (.int .u64 v.c) ∧ w'.cell? ⟨w.heap.size + 1, 2, none⟩ = some (.int .u64 v.b) ∧ w'.cell? ⟨w.heap.size + 1, 3, none⟩ = some (.int .i64 v.p) ∧ w'.cell? ⟨w.heap.size + 1 + 1, 0, none⟩ = some (.int .i64 t.a) ∧ w'.cell? ⟨w.heap.size + 1 + 1, 1, none⟩ = some (.int .i64 t.m) ∧ w'.cell? ⟨w.heap.size + 1 + 1, 2, none⟩ = some (.int .i64 t.h) ∧ w'.cell? ⟨w.heap.size + 1 + 1, 3, none⟩ = some (.int .i64 t.d)) (by kernel_rfl) (by exact ⟨B1.out.at 0 rfl, B1.out.at 1 rfl, B1.out.at 2 rfl, B1.out.at 3 rfl, B2.out.at 0 rfl, B2.out.at 1 rfl, B2.out.at 2 rfl, B2.out.at 3 rfl⟩) (fun hHeld => ?_)
  refine wpAnyH_take (i := 0) (oi := ?o0) (v := ?v0) ?hi0 (by kernel_rfl) (by kernel_rfl) (by kernel_rfl) (fun _ _ _ h => h) ?y0 (by assumption) ?r0
  case hi0 => (simp only [List.getElem?_toArray, List.getElem?_cons_zero]; rfl)
  case y0 => (refine Or.inl ⟨by rfl, ?_⟩; intro w' hSw; (try dsimp only at hSw); go_simp; (try with_reducible rfl))
  try simp only [Act.put, List.setIfInBounds_toArray, List.set_cons_zero, List.set_cons_succ]
  refine wpAnyH_take (i := 1) (oi := ?o1) (v := ?v1) ?hi1 (by kernel_rfl) (by kernel_rfl) (by kernel_rfl) (fun _ _ _ h => h) ?y1 (by assumption) ?r1
  case hi1 => (simp only [List.getElem?_toArray, List.getElem?_cons_succ, List.getElem?_cons_zero]; rfl)
  case y1 => (refine Or.inl ⟨by rfl, ?_⟩; intro w' hSw; (try dsimp only at hSw); go_simp; (try with_reducible rfl))
  try simp only [Act.put, List.setIfInBounds_toArray, List.set_cons_zero, List.set_cons_succ]
  refine wpAnyH_take (i := 2) (oi := ?o2) (v := ?v2) ?hi2 (by kernel_rfl) (by kernel_rfl) (by kernel_rfl) (fun _ _ _ h => h) ?y2 (by assumption) ?r2
  case hi2 => (simp only [List.getElem?_toArray, List.getElem?_cons_succ, List.getElem?_cons_zero]; rfl)
  case y2 => (refine Or.inl ⟨by rfl, ?_⟩; intro w' hSw; (try dsimp only at hSw); go_simp; (try with_reducible rfl))
  try simp only [Act.put, List.setIfInBounds_toArray, List.set_cons_zero, List.set_cons_succ]
  refine wpAnyH_ready (rs := [3]) (by kernel_rfl) (by simp) ?_
  refine AllReadyH.cons (o := ?o3) ?hi3 ?hst3 AllReadyH.nil
  case hi3 => (simp only [List.getElem?_toArray, List.getElem?_cons_succ, List.getElem?_cons_zero]; rfl)
  intro K hK
  have z4 := B0.out.at 4 rfl; have f4 := B0.out.2.2 4; go_simp
  refine hK.out _ _ ⟨(by first | exact Bx.cell_other (by omega) hHeld.1 | exact Bx.cell_other_drew (by omega) hHeld.1), (by first | exact Bx.cell_other (by omega) hHeld.2.1 | exact Bx.cell_other_drew (by omega) hHeld.2.1), (by first | exact Bx.cell_other (by omega) hHeld.2.2.1 | exact Bx.cell_other_drew (by omega) hHeld.2.2.1), (by first | exact Bx.cell_other (by omega) hHeld.2.2.2.1 | exact Bx.cell_other_drew (by omega) hHeld.2.2.2.1), (by first | exact Bx.cell_other (by omega) hHeld.2.2.2.2.1 | exact Bx.cell_other_drew (by omega) hHeld.2.2.2.2.1), (by first | exact Bx.cell_other (by omega) hHeld.2.2.2.2.2.1 | exact Bx.cell_other_drew (by omega) hHeld.2.2.2.2.2.1), (by first | exact Bx.cell_other (by omega) hHeld.2.2.2.2.2.2.1 | exact Bx.cell_other_drew (by omega) hHeld.2.2.2.2.2.2.1), (by first | exact Bx.cell_other (by omega) hHeld.2.2.2.2.2.2.2 | exact Bx.cell_other_drew (by omega) hHeld.2.2.2.2.2.2.2)⟩ (fun hNew => ?_)
  clear hHeld
  have hHeld := hNew
  clear hNew hK K
  replace bel := Lib.hid (Bx.bel_set (k := w.heap.size) (o := 4) (x := .int .i64 1) (by omega) bel.out)
  replace B0 := Lib.hid (B0.out.set 4 (.int .i64 1))
  replace B1 := Lib.hid (B1.out.other (k' := w.heap.size) (o := 4) (x := .int .i64 1) (by omega))
  replace B2 := Lib.hid (B2.out.other (k' := w.heap.size) (o := 4) (x := .int .i64 1) (by omega))
  replace R0 := Lib.hid (R0.out.other (k' := w.heap.size) (o := 4) (x := .int .i64 1) (by omega))
  replace bel := Lib.hid (Bx.bel_drewn bel.out)
  replace B0 := Lib.hid (B0.out.drew)
  replace B1 := Lib.hid (B1.out.drew)
  replace B2 := Lib.hid (B2.out.drew)
  replace R0 := Lib.hid (R0.out.drew)
  refine wpAnyH_take (i := 4) (oi := ?o4) (v := ?v4) ?hi4 (by kernel_rfl) (by kernel_rfl) (by kernel_rfl) (fun _ _ _ h => h) ?y4 (by assumption) ?r4
  case hi4 => (simp only [List.getElem?_toArray, List.getElem?_cons_succ, List.getElem?_cons_zero]; rfl)
  case y4 => (refine Or.inl ⟨by rfl, ?_⟩; intro w' hSw; (try dsimp only at hSw); go_simp; (try with_reducible rfl))
  try simp only [Act.put, List.setIfInBounds_toArray, List.set_cons_zero, List.set_cons_succ]
  refine wpAnyH_ready (rs := [5]) (by kernel_rfl) (by simp) ?_
  refine AllReadyH.cons (o := ?o5) ?hi5 ?hst5 AllReadyH.nil
  case hi5 => (simp only [List.getElem?_toArray, List.getElem?_cons_succ, List.getElem?_cons_zero]; rfl)
  intro K hK
  rw [if_pos (by rfl)]
  refine vec_wp rfl (w.heap.size) 5 rfl v rfl ((cdl c).set 4 (.int .i64 1)) (by simp) B0.out ?_
  refine hK.out _ _ ⟨Bx.cell_apart_at _ _ (by omega) hHeld.1, Bx.cell_apart_at _ _ (by omega) hHeld.2.1, Bx.cell_apart_at _ _ (by omega) hHeld.2.2.1, Bx.cell_apart_at _ _ (by omega) hHeld.2.2.2.1, Bx.cell_apart_at _ _ (by omega) hHeld.2.2.2.2.1, Bx.cell_apart_at _ _ (by omega) hHeld.2.2.2.2.2.1, Bx.cell_apart_at _ _ (by omega) hHeld.2.2.2.2.2.2.1, Bx.cell_apart_at _ _ (by omega) hHeld.2.2.2.2.2.2.2⟩ (fun hNew => ?_)
  clear hHeld
  have hHeld := hNew
  clear hNew hK K
  try simp only [Act.put]
  replace bel := Lib.hid (Bx.bel_put_at (k := w.heap.size) (enc v) 5 (by omega) bel.out)
  replace B0 := Lib.hid (Bx.Fre.put_at (enc v) 5 B0.out)
  replace B1 := Lib.hid (Bx.Fre.apart_at (k' := w.heap.size) (enc v) 5 (by omega) B1.out)
  replace B2 := Lib.hid (Bx.Fre.apart_at (k' := w.heap.size) (enc v) 5 (by omega) B2.out)
  replace R0 := Lib.hid (Bx.Fre.apart_at (k' := w.heap.size) (enc v) 5 (by omega) R0.out)
  refine wpAnyH_take (i := 6) (oi := ?o6) (v := ?v6) ?hi6 (by kernel_rfl) (by kernel_rfl) (by kernel_rfl) (fun _ _ _ h => h) ?y6 (by assumption) ?r6
  case hi6 => (simp only [List.getElem?_toArray, List.getElem?_cons_succ, List.getElem?_cons_zero]; rfl)
  case y6 => (refine Or.inl ⟨by rfl, ?_⟩; intro w' hSw; (try dsimp only at hSw); go_simp; (try with_reducible rfl))
  try simp only [Act.put, List.setIfInBounds_toArray, List.set_cons_zero, List.set_cons_succ]
  refine wpAnyH_ready (rs := [7]) (by kernel_rfl) (by simp) ?_
  refine AllReadyH.cons (o := ?o7) ?hi7 ?hst7 AllReadyH.nil
  case hi7 => (simp only [List.getElem?_toArray, List.getElem?_cons_succ, List.getElem?_cons_zero]; rfl)
  intro K hK
  rw [if_pos (by rfl)]
  refine tm_wp rfl (w.heap.size) 9 rfl t rfl (Bx.setL ((cdl c).set 4 (.int .i64 1)) 5 (enc v)) (by simp [Bx.setL, enc]) B0.out ?_
  refine hK.out _ _ ⟨Bx.cell_apart_at _ _ (by omega) hHeld.1, Bx.cell_apart_at _ _ (by omega) hHeld.2.1, Bx.cell_apart_at _ _ (by omega) hHeld.2.2.1, Bx.cell_apart_at _ _ (by omega) hHeld.2.2.2.1, Bx.cell_apart_at _ _ (by omega) hHeld.2.2.2.2.1, Bx.cell_apart_at _ _ (by omega) hHeld.2.2.2.2.2.1, Bx.cell_apart_at _ _ (by omega) hHeld.2.2.2.2.2.2.1, Bx.cell_apart_at _ _ (by omega) hHeld.2.2.2.2.2.2.2⟩ (fun hNew => ?_)
  clear hHeld
  have hHeld := hNew
  clear hNew hK K
  try simp only [Act.put]
  replace bel := Lib.hid (Bx.bel_put_at (k := w.heap.size) (tenc t) 9 (by omega) bel.out)
  replace B0 := Lib.hid (Bx.Fre.put_at (tenc t) 9 B0.out)
  replace B1 := Lib.hid (Bx.Fre.apart_at (k' := w.heap.size) (tenc t) 9 (by omega) B1.out)
  replace B2 := Lib.hid (Bx.Fre.apart_at (k' := w.heap.size) (tenc t) 9 (by omega) B2.out)
  replace R0 := Lib.hid (Bx.Fre.apart_at (k' := w.heap.size) (tenc t) 9 (by omega) R0.out)
  refine wpAnyH_done (by kernel_rfl) ?_ _
  refine NoPanic.normal ?_
  generalize (((w0.setCell ⟨w.heap.size, 4, none⟩ (.int .i64 1)).drew.setCells w.heap.size 5 (enc v)).setCells w.heap.size 9 (tenc t)) = w3 at *
  clear hHeld
  replace B0 := Lib.hid (B0.out.of (m := cdl { c with info := 1, v := v, t := t }) rfl)
  have B0_15 := B0.out.at 15 rfl
  have B0_20 := B0.out.at 20 rfl
  have B0_16 := B0.out.at 16 rfl
  have B0_18 := B0.out.at 18 rfl
  have B0_22 := B0.out.at 22 rfl
  have B0f15 := B0.out.2.2 15
  have B0f20 := B0.out.2.2 20
  have B0f16 := B0.out.2.2 16
  have B0f18 := B0.out.2.2 18
  have B0f22 := B0.out.2.2 22
  replace B1 := Lib.hid (B1.out.other (k' := w.heap.size) (o := 15) (x := .bool false) (by omega))
  replace B2 := Lib.hid (B2.out.other (k' := w.heap.size) (o := 15) (x := .bool false) (by omega))
  replace R0 := Lib.hid (R0.out.other (k' := w.heap.size) (o := 15) (x := .bool false) (by omega))
  replace bel := Lib.hid (Bx.bel_set (k := w.heap.size) (o := 15) (x := .bool false) (by omega) bel.out)
  replace B0 := Lib.hid ((B0.out.set 15 (.bool false)).of (m := (cdl { c with info := 1, v := v, t := t, agd := false })) (by first | rfl | simp [enc, tenc]))
  replace B1 := Lib.hid (B1.out.other (k' := w.heap.size) (o := 20) (x := .bool false) (by omega))
  replace B2 := Lib.hid (B2.out.other (k' := w.heap.size) (o := 20) (x := .bool false) (by omega))
  replace R0 := Lib.hid (R0.out.other (k' := w.heap.size) (o := 20) (x := .bool false) (by omega))
  replace bel := Lib.hid (Bx.bel_set (k := w.heap.size) (o := 20) (x := .bool false) (by omega) bel.out)
  replace B0 := Lib.hid ((B0.out.set 20 (.bool false)).of (m := (cdl { c with info := 1, v := v, t := t, agd := false, syd := false })) (by first | rfl | simp [enc, tenc]))
  replace B1 := Lib.hid (B1.out.other (k' := w.heap.size) (o := 16) (x := .bool false) (by omega))
  replace B2 := Lib.hid (B2.out.other (k' := w.heap.size) (o := 16) (x := .bool false) (by omega))
  replace R0 := Lib.hid (R0.out.other (k' := w.heap.size) (o := 16) (x := .bool false) (by omega))
  replace bel := Lib.hid (Bx.bel_set (k := w.heap.size) (o := 16) (x := .bool false) (by omega) bel.out)
  replace B0 := Lib.hid ((B0.out.set 16 (.bool false)).of (m := (cdl { c with info := 1, v := v, t := t, agd := false, syd := false, agr := false })) (by first | rfl | simp [enc, tenc]))
  replace B1 := Lib.hid (B1.out.other (k' := w.heap.size) (o := 18) (x := .bool false) (by omega))
  replace B2 := Lib.hid (B2.out.other (k' := w.heap.size) (o := 18) (x := .bool false) (by omega))
  replace R0 := Lib.hid (R0.out.other (k' := w.heap.size) (o := 18) (x := .bool false) (by omega))
  replace bel := Lib.hid (Bx.bel_set (k := w.heap.size) (o := 18) (x := .bool false) (by omega) bel.out)
  replace B0 := Lib.hid ((B0.out.set 18 (.bool false)).of (m := (cdl { c with info := 1, v := v, t := t, agd := false, syd := false, agr := false, prd := false })) (by first | rfl | simp [enc, tenc]))
  replace B1 := Lib.hid (B1.out.other (k' := w.heap.size) (o := 22) (x := .bool true) (by omega))
  replace B2 := Lib.hid (B2.out.other (k' := w.heap.size) (o := 22) (x := .bool true) (by omega))
  replace R0 := Lib.hid (R0.out.other (k' := w.heap.size) (o := 22) (x := .bool true) (by omega))
  replace bel := Lib.hid (Bx.bel_set (k := w.heap.size) (o := 22) (x := .bool true) (by omega) bel.out)
  replace B0 := Lib.hid ((B0.out.set 22 (.bool true)).of (m := (cdl { c with info := 1, v := v, t := t, agd := false, syd := false, agr := false, prd := false, tel := true })) (by first | rfl | simp [enc, tenc]))
  go_wp2_with (first | ((with_reducible refine cd_store ?_ ?_ (w.heap.size + 1 + 1 + 1) { c with info := 1, v := v, t := t, agd := false, syd := false, agr := false, prd := false, tel := true } ?_ ?_ (cdl Cd.zero) ?_ ?_ ?_); (· rfl); (· rfl); (· rfl); (· rfl); (· rfl); (· exact R0.out.own)) | ((with_reducible refine cd_load ?_ ?_ (w.heap.size) ?_ { c with info := 1, v := v, t := t, agd := false, syd := false, agr := false, prd := false, tel := true } ?_ ?_); (· rfl); (· rfl); (· rfl); (· exact B0.out.blk)) | ((with_reducible refine cd_load ?_ ?_ (w.heap.size + 1 + 1 + 1) ?_ Cd.zero ?_ ?_); (· rfl); (· rfl); (· rfl); (· exact R0.out.blk)))
  replace B0 := Lib.hid (B0.out.apart_at (k' := w.heap.size + 1 + 1 + 1) (cdl { c with info := 1, v := v, t := t, agd := false, syd := false, agr := false, prd := false, tel := true }) 0 (by omega))
  replace B1 := Lib.hid (B1.out.apart_at (k' := w.heap.size + 1 + 1 + 1) (cdl { c with info := 1, v := v, t := t, agd := false, syd := false, agr := false, prd := false, tel := true }) 0 (by omega))
  replace B2 := Lib.hid (B2.out.apart_at (k' := w.heap.size + 1 + 1 + 1) (cdl { c with info := 1, v := v, t := t, agd := false, syd := false, agr := false, prd := false, tel := true }) 0 (by omega))
  replace bel := Lib.hid (Bx.bel_put_at (k := w.heap.size + 1 + 1 + 1) (cdl { c with info := 1, v := v, t := t, agd := false, syd := false, agr := false, prd := false, tel := true }) 0 (by omega) bel.out)
  replace R0 := Lib.hid (R0.out.full (m := (cdl { c with info := 1, v := v, t := t, agd := false, syd := false, agr := false, prd := false, tel := true })) (rfl))
  exact bodyPost_ret (v := cdv { c with info := 1, v := v, t := t, agd := false, syd := false, agr := false, prd := false, tel := true }) (cd_result Try.results31 rfl R0.out.blk) rfl ⟨rfl, bel.out⟩

set_option maxRecDepth 40000 in
set_option maxHeartbeats 8000000 in
theorem dsg_v (c : Cd) (v : Vc) (t : Tm) (w : World) (h1 : c.info = 1) (h2 : ¬ c.v = v) : Calls Try.prog 31 #[cdv c, vv v, tmv t] w fun e w' => e = .returned (cdv { c with info := 1, v := v, t := t, agd := false, syd := false, agr := false, prd := false, tel := true }) ∧ Below w.heap.size w w' := by
  have B0 : Hid (Bx.Fre (w.alloc (cdo c)) w.heap.size (cdl c)) := Lib.hid (Bx.Fre.new w (cdl c) 28)
  have bel := Lib.hid (Bx.box_below w (cdo c))
  replace B0 := Lib.hid (B0.out.more (vo v))
  have B1 : Hid (Bx.Fre ((w.alloc (cdo c)).alloc (vo v)) (w.heap.size + 1) (enc v)) := Lib.hid (Bx.Fre.new_at (W := (w.alloc (cdo c))) (k := w.heap.size + 1) (enc v) 26 (by simp))
  replace bel := Lib.hid (Bx.bel_box bel.out (vo v))
  replace B0 := Lib.hid (B0.out.more (tmo t))
  replace B1 := Lib.hid (B1.out.more (tmo t))
  have B2 : Hid (Bx.Fre (((w.alloc (cdo c)).alloc (vo v)).alloc (tmo t)) (w.heap.size + 1 + 1) (tenc t)) := Lib.hid (Bx.Fre.new_at (W := ((w.alloc (cdo c)).alloc (vo v))) (k := w.heap.size + 1 + 1) (tenc t) 24 (by simp))
  replace bel := Lib.hid (Bx.bel_box bel.out (tmo t))
  replace B0 := Lib.hid (B0.out.more (cdo Cd.zero))
  replace B1 := Lib.hid (B1.out.more (cdo Cd.zero))
  replace B2 := Lib.hid (B2.out.more (cdo Cd.zero))
  have R0 : Hid (Bx.Fre ((((w.alloc (cdo c)).alloc (vo v)).alloc (tmo t)).alloc (cdo Cd.zero)) (w.heap.size + 1 + 1 + 1) (cdl Cd.zero)) := Lib.hid (Bx.Fre.new_at (W := (((w.alloc (cdo c)).alloc (vo v)).alloc (tmo t))) (k := w.heap.size + 1 + 1 + 1) (cdl Cd.zero) 28 (by simp))
  replace bel := Lib.hid (Bx.bel_box bel.out (cdo Cd.zero))
  have B0_4 := B0.out.at 4 rfl
  have B0_5 := B0.out.at 5 rfl
  have B0_6 := B0.out.at 6 rfl
  have B0_7 := B0.out.at 7 rfl
  have B0_8 := B0.out.at 8 rfl
  have B0_9 := B0.out.at 9 rfl
  have B0_10 := B0.out.at 10 rfl
  have B0_11 := B0.out.at 11 rfl
  have B0_12 := B0.out.at 12 rfl
  have B1_0 := B1.out.at 0 rfl
  have B1_1 := B1.out.at 1 rfl
  have B1_2 := B1.out.at 2 rfl
  have B1_3 := B1.out.at 3 rfl
  have B2_0 := B2.out.at 0 rfl
  have B2_1 := B2.out.at 1 rfl
  have B2_2 := B2.out.at 2 rfl
  have B2_3 := B2.out.at 3 rfl
  have g1 : (c.info == 1) = true := by simpa using h1
  have hv : ∀ w, (binOp .eql 26 (vv c.v) (vv v)).run Try.prog w = .ok (.bool false) w := fun w => by rw [veql_at, decide_eq_false h2]
  have hvg := fun op a y w => vguard_at op a y c.v v w
  clear h1 h2
  go_enter Try.func31, Try.ntmps31
  go_wp2_with (first | ((with_reducible refine cd_load ?_ ?_ (w.heap.size) ?_ c ?_ ?_); (· rfl); (· rfl); (· rfl); (· exact B0.out.blk)) | ((with_reducible refine cd_load ?_ ?_ (w.heap.size + 1 + 1 + 1) ?_ Cd.zero ?_ ?_); (· rfl); (· rfl); (· rfl); (· exact R0.out.blk)))
  clear B0_4 B0_5 B0_6 B0_7 B0_8 B0_9 B0_10 B0_11 B0_12 B1_0 B1_1 B1_2 B1_3 B2_0 B2_1 B2_2 B2_3
  generalize ((((w.alloc (cdo c)).alloc (vo v)).alloc (tmo t)).alloc (cdo Cd.zero)) = w0 at *
  refine wp_region_noPanic ?_
  refine wp_region_held_drew (S := fun w' => w'.cell? ⟨w.heap.size + 1, 0, none⟩ = some (.int .u64 v.r) ∧ w'.cell? ⟨w.heap.size + 1, 1, none⟩ = some (.int .u64 v.c) ∧ w'.cell? ⟨w.heap.size + 1, 2, none⟩ = some (.int .u64 v.b) ∧ w'.cell? ⟨w.heap.size + 1, 3, none⟩ = some (.int .i64 v.p) ∧ w'.cell? ⟨w.heap.size + 1 + 1, 0, none⟩ = some (.int .i64 t.a) ∧ w'.cell? ⟨w.heap.size + 1 + 1, 1, none⟩ = some (.int .i64 t.m) ∧ w'.cell? ⟨w.heap.size + 1 + 1, 2, none⟩ = some (.int .i64 t.h) ∧ w'.cell? ⟨w.heap.size + 1 + 1, 3, none⟩ = some (.int .i64 t.d)) (by kernel_rfl) (by exact ⟨B1.out.at 0 rfl, B1.out.at 1 rfl, B1.out.at 2 rfl, B1.out.at 3 rfl, B2.out.at 0 rfl, B2.out.at 1 rfl, B2.out.at 2 rfl, B2.out.at 3 rfl⟩) (fun hHeld => ?_)
  refine wpAnyH_take (i := 0) (oi := ?o0) (v := ?v0) ?hi0 (by kernel_rfl) (by kernel_rfl) (by kernel_rfl) (fun _ _ _ h => h) ?y0 (by assumption) ?r0
  case hi0 => (simp only [List.getElem?_toArray, List.getElem?_cons_zero]; rfl)
  case y0 => (refine Or.inl ⟨by rfl, ?_⟩; intro w' hSw; (try dsimp only at hSw); go_simp; (try with_reducible rfl))
  try simp only [Act.put, List.setIfInBounds_toArray, List.set_cons_zero, List.set_cons_succ]
  refine wpAnyH_take (i := 1) (oi := ?o1) (v := ?v1) ?hi1 (by kernel_rfl) (by kernel_rfl) (by kernel_rfl) (fun _ _ _ h => h) ?y1 (by assumption) ?r1
  case hi1 => (simp only [List.getElem?_toArray, List.getElem?_cons_succ, List.getElem?_cons_zero]; rfl)
  case y1 => (refine Or.inl ⟨by rfl, ?_⟩; intro w' hSw; (try dsimp only at hSw); go_simp; (try with_reducible rfl))
  try simp only [Act.put, List.setIfInBounds_toArray, List.set_cons_zero, List.set_cons_succ]
  refine wpAnyH_take (i := 2) (oi := ?o2) (v := ?v2) ?hi2 (by kernel_rfl) (by kernel_rfl) (by kernel_rfl) (fun _ _ _ h => h) ?y2 (by assumption) ?r2
  case hi2 => (simp only [List.getElem?_toArray, List.getElem?_cons_succ, List.getElem?_cons_zero]; rfl)
  case y2 => (refine Or.inl ⟨by rfl, ?_⟩; intro w' hSw; (try dsimp only at hSw); go_simp; (try with_reducible rfl))
  try simp only [Act.put, List.setIfInBounds_toArray, List.set_cons_zero, List.set_cons_succ]
  refine wpAnyH_ready (rs := [3]) (by kernel_rfl) (by simp) ?_
  refine AllReadyH.cons (o := ?o3) ?hi3 ?hst3 AllReadyH.nil
  case hi3 => (simp only [List.getElem?_toArray, List.getElem?_cons_succ, List.getElem?_cons_zero]; rfl)
  intro K hK
  have z4 := B0.out.at 4 rfl; have f4 := B0.out.2.2 4; go_simp
  refine hK.out _ _ ⟨(by first | exact Bx.cell_other (by omega) hHeld.1 | exact Bx.cell_other_drew (by omega) hHeld.1), (by first | exact Bx.cell_other (by omega) hHeld.2.1 | exact Bx.cell_other_drew (by omega) hHeld.2.1), (by first | exact Bx.cell_other (by omega) hHeld.2.2.1 | exact Bx.cell_other_drew (by omega) hHeld.2.2.1), (by first | exact Bx.cell_other (by omega) hHeld.2.2.2.1 | exact Bx.cell_other_drew (by omega) hHeld.2.2.2.1), (by first | exact Bx.cell_other (by omega) hHeld.2.2.2.2.1 | exact Bx.cell_other_drew (by omega) hHeld.2.2.2.2.1), (by first | exact Bx.cell_other (by omega) hHeld.2.2.2.2.2.1 | exact Bx.cell_other_drew (by omega) hHeld.2.2.2.2.2.1), (by first | exact Bx.cell_other (by omega) hHeld.2.2.2.2.2.2.1 | exact Bx.cell_other_drew (by omega) hHeld.2.2.2.2.2.2.1), (by first | exact Bx.cell_other (by omega) hHeld.2.2.2.2.2.2.2 | exact Bx.cell_other_drew (by omega) hHeld.2.2.2.2.2.2.2)⟩ (fun hNew => ?_)
  clear hHeld
  have hHeld := hNew
  clear hNew hK K
  replace bel := Lib.hid (Bx.bel_set (k := w.heap.size) (o := 4) (x := .int .i64 1) (by omega) bel.out)
  replace B0 := Lib.hid (B0.out.set 4 (.int .i64 1))
  replace B1 := Lib.hid (B1.out.other (k' := w.heap.size) (o := 4) (x := .int .i64 1) (by omega))
  replace B2 := Lib.hid (B2.out.other (k' := w.heap.size) (o := 4) (x := .int .i64 1) (by omega))
  replace R0 := Lib.hid (R0.out.other (k' := w.heap.size) (o := 4) (x := .int .i64 1) (by omega))
  replace bel := Lib.hid (Bx.bel_drewn bel.out)
  replace B0 := Lib.hid (B0.out.drew)
  replace B1 := Lib.hid (B1.out.drew)
  replace B2 := Lib.hid (B2.out.drew)
  replace R0 := Lib.hid (R0.out.drew)
  refine wpAnyH_take (i := 4) (oi := ?o4) (v := ?v4) ?hi4 (by kernel_rfl) (by kernel_rfl) (by kernel_rfl) (fun _ _ _ h => h) ?y4 (by assumption) ?r4
  case hi4 => (simp only [List.getElem?_toArray, List.getElem?_cons_succ, List.getElem?_cons_zero]; rfl)
  case y4 => (refine Or.inl ⟨by rfl, ?_⟩; intro w' hSw; (try dsimp only at hSw); go_simp; (try with_reducible rfl))
  try simp only [Act.put, List.setIfInBounds_toArray, List.set_cons_zero, List.set_cons_succ]
  refine wpAnyH_ready (rs := [5]) (by kernel_rfl) (by simp) ?_
  refine AllReadyH.cons (o := ?o5) ?hi5 ?hst5 AllReadyH.nil
  case hi5 => (simp only [List.getElem?_toArray, List.getElem?_cons_succ, List.getElem?_cons_zero]; rfl)
  intro K hK
  rw [if_pos (by rfl)]
  refine vec_wp rfl (w.heap.size) 5 rfl v rfl ((cdl c).set 4 (.int .i64 1)) (by simp) B0.out ?_
  refine hK.out _ _ ⟨Bx.cell_apart_at _ _ (by omega) hHeld.1, Bx.cell_apart_at _ _ (by omega) hHeld.2.1, Bx.cell_apart_at _ _ (by omega) hHeld.2.2.1, Bx.cell_apart_at _ _ (by omega) hHeld.2.2.2.1, Bx.cell_apart_at _ _ (by omega) hHeld.2.2.2.2.1, Bx.cell_apart_at _ _ (by omega) hHeld.2.2.2.2.2.1, Bx.cell_apart_at _ _ (by omega) hHeld.2.2.2.2.2.2.1, Bx.cell_apart_at _ _ (by omega) hHeld.2.2.2.2.2.2.2⟩ (fun hNew => ?_)
  clear hHeld
  have hHeld := hNew
  clear hNew hK K
  try simp only [Act.put]
  replace bel := Lib.hid (Bx.bel_put_at (k := w.heap.size) (enc v) 5 (by omega) bel.out)
  replace B0 := Lib.hid (Bx.Fre.put_at (enc v) 5 B0.out)
  replace B1 := Lib.hid (Bx.Fre.apart_at (k' := w.heap.size) (enc v) 5 (by omega) B1.out)
  replace B2 := Lib.hid (Bx.Fre.apart_at (k' := w.heap.size) (enc v) 5 (by omega) B2.out)
  replace R0 := Lib.hid (Bx.Fre.apart_at (k' := w.heap.size) (enc v) 5 (by omega) R0.out)
  refine wpAnyH_take (i := 6) (oi := ?o6) (v := ?v6) ?hi6 (by kernel_rfl) (by kernel_rfl) (by kernel_rfl) (fun _ _ _ h => h) ?y6 (by assumption) ?r6
  case hi6 => (simp only [List.getElem?_toArray, List.getElem?_cons_succ, List.getElem?_cons_zero]; rfl)
  case y6 => (refine Or.inl ⟨by rfl, ?_⟩; intro w' hSw; (try dsimp only at hSw); go_simp; (try with_reducible rfl))
  try simp only [Act.put, List.setIfInBounds_toArray, List.set_cons_zero, List.set_cons_succ]
  refine wpAnyH_ready (rs := [7]) (by kernel_rfl) (by simp) ?_
  refine AllReadyH.cons (o := ?o7) ?hi7 ?hst7 AllReadyH.nil
  case hi7 => (simp only [List.getElem?_toArray, List.getElem?_cons_succ, List.getElem?_cons_zero]; rfl)
  intro K hK
  rw [if_pos (by rfl)]
  refine tm_wp rfl (w.heap.size) 9 rfl t rfl (Bx.setL ((cdl c).set 4 (.int .i64 1)) 5 (enc v)) (by simp [Bx.setL, enc]) B0.out ?_
  refine hK.out _ _ ⟨Bx.cell_apart_at _ _ (by omega) hHeld.1, Bx.cell_apart_at _ _ (by omega) hHeld.2.1, Bx.cell_apart_at _ _ (by omega) hHeld.2.2.1, Bx.cell_apart_at _ _ (by omega) hHeld.2.2.2.1, Bx.cell_apart_at _ _ (by omega) hHeld.2.2.2.2.1, Bx.cell_apart_at _ _ (by omega) hHeld.2.2.2.2.2.1, Bx.cell_apart_at _ _ (by omega) hHeld.2.2.2.2.2.2.1, Bx.cell_apart_at _ _ (by omega) hHeld.2.2.2.2.2.2.2⟩ (fun hNew => ?_)
  clear hHeld
  have hHeld := hNew
  clear hNew hK K
  try simp only [Act.put]
  replace bel := Lib.hid (Bx.bel_put_at (k := w.heap.size) (tenc t) 9 (by omega) bel.out)
  replace B0 := Lib.hid (Bx.Fre.put_at (tenc t) 9 B0.out)
  replace B1 := Lib.hid (Bx.Fre.apart_at (k' := w.heap.size) (tenc t) 9 (by omega) B1.out)
  replace B2 := Lib.hid (Bx.Fre.apart_at (k' := w.heap.size) (tenc t) 9 (by omega) B2.out)
  replace R0 := Lib.hid (Bx.Fre.apart_at (k' := w.heap.size) (tenc t) 9 (by omega) R0.out)
  refine wpAnyH_done (by kernel_rfl) ?_ _
  refine NoPanic.normal ?_
  generalize (((w0.setCell ⟨w.heap.size, 4, none⟩ (.int .i64 1)).drew.setCells w.heap.size 5 (enc v)).setCells w.heap.size 9 (tenc t)) = w3 at *
  clear hHeld
  replace B0 := Lib.hid (B0.out.of (m := cdl { c with info := 1, v := v, t := t }) rfl)
  have B0_15 := B0.out.at 15 rfl
  have B0_20 := B0.out.at 20 rfl
  have B0_16 := B0.out.at 16 rfl
  have B0_18 := B0.out.at 18 rfl
  have B0_22 := B0.out.at 22 rfl
  have B0f15 := B0.out.2.2 15
  have B0f20 := B0.out.2.2 20
  have B0f16 := B0.out.2.2 16
  have B0f18 := B0.out.2.2 18
  have B0f22 := B0.out.2.2 22
  replace B1 := Lib.hid (B1.out.other (k' := w.heap.size) (o := 15) (x := .bool false) (by omega))
  replace B2 := Lib.hid (B2.out.other (k' := w.heap.size) (o := 15) (x := .bool false) (by omega))
  replace R0 := Lib.hid (R0.out.other (k' := w.heap.size) (o := 15) (x := .bool false) (by omega))
  replace bel := Lib.hid (Bx.bel_set (k := w.heap.size) (o := 15) (x := .bool false) (by omega) bel.out)
  replace B0 := Lib.hid ((B0.out.set 15 (.bool false)).of (m := (cdl { c with info := 1, v := v, t := t, agd := false })) (by first | rfl | simp [enc, tenc]))
  replace B1 := Lib.hid (B1.out.other (k' := w.heap.size) (o := 20) (x := .bool false) (by omega))
  replace B2 := Lib.hid (B2.out.other (k' := w.heap.size) (o := 20) (x := .bool false) (by omega))
  replace R0 := Lib.hid (R0.out.other (k' := w.heap.size) (o := 20) (x := .bool false) (by omega))
  replace bel := Lib.hid (Bx.bel_set (k := w.heap.size) (o := 20) (x := .bool false) (by omega) bel.out)
  replace B0 := Lib.hid ((B0.out.set 20 (.bool false)).of (m := (cdl { c with info := 1, v := v, t := t, agd := false, syd := false })) (by first | rfl | simp [enc, tenc]))
  replace B1 := Lib.hid (B1.out.other (k' := w.heap.size) (o := 16) (x := .bool false) (by omega))
  replace B2 := Lib.hid (B2.out.other (k' := w.heap.size) (o := 16) (x := .bool false) (by omega))
  replace R0 := Lib.hid (R0.out.other (k' := w.heap.size) (o := 16) (x := .bool false) (by omega))
  replace bel := Lib.hid (Bx.bel_set (k := w.heap.size) (o := 16) (x := .bool false) (by omega) bel.out)
  replace B0 := Lib.hid ((B0.out.set 16 (.bool false)).of (m := (cdl { c with info := 1, v := v, t := t, agd := false, syd := false, agr := false })) (by first | rfl | simp [enc, tenc]))
  replace B1 := Lib.hid (B1.out.other (k' := w.heap.size) (o := 18) (x := .bool false) (by omega))
  replace B2 := Lib.hid (B2.out.other (k' := w.heap.size) (o := 18) (x := .bool false) (by omega))
  replace R0 := Lib.hid (R0.out.other (k' := w.heap.size) (o := 18) (x := .bool false) (by omega))
  replace bel := Lib.hid (Bx.bel_set (k := w.heap.size) (o := 18) (x := .bool false) (by omega) bel.out)
  replace B0 := Lib.hid ((B0.out.set 18 (.bool false)).of (m := (cdl { c with info := 1, v := v, t := t, agd := false, syd := false, agr := false, prd := false })) (by first | rfl | simp [enc, tenc]))
  replace B1 := Lib.hid (B1.out.other (k' := w.heap.size) (o := 22) (x := .bool true) (by omega))
  replace B2 := Lib.hid (B2.out.other (k' := w.heap.size) (o := 22) (x := .bool true) (by omega))
  replace R0 := Lib.hid (R0.out.other (k' := w.heap.size) (o := 22) (x := .bool true) (by omega))
  replace bel := Lib.hid (Bx.bel_set (k := w.heap.size) (o := 22) (x := .bool true) (by omega) bel.out)
  replace B0 := Lib.hid ((B0.out.set 22 (.bool true)).of (m := (cdl { c with info := 1, v := v, t := t, agd := false, syd := false, agr := false, prd := false, tel := true })) (by first | rfl | simp [enc, tenc]))
  go_wp2_with (first | ((with_reducible refine cd_store ?_ ?_ (w.heap.size + 1 + 1 + 1) { c with info := 1, v := v, t := t, agd := false, syd := false, agr := false, prd := false, tel := true } ?_ ?_ (cdl Cd.zero) ?_ ?_ ?_); (· rfl); (· rfl); (· rfl); (· rfl); (· rfl); (· exact R0.out.own)) | ((with_reducible refine cd_load ?_ ?_ (w.heap.size) ?_ { c with info := 1, v := v, t := t, agd := false, syd := false, agr := false, prd := false, tel := true } ?_ ?_); (· rfl); (· rfl); (· rfl); (· exact B0.out.blk)) | ((with_reducible refine cd_load ?_ ?_ (w.heap.size + 1 + 1 + 1) ?_ Cd.zero ?_ ?_); (· rfl); (· rfl); (· rfl); (· exact R0.out.blk)))
  replace B0 := Lib.hid (B0.out.apart_at (k' := w.heap.size + 1 + 1 + 1) (cdl { c with info := 1, v := v, t := t, agd := false, syd := false, agr := false, prd := false, tel := true }) 0 (by omega))
  replace B1 := Lib.hid (B1.out.apart_at (k' := w.heap.size + 1 + 1 + 1) (cdl { c with info := 1, v := v, t := t, agd := false, syd := false, agr := false, prd := false, tel := true }) 0 (by omega))
  replace B2 := Lib.hid (B2.out.apart_at (k' := w.heap.size + 1 + 1 + 1) (cdl { c with info := 1, v := v, t := t, agd := false, syd := false, agr := false, prd := false, tel := true }) 0 (by omega))
  replace bel := Lib.hid (Bx.bel_put_at (k := w.heap.size + 1 + 1 + 1) (cdl { c with info := 1, v := v, t := t, agd := false, syd := false, agr := false, prd := false, tel := true }) 0 (by omega) bel.out)
  replace R0 := Lib.hid (R0.out.full (m := (cdl { c with info := 1, v := v, t := t, agd := false, syd := false, agr := false, prd := false, tel := true })) (rfl))
  exact bodyPost_ret (v := cdv { c with info := 1, v := v, t := t, agd := false, syd := false, agr := false, prd := false, tel := true }) (cd_result Try.results31 rfl R0.out.blk) rfl ⟨rfl, bel.out⟩

set_option maxRecDepth 40000 in
set_option maxHeartbeats 8000000 in
theorem dsg_t (c : Cd) (v : Vc) (t : Tm) (w : World) (h1 : c.info = 1) (h2 : c.v = v) (h3 : ¬ c.t = t) : Calls Try.prog 31 #[cdv c, vv v, tmv t] w fun e w' => e = .returned (cdv { c with info := 1, v := v, t := t, agd := false, syd := false, agr := false, prd := false, tel := true }) ∧ Below w.heap.size w w' := by
  have B0 : Hid (Bx.Fre (w.alloc (cdo c)) w.heap.size (cdl c)) := Lib.hid (Bx.Fre.new w (cdl c) 28)
  have bel := Lib.hid (Bx.box_below w (cdo c))
  replace B0 := Lib.hid (B0.out.more (vo v))
  have B1 : Hid (Bx.Fre ((w.alloc (cdo c)).alloc (vo v)) (w.heap.size + 1) (enc v)) := Lib.hid (Bx.Fre.new_at (W := (w.alloc (cdo c))) (k := w.heap.size + 1) (enc v) 26 (by simp))
  replace bel := Lib.hid (Bx.bel_box bel.out (vo v))
  replace B0 := Lib.hid (B0.out.more (tmo t))
  replace B1 := Lib.hid (B1.out.more (tmo t))
  have B2 : Hid (Bx.Fre (((w.alloc (cdo c)).alloc (vo v)).alloc (tmo t)) (w.heap.size + 1 + 1) (tenc t)) := Lib.hid (Bx.Fre.new_at (W := ((w.alloc (cdo c)).alloc (vo v))) (k := w.heap.size + 1 + 1) (tenc t) 24 (by simp))
  replace bel := Lib.hid (Bx.bel_box bel.out (tmo t))
  replace B0 := Lib.hid (B0.out.more (cdo Cd.zero))
  replace B1 := Lib.hid (B1.out.more (cdo Cd.zero))
  replace B2 := Lib.hid (B2.out.more (cdo Cd.zero))
  have R0 : Hid (Bx.Fre ((((w.alloc (cdo c)).alloc (vo v)).alloc (tmo t)).alloc (cdo Cd.zero)) (w.heap.size + 1 + 1 + 1) (cdl Cd.zero)) := Lib.hid (Bx.Fre.new_at (W := (((w.alloc (cdo c)).alloc (vo v)).alloc (tmo t))) (k := w.heap.size + 1 + 1 + 1) (cdl Cd.zero) 28 (by simp))
  replace bel := Lib.hid (Bx.bel_box bel.out (cdo Cd.zero))
  have B0_4 := B0.out.at 4 rfl
  have B0_5 := B0.out.at 5 rfl
  have B0_6 := B0.out.at 6 rfl
  have B0_7 := B0.out.at 7 rfl
  have B0_8 := B0.out.at 8 rfl
  have B0_9 := B0.out.at 9 rfl
  have B0_10 := B0.out.at 10 rfl
  have B0_11 := B0.out.at 11 rfl
  have B0_12 := B0.out.at 12 rfl
  have B1_0 := B1.out.at 0 rfl
  have B1_1 := B1.out.at 1 rfl
  have B1_2 := B1.out.at 2 rfl
  have B1_3 := B1.out.at 3 rfl
  have B2_0 := B2.out.at 0 rfl
  have B2_1 := B2.out.at 1 rfl
  have B2_2 := B2.out.at 2 rfl
  have B2_3 := B2.out.at 3 rfl
  have g1 : (c.info == 1) = true := by simpa using h1
  have hv : ∀ w, (binOp .eql 26 (vv c.v) (vv v)).run Try.prog w = .ok (.bool true) w := fun w => by rw [veql_at, decide_eq_true h2]
  have ht : ∀ w, (binOp .eql 24 (tmv c.t) (tmv t)).run Try.prog w = .ok (.bool false) w := fun w => by rw [teql_at, decide_eq_false h3]
  have hvg := fun op a y w => vguard_at op a y c.v v w
  have htg := fun op a y w => Crd.tguard_at op a y c.t t w
  clear h1 h2 h3
  go_enter Try.func31, Try.ntmps31
  go_wp2_with (first | ((with_reducible refine cd_load ?_ ?_ (w.heap.size) ?_ c ?_ ?_); (· rfl); (· rfl); (· rfl); (· exact B0.out.blk)) | ((with_reducible refine cd_load ?_ ?_ (w.heap.size + 1 + 1 + 1) ?_ Cd.zero ?_ ?_); (· rfl); (· rfl); (· rfl); (· exact R0.out.blk)))
  clear B0_4 B0_5 B0_6 B0_7 B0_8 B0_9 B0_10 B0_11 B0_12 B1_0 B1_1 B1_2 B1_3 B2_0 B2_1 B2_2 B2_3
  generalize ((((w.alloc (cdo c)).alloc (vo v)).alloc (tmo t)).alloc (cdo Cd.zero)) = w0 at *
  refine wp_region_noPanic ?_
  refine wp_region_held_drew (S := fun w' => w'.cell? ⟨w.heap.size + 1, 0, none⟩ = some (.int .u64 v.r) ∧ w'.cell? ⟨w.heap.size + 1, 1, none⟩ = some (.int .u64 v.c) ∧ w'.cell? ⟨w.heap.size + 1, 2, none⟩ = some (.int .u64 v.b) ∧ w'.cell? ⟨w.heap.size + 1, 3, none⟩ = some (.int .i64 v.p) ∧ w'.cell? ⟨w.heap.size + 1 + 1, 0, none⟩ = some (.int .i64 t.a) ∧ w'.cell? ⟨w.heap.size + 1 + 1, 1, none⟩ = some (.int .i64 t.m) ∧ w'.cell? ⟨w.heap.size + 1 + 1, 2, none⟩ = some (.int .i64 t.h) ∧ w'.cell? ⟨w.heap.size + 1 + 1, 3, none⟩ = some (.int .i64 t.d)) (by kernel_rfl) (by exact ⟨B1.out.at 0 rfl, B1.out.at 1 rfl, B1.out.at 2 rfl, B1.out.at 3 rfl, B2.out.at 0 rfl, B2.out.at 1 rfl, B2.out.at 2 rfl, B2.out.at 3 rfl⟩) (fun hHeld => ?_)
  refine wpAnyH_take (i := 0) (oi := ?o0) (v := ?v0) ?hi0 (by kernel_rfl) (by kernel_rfl) (by kernel_rfl) (fun _ _ _ h => h) ?y0 (by assumption) ?r0
  case hi0 => (simp only [List.getElem?_toArray, List.getElem?_cons_zero]; rfl)
  case y0 => (refine Or.inl ⟨by rfl, ?_⟩; intro w' hSw; (try dsimp only at hSw); go_simp; (try with_reducible rfl))
  try simp only [Act.put, List.setIfInBounds_toArray, List.set_cons_zero, List.set_cons_succ]
  refine wpAnyH_take (i := 1) (oi := ?o1) (v := ?v1) ?hi1 (by kernel_rfl) (by kernel_rfl) (by kernel_rfl) (fun _ _ _ h => h) ?y1 (by assumption) ?r1
  case hi1 => (simp only [List.getElem?_toArray, List.getElem?_cons_succ, List.getElem?_cons_zero]; rfl)
  case y1 => (refine Or.inl ⟨by rfl, ?_⟩; intro w' hSw; (try dsimp only at hSw); go_simp; (try with_reducible rfl))
  try simp only [Act.put, List.setIfInBounds_toArray, List.set_cons_zero, List.set_cons_succ]
  refine wpAnyH_take (i := 2) (oi := ?o2) (v := ?v2) ?hi2 (by kernel_rfl) (by kernel_rfl) (by kernel_rfl) (fun _ _ _ h => h) ?y2 (by assumption) ?r2
  case hi2 => (simp only [List.getElem?_toArray, List.getElem?_cons_succ, List.getElem?_cons_zero]; rfl)
  case y2 => (refine Or.inl ⟨by rfl, ?_⟩; intro w' hSw; (try dsimp only at hSw); go_simp; (try with_reducible rfl))
  try simp only [Act.put, List.setIfInBounds_toArray, List.set_cons_zero, List.set_cons_succ]
  refine wpAnyH_ready (rs := [3]) (by kernel_rfl) (by simp) ?_
  refine AllReadyH.cons (o := ?o3) ?hi3 ?hst3 AllReadyH.nil
  case hi3 => (simp only [List.getElem?_toArray, List.getElem?_cons_succ, List.getElem?_cons_zero]; rfl)
  intro K hK
  have z4 := B0.out.at 4 rfl; have f4 := B0.out.2.2 4; go_simp
  refine hK.out _ _ ⟨(by first | exact Bx.cell_other (by omega) hHeld.1 | exact Bx.cell_other_drew (by omega) hHeld.1), (by first | exact Bx.cell_other (by omega) hHeld.2.1 | exact Bx.cell_other_drew (by omega) hHeld.2.1), (by first | exact Bx.cell_other (by omega) hHeld.2.2.1 | exact Bx.cell_other_drew (by omega) hHeld.2.2.1), (by first | exact Bx.cell_other (by omega) hHeld.2.2.2.1 | exact Bx.cell_other_drew (by omega) hHeld.2.2.2.1), (by first | exact Bx.cell_other (by omega) hHeld.2.2.2.2.1 | exact Bx.cell_other_drew (by omega) hHeld.2.2.2.2.1), (by first | exact Bx.cell_other (by omega) hHeld.2.2.2.2.2.1 | exact Bx.cell_other_drew (by omega) hHeld.2.2.2.2.2.1), (by first | exact Bx.cell_other (by omega) hHeld.2.2.2.2.2.2.1 | exact Bx.cell_other_drew (by omega) hHeld.2.2.2.2.2.2.1), (by first | exact Bx.cell_other (by omega) hHeld.2.2.2.2.2.2.2 | exact Bx.cell_other_drew (by omega) hHeld.2.2.2.2.2.2.2)⟩ (fun hNew => ?_)
  clear hHeld
  have hHeld := hNew
  clear hNew hK K
  replace bel := Lib.hid (Bx.bel_set (k := w.heap.size) (o := 4) (x := .int .i64 1) (by omega) bel.out)
  replace B0 := Lib.hid (B0.out.set 4 (.int .i64 1))
  replace B1 := Lib.hid (B1.out.other (k' := w.heap.size) (o := 4) (x := .int .i64 1) (by omega))
  replace B2 := Lib.hid (B2.out.other (k' := w.heap.size) (o := 4) (x := .int .i64 1) (by omega))
  replace R0 := Lib.hid (R0.out.other (k' := w.heap.size) (o := 4) (x := .int .i64 1) (by omega))
  replace bel := Lib.hid (Bx.bel_drewn bel.out)
  replace B0 := Lib.hid (B0.out.drew)
  replace B1 := Lib.hid (B1.out.drew)
  replace B2 := Lib.hid (B2.out.drew)
  replace R0 := Lib.hid (R0.out.drew)
  refine wpAnyH_take (i := 4) (oi := ?o4) (v := ?v4) ?hi4 (by kernel_rfl) (by kernel_rfl) (by kernel_rfl) (fun _ _ _ h => h) ?y4 (by assumption) ?r4
  case hi4 => (simp only [List.getElem?_toArray, List.getElem?_cons_succ, List.getElem?_cons_zero]; rfl)
  case y4 => (refine Or.inl ⟨by rfl, ?_⟩; intro w' hSw; (try dsimp only at hSw); go_simp; (try with_reducible rfl))
  try simp only [Act.put, List.setIfInBounds_toArray, List.set_cons_zero, List.set_cons_succ]
  refine wpAnyH_ready (rs := [5]) (by kernel_rfl) (by simp) ?_
  refine AllReadyH.cons (o := ?o5) ?hi5 ?hst5 AllReadyH.nil
  case hi5 => (simp only [List.getElem?_toArray, List.getElem?_cons_succ, List.getElem?_cons_zero]; rfl)
  intro K hK
  rw [if_pos (by rfl)]
  refine vec_wp rfl (w.heap.size) 5 rfl v rfl ((cdl c).set 4 (.int .i64 1)) (by simp) B0.out ?_
  refine hK.out _ _ ⟨Bx.cell_apart_at _ _ (by omega) hHeld.1, Bx.cell_apart_at _ _ (by omega) hHeld.2.1, Bx.cell_apart_at _ _ (by omega) hHeld.2.2.1, Bx.cell_apart_at _ _ (by omega) hHeld.2.2.2.1, Bx.cell_apart_at _ _ (by omega) hHeld.2.2.2.2.1, Bx.cell_apart_at _ _ (by omega) hHeld.2.2.2.2.2.1, Bx.cell_apart_at _ _ (by omega) hHeld.2.2.2.2.2.2.1, Bx.cell_apart_at _ _ (by omega) hHeld.2.2.2.2.2.2.2⟩ (fun hNew => ?_)
  clear hHeld
  have hHeld := hNew
  clear hNew hK K
  try simp only [Act.put]
  replace bel := Lib.hid (Bx.bel_put_at (k := w.heap.size) (enc v) 5 (by omega) bel.out)
  replace B0 := Lib.hid (Bx.Fre.put_at (enc v) 5 B0.out)
  replace B1 := Lib.hid (Bx.Fre.apart_at (k' := w.heap.size) (enc v) 5 (by omega) B1.out)
  replace B2 := Lib.hid (Bx.Fre.apart_at (k' := w.heap.size) (enc v) 5 (by omega) B2.out)
  replace R0 := Lib.hid (Bx.Fre.apart_at (k' := w.heap.size) (enc v) 5 (by omega) R0.out)
  refine wpAnyH_take (i := 6) (oi := ?o6) (v := ?v6) ?hi6 (by kernel_rfl) (by kernel_rfl) (by kernel_rfl) (fun _ _ _ h => h) ?y6 (by assumption) ?r6
  case hi6 => (simp only [List.getElem?_toArray, List.getElem?_cons_succ, List.getElem?_cons_zero]; rfl)
  case y6 => (refine Or.inl ⟨by rfl, ?_⟩; intro w' hSw; (try dsimp only at hSw); go_simp; (try with_reducible rfl))
  try simp only [Act.put, List.setIfInBounds_toArray, List.set_cons_zero, List.set_cons_succ]
  refine wpAnyH_ready (rs := [7]) (by kernel_rfl) (by simp) ?_
  refine AllReadyH.cons (o := ?o7) ?hi7 ?hst7 AllReadyH.nil
  case hi7 => (simp only [List.getElem?_toArray, List.getElem?_cons_succ, List.getElem?_cons_zero]; rfl)
  intro K hK
  rw [if_pos (by rfl)]
  refine tm_wp rfl (w.heap.size) 9 rfl t rfl (Bx.setL ((cdl c).set 4 (.int .i64 1)) 5 (enc v)) (by simp [Bx.setL, enc]) B0.out ?_
  refine hK.out _ _ ⟨Bx.cell_apart_at _ _ (by omega) hHeld.1, Bx.cell_apart_at _ _ (by omega) hHeld.2.1, Bx.cell_apart_at _ _ (by omega) hHeld.2.2.1, Bx.cell_apart_at _ _ (by omega) hHeld.2.2.2.1, Bx.cell_apart_at _ _ (by omega) hHeld.2.2.2.2.1, Bx.cell_apart_at _ _ (by omega) hHeld.2.2.2.2.2.1, Bx.cell_apart_at _ _ (by omega) hHeld.2.2.2.2.2.2.1, Bx.cell_apart_at _ _ (by omega) hHeld.2.2.2.2.2.2.2⟩ (fun hNew => ?_)
  clear hHeld
  have hHeld := hNew
  clear hNew hK K
  try simp only [Act.put]
  replace bel := Lib.hid (Bx.bel_put_at (k := w.heap.size) (tenc t) 9 (by omega) bel.out)
  replace B0 := Lib.hid (Bx.Fre.put_at (tenc t) 9 B0.out)
  replace B1 := Lib.hid (Bx.Fre.apart_at (k' := w.heap.size) (tenc t) 9 (by omega) B1.out)
  replace B2 := Lib.hid (Bx.Fre.apart_at (k' := w.heap.size) (tenc t) 9 (by omega) B2.out)
  replace R0 := Lib.hid (Bx.Fre.apart_at (k' := w.heap.size) (tenc t) 9 (by omega) R0.out)
  refine wpAnyH_done (by kernel_rfl) ?_ _
  refine NoPanic.normal ?_
  generalize (((w0.setCell ⟨w.heap.size, 4, none⟩ (.int .i64 1)).drew.setCells w.heap.size 5 (enc v)).setCells w.heap.size 9 (tenc t)) = w3 at *
  clear hHeld
  replace B0 := Lib.hid (B0.out.of (m := cdl { c with info := 1, v := v, t := t }) rfl)
  have B0_15 := B0.out.at 15 rfl
  have B0_20 := B0.out.at 20 rfl
  have B0_16 := B0.out.at 16 rfl
  have B0_18 := B0.out.at 18 rfl
  have B0_22 := B0.out.at 22 rfl
  have B0f15 := B0.out.2.2 15
  have B0f20 := B0.out.2.2 20
  have B0f16 := B0.out.2.2 16
  have B0f18 := B0.out.2.2 18
  have B0f22 := B0.out.2.2 22
  replace B1 := Lib.hid (B1.out.other (k' := w.heap.size) (o := 15) (x := .bool false) (by omega))
  replace B2 := Lib.hid (B2.out.other (k' := w.heap.size) (o := 15) (x := .bool false) (by omega))
  replace R0 := Lib.hid (R0.out.other (k' := w.heap.size) (o := 15) (x := .bool false) (by omega))
  replace bel := Lib.hid (Bx.bel_set (k := w.heap.size) (o := 15) (x := .bool false) (by omega) bel.out)
  replace B0 := Lib.hid ((B0.out.set 15 (.bool false)).of (m := (cdl { c with info := 1, v := v, t := t, agd := false })) (by first | rfl | simp [enc, tenc]))
  replace B1 := Lib.hid (B1.out.other (k' := w.heap.size) (o := 20) (x := .bool false) (by omega))
  replace B2 := Lib.hid (B2.out.other (k' := w.heap.size) (o := 20) (x := .bool false) (by omega))
  replace R0 := Lib.hid (R0.out.other (k' := w.heap.size) (o := 20) (x := .bool false) (by omega))
  replace bel := Lib.hid (Bx.bel_set (k := w.heap.size) (o := 20) (x := .bool false) (by omega) bel.out)
  replace B0 := Lib.hid ((B0.out.set 20 (.bool false)).of (m := (cdl { c with info := 1, v := v, t := t, agd := false, syd := false })) (by first | rfl | simp [enc, tenc]))
  replace B1 := Lib.hid (B1.out.other (k' := w.heap.size) (o := 16) (x := .bool false) (by omega))
  replace B2 := Lib.hid (B2.out.other (k' := w.heap.size) (o := 16) (x := .bool false) (by omega))
  replace R0 := Lib.hid (R0.out.other (k' := w.heap.size) (o := 16) (x := .bool false) (by omega))
  replace bel := Lib.hid (Bx.bel_set (k := w.heap.size) (o := 16) (x := .bool false) (by omega) bel.out)
  replace B0 := Lib.hid ((B0.out.set 16 (.bool false)).of (m := (cdl { c with info := 1, v := v, t := t, agd := false, syd := false, agr := false })) (by first | rfl | simp [enc, tenc]))
  replace B1 := Lib.hid (B1.out.other (k' := w.heap.size) (o := 18) (x := .bool false) (by omega))
  replace B2 := Lib.hid (B2.out.other (k' := w.heap.size) (o := 18) (x := .bool false) (by omega))
  replace R0 := Lib.hid (R0.out.other (k' := w.heap.size) (o := 18) (x := .bool false) (by omega))
  replace bel := Lib.hid (Bx.bel_set (k := w.heap.size) (o := 18) (x := .bool false) (by omega) bel.out)
  replace B0 := Lib.hid ((B0.out.set 18 (.bool false)).of (m := (cdl { c with info := 1, v := v, t := t, agd := false, syd := false, agr := false, prd := false })) (by first | rfl | simp [enc, tenc]))
  replace B1 := Lib.hid (B1.out.other (k' := w.heap.size) (o := 22) (x := .bool true) (by omega))
  replace B2 := Lib.hid (B2.out.other (k' := w.heap.size) (o := 22) (x := .bool true) (by omega))
  replace R0 := Lib.hid (R0.out.other (k' := w.heap.size) (o := 22) (x := .bool true) (by omega))
  replace bel := Lib.hid (Bx.bel_set (k := w.heap.size) (o := 22) (x := .bool true) (by omega) bel.out)
  replace B0 := Lib.hid ((B0.out.set 22 (.bool true)).of (m := (cdl { c with info := 1, v := v, t := t, agd := false, syd := false, agr := false, prd := false, tel := true })) (by first | rfl | simp [enc, tenc]))
  go_wp2_with (first | ((with_reducible refine cd_store ?_ ?_ (w.heap.size + 1 + 1 + 1) { c with info := 1, v := v, t := t, agd := false, syd := false, agr := false, prd := false, tel := true } ?_ ?_ (cdl Cd.zero) ?_ ?_ ?_); (· rfl); (· rfl); (· rfl); (· rfl); (· rfl); (· exact R0.out.own)) | ((with_reducible refine cd_load ?_ ?_ (w.heap.size) ?_ { c with info := 1, v := v, t := t, agd := false, syd := false, agr := false, prd := false, tel := true } ?_ ?_); (· rfl); (· rfl); (· rfl); (· exact B0.out.blk)) | ((with_reducible refine cd_load ?_ ?_ (w.heap.size + 1 + 1 + 1) ?_ Cd.zero ?_ ?_); (· rfl); (· rfl); (· rfl); (· exact R0.out.blk)))
  replace B0 := Lib.hid (B0.out.apart_at (k' := w.heap.size + 1 + 1 + 1) (cdl { c with info := 1, v := v, t := t, agd := false, syd := false, agr := false, prd := false, tel := true }) 0 (by omega))
  replace B1 := Lib.hid (B1.out.apart_at (k' := w.heap.size + 1 + 1 + 1) (cdl { c with info := 1, v := v, t := t, agd := false, syd := false, agr := false, prd := false, tel := true }) 0 (by omega))
  replace B2 := Lib.hid (B2.out.apart_at (k' := w.heap.size + 1 + 1 + 1) (cdl { c with info := 1, v := v, t := t, agd := false, syd := false, agr := false, prd := false, tel := true }) 0 (by omega))
  replace bel := Lib.hid (Bx.bel_put_at (k := w.heap.size + 1 + 1 + 1) (cdl { c with info := 1, v := v, t := t, agd := false, syd := false, agr := false, prd := false, tel := true }) 0 (by omega) bel.out)
  replace R0 := Lib.hid (R0.out.full (m := (cdl { c with info := 1, v := v, t := t, agd := false, syd := false, agr := false, prd := false, tel := true })) (rfl))
  exact bodyPost_ret (v := cdv { c with info := 1, v := v, t := t, agd := false, syd := false, agr := false, prd := false, tel := true }) (cd_result Try.results31 rfl R0.out.blk) rfl ⟨rfl, bel.out⟩

theorem dsg_any (c : Cd) (v : Vc) (t : Tm) (w : World) : Calls Try.prog 31 #[cdv c, vv v, tmv t] w fun e w' => e = .returned (cdv (desC c v t)) ∧ Below w.heap.size w w' := by
  unfold desC
  by_cases h1 : c.info = 1
  · by_cases h2 : c.v = v
    · by_cases h3 : c.t = t
      · rw [if_pos ⟨h1, h2, h3⟩]
        exact dsg_same c v t w h1 h2 h3
      · rw [if_neg (fun h => h3 h.2.2)]
        exact dsg_t c v t w h1 h2 h3
    · rw [if_neg (fun h => h2 h.2.1)]
      exact dsg_v c v t w h1 h2
  · rw [if_neg (fun h => h1 h.1)]
    exact dsg_info c v t w h1

end Elt
end Go.Proofs.Ytkjdnmlaehjmgaa
