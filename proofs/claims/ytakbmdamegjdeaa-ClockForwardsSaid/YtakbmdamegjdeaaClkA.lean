/-
  What Down, leads, Moves and Edges answer, and the document's.
-/
import Derived.Test.YtakbmdamegjdeaaClkNum
import Derived.Test.YtakbmdamegjdeaaCrdEq
import Derived.Test.YtakbmdamegjdeaaFreAt
import Derived.Test.YtakbmdamegjdeaaBox
import Derived.Lib.MinMax
import Derived.Deep.LoopGhost
import Derived.Deep.CutBlock
namespace Go.Proofs.Ytakbmdamegjdeaa
open Go.RowKit
namespace Clk
open Pre Crd Clk

def leaB (c : Cd) : Bool := c.up && decide (c.role = 3)

theorem lea_is {c : Cd} : leaB c = true ↔ c.up = true ∧ c.role = 3 := by unfold leaB; simp

set_option maxRecDepth 40000 in
theorem down_any (n : Int) (hn : n ≤ 9223372036854775807) (w : World) : Calls Try.prog 12 #[.int .i64 n] w fun e w' => e = .returned (.int .i64 (dnI n)) ∧ w = w' := by
  go_enter Try.func12, Try.ntmps12
  unfold dnI
  by_cases h : n ≤ 0
  · rw [if_pos h]
    have g : decide (n ≤ 0) = true := decide_eq_true h
    go_wp2_with fail
    go_ret
    exact ⟨rfl, rfl⟩
  · rw [if_neg h]
    have g : decide (n ≤ 0) = false := decide_eq_false h
    have hw : IntKind.i64.wrap (n - 1) = n - 1 := by rw [IntKind.wrap_i64]; omega
    go_wp2_with fail
    go_ret
    exact ⟨rfl, rfl⟩

set_option maxRecDepth 40000 in
theorem rdown_any (n : Int) (hn : n ≤ 9223372036854775807) (w : World) : Calls Try.prog 13 #[.int .i64 n] w fun e w' => e = .returned (.int .i64 (dnI n)) ∧ w = w' := by
  go_enter Try.func13, Try.ntmps13
  have hw : IntKind.i64.wrap (n - min n 1) = n - min n 1 := by rw [IntKind.wrap_i64]; omega
  have hd : max 0 (n - min n 1) = dnI n := by unfold dnI; split <;> omega
  generalize dnI n = d at *
  go_wp2_with fail
  go_ret
  exact ⟨rfl, rfl⟩

set_option maxRecDepth 40000 in
set_option maxHeartbeats 8000000 in
theorem leads_any (c : Cd) (w : World) : Calls Try.prog 16 #[cdv c] w fun e w' => e = .returned (.bool (leaB c)) ∧ Below w.heap.size w w' := by
  have B0 : Hid (Bx.Fre (w.alloc (cdo c)) w.heap.size (cdl c)) := Lib.hid (Bx.Fre.new w (cdl c) 28)
  have bel := Lib.hid (Bx.box_below w (cdo c))
  go_enter Try.func16, Try.ntmps16
  go_upto_region 1 with fail
  generalize (w.alloc (cdo c)) = W0 at *
  have B0_0 := B0.out.at 0 rfl
  have B0_13 := B0.out.at 13 rfl
  rcases Bool.eq_false_or_eq_true c.up with h | h
  · rw [h] at B0_0
    by_cases h2 : c.role = 3
    · have g2 : (c.role == 3) = true := by simpa using h2
      have HE : Hid (leaB c = true) := Lib.hid (by unfold leaB; simp [h, h2])
      clear h h2
      go_wp2_with (first | ((with_reducible refine cd_load ?_ ?_ (w.heap.size) ?_ c ?_ ?_); (· rfl); (· rfl); (· rfl); (· exact B0.out.blk)))
      go_ret
      exact ⟨by rw [HE.out]; rfl, bel.out⟩
    · have g2 : (c.role == 3) = false := by simpa using h2
      have HE : Hid (leaB c = false) := Lib.hid (by unfold leaB; simp [h, h2])
      clear h h2
      go_wp2_with (first | ((with_reducible refine cd_load ?_ ?_ (w.heap.size) ?_ c ?_ ?_); (· rfl); (· rfl); (· rfl); (· exact B0.out.blk)))
      go_ret
      exact ⟨by rw [HE.out]; rfl, bel.out⟩
  · rw [h] at B0_0
    have HE : Hid (leaB c = false) := Lib.hid (by unfold leaB; simp [h])
    clear h
    go_wp2_with (first | ((with_reducible refine cd_load ?_ ?_ (w.heap.size) ?_ c ?_ ?_); (· rfl); (· rfl); (· rfl); (· exact B0.out.blk)))
    go_ret
    exact ⟨by rw [HE.out]; rfl, bel.out⟩

set_option maxRecDepth 40000 in
set_option maxHeartbeats 8000000 in
theorem moves_any (c : Cd) (hs : -9223372036854775808 ≤ c.st) (w : World) : Calls Try.prog 8 #[cdv c] w fun e w' => e = .returned (cdv (movC c)) ∧ Below w.heap.size w w' := by
  have HL := Lib.hid (leads_any c)
  have HE : Hid (movC c = if c.up = true ∧ c.role = 3 ∧ c.st < 2 ∧ c.wai ≤ 0 then (if c.st + 1 = 2 then { c with st := c.st + 1, tel := true } else { c with st := c.st + 1, tel := true, wai := c.t.d }) else c) := Lib.hid rfl
  have C0 : Hid (Bx.Fre (w.alloc (cdo c)) w.heap.size (cdl c)) := Lib.hid (Bx.Fre.new w (cdl c) 28)
  have bel := Lib.hid (Bx.box_below w (cdo c))
  replace C0 := Lib.hid (C0.out.more (cdo Cd.zero))
  have R1 : Hid (Bx.Fre ((w.alloc (cdo c)).alloc (cdo Cd.zero)) (w.heap.size + 1) (cdl Cd.zero)) := Lib.hid (Bx.Fre.new_at (W := (w.alloc (cdo c))) (k := w.heap.size + 1) (cdl Cd.zero) 28 (by simp))
  replace bel := Lib.hid (Bx.bel_box bel.out (cdo Cd.zero))
  go_enter Try.func8, Try.ntmps8
  go_upto_region 1 with fail
  generalize ((w.alloc (cdo c)).alloc (cdo Cd.zero)) = W0 at *
  rcases Bool.eq_false_or_eq_true (leaB c) with h | h
  · rw [h] at HL
    obtain ⟨h0, h1⟩ := lea_is.1 h
    clear h
    go_wp2_with (first | ((with_reducible refine cd_load ?_ ?_ (w.heap.size) ?_ c ?_ ?_); (· rfl); (· rfl); (· rfl); (· exact C0.out.blk)))
    refine (HL.out _).mono ?_; rintro e w1 ⟨rfl, hb⟩
    replace C0 := Lib.hid (C0.out.keep hb)
    replace R1 := Lib.hid (R1.out.keep hb)
    replace bel := Lib.hid (Bx.then_below bel.out hb)
    clear hb
    by_cases h2 : c.st < 2
    · have g2 : decide (2 ≤ c.st) = false := by simp; omega
      by_cases h3 : c.wai ≤ 0
      · have g3 : decide (0 < c.wai) = false := by simp; omega
        replace HE := Lib.hid (HE.out.trans (if_pos ⟨h0, h1, h2, h3⟩))
        clear h0 h1
        have C0_14 := C0.out.at 14 rfl
        have C0_25 := C0.out.at 25 rfl
        have hw : IntKind.i64.wrap (c.st + 1) = c.st + 1 := by rw [IntKind.wrap_i64]; omega
        go_upto_region 3 with fail
        clear C0_14 C0_25
        have C0_14 := C0.out.at 14 rfl
        have C0f14 := C0.out.2.2 14
        replace R1 := Lib.hid (R1.out.other (k' := w.heap.size) (o := 14) (x := .int .i64 (c.st + 1)) (by omega))
        replace bel := Lib.hid (Bx.bel_set (k := w.heap.size) (o := 14) (x := .int .i64 (c.st + 1)) (by omega) bel.out)
        replace C0 := Lib.hid ((C0.out.set (14) (.int .i64 (c.st + 1))).of (m := (cdl { c with st := c.st + 1 })) (by first | rfl | simp [enc, tenc]))
        go_upto_region 4 with fail
        clear C0_14 C0f14
        generalize (w1.setCell ⟨w.heap.size, 14, none⟩ (.int .i64 (c.st + 1))) = W3 at *
        have C0_22 := C0.out.at 22 rfl
        have C0f22 := C0.out.2.2 22
        replace R1 := Lib.hid (R1.out.other (k' := w.heap.size) (o := 22) (x := .bool true) (by omega))
        replace bel := Lib.hid (Bx.bel_set (k := w.heap.size) (o := 22) (x := .bool true) (by omega) bel.out)
        replace C0 := Lib.hid ((C0.out.set (22) (.bool true)).of (m := (cdl { c with st := c.st + 1, tel := true })) (by first | rfl | simp [enc, tenc]))
        go_upto_region 5 with fail
        clear C0_22 C0f22
        generalize (W3.setCell ⟨w.heap.size, 22, none⟩ (.bool true)) = W4 at *
        clear hw
        by_cases h4 : c.st + 1 = 2
        · replace HE := Lib.hid (HE.out.trans (if_pos h4))
          have g4 : (c.st + 1 != 2) = false := by simp [h4]
          clear hs h2 h3 h4
          have C0_14 := C0.out.at 14 rfl
          go_wp2_with (first | ((with_reducible refine cd_store ?_ ?_ (w.heap.size + 1) { c with st := c.st + 1, tel := true } ?_ ?_ (cdl Cd.zero) ?_ ?_ ?_); (· rfl); (· rfl); (· rfl); (· rfl); (· rfl); (· exact R1.out.own)) | ((with_reducible refine cd_load ?_ ?_ (w.heap.size) ?_ { c with st := c.st + 1, tel := true } ?_ ?_); (· rfl); (· rfl); (· rfl); (· exact C0.out.blk)))
          replace C0 := Lib.hid (C0.out.apart_at (k' := w.heap.size + 1) (cdl { c with st := c.st + 1, tel := true }) 0 (by omega))
          replace bel := Lib.hid (Bx.bel_put_at (k := w.heap.size + 1) (cdl { c with st := c.st + 1, tel := true }) 0 (by omega) bel.out)
          replace R1 := Lib.hid (R1.out.full (m := (cdl { c with st := c.st + 1, tel := true })) (rfl))
          exact bodyPost_ret (v := cdv { c with st := c.st + 1, tel := true }) (cd_result Try.results8 rfl R1.out.blk) rfl ⟨by rw [HE.out], bel.out⟩
        · replace HE := Lib.hid (HE.out.trans (if_neg h4))
          have g4 : (c.st + 1 != 2) = true := by simp [h4]
          clear hs h2 h3 h4
          have C0_14 := C0.out.at 14 rfl
          go_upto_region 6 with fail
          clear C0_14
          have C0_12 := C0.out.at 12 rfl
          have C0_25 := C0.out.at 25 rfl
          have C0f25 := C0.out.2.2 25
          replace R1 := Lib.hid (R1.out.other (k' := w.heap.size) (o := 25) (x := .int .i64 c.t.d) (by omega))
          replace bel := Lib.hid (Bx.bel_set (k := w.heap.size) (o := 25) (x := .int .i64 c.t.d) (by omega) bel.out)
          replace C0 := Lib.hid ((C0.out.set (25) (.int .i64 c.t.d)).of (m := (cdl { c with st := c.st + 1, tel := true, wai := c.t.d })) (by first | rfl | simp [enc, tenc]))
          go_upto_region 7 with fail
          clear C0_12 C0_25 C0f25
          generalize (W4.setCell ⟨w.heap.size, 25, none⟩ (.int .i64 c.t.d)) = W6 at *
          go_wp2_with (first | ((with_reducible refine cd_store ?_ ?_ (w.heap.size + 1) { c with st := c.st + 1, tel := true, wai := c.t.d } ?_ ?_ (cdl Cd.zero) ?_ ?_ ?_); (· rfl); (· rfl); (· rfl); (· rfl); (· rfl); (· exact R1.out.own)) | ((with_reducible refine cd_load ?_ ?_ (w.heap.size) ?_ { c with st := c.st + 1, tel := true, wai := c.t.d } ?_ ?_); (· rfl); (· rfl); (· rfl); (· exact C0.out.blk)))
          replace C0 := Lib.hid (C0.out.apart_at (k' := w.heap.size + 1) (cdl { c with st := c.st + 1, tel := true, wai := c.t.d }) 0 (by omega))
          replace bel := Lib.hid (Bx.bel_put_at (k := w.heap.size + 1) (cdl { c with st := c.st + 1, tel := true, wai := c.t.d }) 0 (by omega) bel.out)
          replace R1 := Lib.hid (R1.out.full (m := (cdl { c with st := c.st + 1, tel := true, wai := c.t.d })) (rfl))
          exact bodyPost_ret (v := cdv { c with st := c.st + 1, tel := true, wai := c.t.d }) (cd_result Try.results8 rfl R1.out.blk) rfl ⟨by rw [HE.out], bel.out⟩
      · have g3 : decide (0 < c.wai) = true := by simp; omega
        replace HE := Lib.hid (HE.out.trans (if_neg (fun h => h3 h.2.2.2)))
        clear hs h0 h1 h2 h3
        have C0_14 := C0.out.at 14 rfl
        have C0_25 := C0.out.at 25 rfl
        go_wp2_with (first | ((with_reducible refine cd_store ?_ ?_ (w.heap.size + 1) c ?_ ?_ (cdl Cd.zero) ?_ ?_ ?_); (· rfl); (· rfl); (· rfl); (· rfl); (· rfl); (· exact R1.out.own)) | ((with_reducible refine cd_load ?_ ?_ (w.heap.size) ?_ c ?_ ?_); (· rfl); (· rfl); (· rfl); (· exact C0.out.blk)))
        replace C0 := Lib.hid (C0.out.apart_at (k' := w.heap.size + 1) (cdl c) 0 (by omega))
        replace bel := Lib.hid (Bx.bel_put_at (k := w.heap.size + 1) (cdl c) 0 (by omega) bel.out)
        replace R1 := Lib.hid (R1.out.full (m := (cdl c)) (rfl))
        exact bodyPost_ret (v := cdv c) (cd_result Try.results8 rfl R1.out.blk) rfl ⟨by rw [HE.out], bel.out⟩
    · have g2 : decide (2 ≤ c.st) = true := by simp; omega
      replace HE := Lib.hid (HE.out.trans (if_neg (fun h => h2 h.2.2.1)))
      clear hs h0 h1 h2
      have C0_14 := C0.out.at 14 rfl
      go_wp2_with (first | ((with_reducible refine cd_store ?_ ?_ (w.heap.size + 1) c ?_ ?_ (cdl Cd.zero) ?_ ?_ ?_); (· rfl); (· rfl); (· rfl); (· rfl); (· rfl); (· exact R1.out.own)) | ((with_reducible refine cd_load ?_ ?_ (w.heap.size) ?_ c ?_ ?_); (· rfl); (· rfl); (· rfl); (· exact C0.out.blk)))
      replace C0 := Lib.hid (C0.out.apart_at (k' := w.heap.size + 1) (cdl c) 0 (by omega))
      replace bel := Lib.hid (Bx.bel_put_at (k := w.heap.size + 1) (cdl c) 0 (by omega) bel.out)
      replace R1 := Lib.hid (R1.out.full (m := (cdl c)) (rfl))
      exact bodyPost_ret (v := cdv c) (cd_result Try.results8 rfl R1.out.blk) rfl ⟨by rw [HE.out], bel.out⟩
  · rw [h] at HL
    have h0 : ¬ (c.up = true ∧ c.role = 3) := fun e => by rw [lea_is.2 e] at h; exact absurd h (by decide)
    replace HE := Lib.hid (HE.out.trans (if_neg (fun e => h0 ⟨e.1, e.2.1⟩)))
    clear hs h h0
    go_wp2_with (first | ((with_reducible refine cd_load ?_ ?_ (w.heap.size) ?_ c ?_ ?_); (· rfl); (· rfl); (· rfl); (· exact C0.out.blk)))
    refine (HL.out _).mono ?_; rintro e w1 ⟨rfl, hb⟩
    replace C0 := Lib.hid (C0.out.keep hb)
    replace R1 := Lib.hid (R1.out.keep hb)
    replace bel := Lib.hid (Bx.then_below bel.out hb)
    clear hb
    go_wp2_with (first | ((with_reducible refine cd_store ?_ ?_ (w.heap.size + 1) c ?_ ?_ (cdl Cd.zero) ?_ ?_ ?_); (· rfl); (· rfl); (· rfl); (· rfl); (· rfl); (· exact R1.out.own)) | ((with_reducible refine cd_load ?_ ?_ (w.heap.size) ?_ c ?_ ?_); (· rfl); (· rfl); (· rfl); (· exact C0.out.blk)))
    replace C0 := Lib.hid (C0.out.apart_at (k' := w.heap.size + 1) (cdl c) 0 (by omega))
    replace bel := Lib.hid (Bx.bel_put_at (k := w.heap.size + 1) (cdl c) 0 (by omega) bel.out)
    replace R1 := Lib.hid (R1.out.full (m := (cdl c)) (rfl))
    exact bodyPost_ret (v := cdv c) (cd_result Try.results8 rfl R1.out.blk) rfl ⟨by rw [HE.out], bel.out⟩

set_option maxRecDepth 40000 in
set_option maxHeartbeats 8000000 in
theorem edges_any (c : Cd) (w : World) : Calls Try.prog 10 #[cdv c] w fun e w' => e = .returned (cdv (edgC c)) ∧ Below w.heap.size w w' := by
  have HL := Lib.hid (leads_any c)
  have HE : Hid (edgC c = if c.up = true ∧ c.role = 3 ∧ ¬ c.st = 2 ∧ c.png = true ∧ c.qui = 0 then { c with edge := true } else c) := Lib.hid rfl
  have C0 : Hid (Bx.Fre (w.alloc (cdo c)) w.heap.size (cdl c)) := Lib.hid (Bx.Fre.new w (cdl c) 28)
  have bel := Lib.hid (Bx.box_below w (cdo c))
  replace C0 := Lib.hid (C0.out.more (cdo Cd.zero))
  have R1 : Hid (Bx.Fre ((w.alloc (cdo c)).alloc (cdo Cd.zero)) (w.heap.size + 1) (cdl Cd.zero)) := Lib.hid (Bx.Fre.new_at (W := (w.alloc (cdo c))) (k := w.heap.size + 1) (cdl Cd.zero) 28 (by simp))
  replace bel := Lib.hid (Bx.bel_box bel.out (cdo Cd.zero))
  go_enter Try.func10, Try.ntmps10
  go_upto_region 1 with fail
  generalize ((w.alloc (cdo c)).alloc (cdo Cd.zero)) = W0 at *
  rcases Bool.eq_false_or_eq_true (leaB c) with h | h
  · rw [h] at HL
    obtain ⟨h0, h1⟩ := lea_is.1 h
    clear h
    go_wp2_with (first | ((with_reducible refine cd_load ?_ ?_ (w.heap.size) ?_ c ?_ ?_); (· rfl); (· rfl); (· rfl); (· exact C0.out.blk)))
    refine (HL.out _).mono ?_; rintro e w1 ⟨rfl, hb⟩
    replace C0 := Lib.hid (C0.out.keep hb)
    replace R1 := Lib.hid (R1.out.keep hb)
    replace bel := Lib.hid (Bx.then_below bel.out hb)
    clear hb
    have C0_14 := C0.out.at 14 rfl
    have C0_17 := C0.out.at 17 rfl
    have C0_28 := C0.out.at 28 rfl
    by_cases h2 : c.st = 2
    · have g2 : (c.st != 2) = false := by simp [h2]
      replace HE := Lib.hid (HE.out.trans (if_neg (fun h => h.2.2.1 h2)))
      clear h0 h1 h2
      go_wp2_with (first | ((with_reducible refine cd_store ?_ ?_ (w.heap.size + 1) c ?_ ?_ (cdl Cd.zero) ?_ ?_ ?_); (· rfl); (· rfl); (· rfl); (· rfl); (· rfl); (· exact R1.out.own)) | ((with_reducible refine cd_load ?_ ?_ (w.heap.size) ?_ c ?_ ?_); (· rfl); (· rfl); (· rfl); (· exact C0.out.blk)))
      replace C0 := Lib.hid (C0.out.apart_at (k' := w.heap.size + 1) (cdl c) 0 (by omega))
      replace bel := Lib.hid (Bx.bel_put_at (k := w.heap.size + 1) (cdl c) 0 (by omega) bel.out)
      replace R1 := Lib.hid (R1.out.full (m := (cdl c)) (rfl))
      exact bodyPost_ret (v := cdv c) (cd_result Try.results10 rfl R1.out.blk) rfl ⟨by rw [HE.out], bel.out⟩
    · have g2 : (c.st != 2) = true := by simp [h2]
      rcases Bool.eq_false_or_eq_true c.png with h3 | h3
      · rw [h3] at C0_17
        by_cases h4 : c.qui = 0
        · have g4 : (c.qui == 0) = true := by simp [h4]
          replace HE := Lib.hid (HE.out.trans (if_pos ⟨h0, h1, h2, h3, h4⟩))
          clear h0 h1 h2 h3 h4
          go_upto_region 2 with fail
          clear C0_14 C0_17 C0_28
          have C0_2 := C0.out.at 2 rfl
          have C0f2 := C0.out.2.2 2
          replace R1 := Lib.hid (R1.out.other (k' := w.heap.size) (o := 2) (x := .bool true) (by omega))
          replace bel := Lib.hid (Bx.bel_set (k := w.heap.size) (o := 2) (x := .bool true) (by omega) bel.out)
          replace C0 := Lib.hid ((C0.out.set (2) (.bool true)).of (m := (cdl { c with edge := true })) (by first | rfl | simp [enc, tenc]))
          go_upto_region 3 with fail
          clear C0_2 C0f2
          generalize (w1.setCell ⟨w.heap.size, 2, none⟩ (.bool true)) = W2 at *
          go_wp2_with (first | ((with_reducible refine cd_store ?_ ?_ (w.heap.size + 1) { c with edge := true } ?_ ?_ (cdl Cd.zero) ?_ ?_ ?_); (· rfl); (· rfl); (· rfl); (· rfl); (· rfl); (· exact R1.out.own)) | ((with_reducible refine cd_load ?_ ?_ (w.heap.size) ?_ { c with edge := true } ?_ ?_); (· rfl); (· rfl); (· rfl); (· exact C0.out.blk)))
          replace C0 := Lib.hid (C0.out.apart_at (k' := w.heap.size + 1) (cdl { c with edge := true }) 0 (by omega))
          replace bel := Lib.hid (Bx.bel_put_at (k := w.heap.size + 1) (cdl { c with edge := true }) 0 (by omega) bel.out)
          replace R1 := Lib.hid (R1.out.full (m := (cdl { c with edge := true })) (rfl))
          exact bodyPost_ret (v := cdv { c with edge := true }) (cd_result Try.results10 rfl R1.out.blk) rfl ⟨by rw [HE.out], bel.out⟩
        · have g4 : (c.qui == 0) = false := by simp [h4]
          replace HE := Lib.hid (HE.out.trans (if_neg (fun h => h4 h.2.2.2.2)))
          clear h0 h1 h2 h3 h4
          go_wp2_with (first | ((with_reducible refine cd_store ?_ ?_ (w.heap.size + 1) c ?_ ?_ (cdl Cd.zero) ?_ ?_ ?_); (· rfl); (· rfl); (· rfl); (· rfl); (· rfl); (· exact R1.out.own)) | ((with_reducible refine cd_load ?_ ?_ (w.heap.size) ?_ c ?_ ?_); (· rfl); (· rfl); (· rfl); (· exact C0.out.blk)))
          replace C0 := Lib.hid (C0.out.apart_at (k' := w.heap.size + 1) (cdl c) 0 (by omega))
          replace bel := Lib.hid (Bx.bel_put_at (k := w.heap.size + 1) (cdl c) 0 (by omega) bel.out)
          replace R1 := Lib.hid (R1.out.full (m := (cdl c)) (rfl))
          exact bodyPost_ret (v := cdv c) (cd_result Try.results10 rfl R1.out.blk) rfl ⟨by rw [HE.out], bel.out⟩
      · rw [h3] at C0_17
        replace HE := Lib.hid (HE.out.trans (if_neg (fun h => by rw [h.2.2.2.1] at h3; exact absurd h3 (by decide))))
        clear h0 h1 h2 h3
        go_wp2_with (first | ((with_reducible refine cd_store ?_ ?_ (w.heap.size + 1) c ?_ ?_ (cdl Cd.zero) ?_ ?_ ?_); (· rfl); (· rfl); (· rfl); (· rfl); (· rfl); (· exact R1.out.own)) | ((with_reducible refine cd_load ?_ ?_ (w.heap.size) ?_ c ?_ ?_); (· rfl); (· rfl); (· rfl); (· exact C0.out.blk)))
        replace C0 := Lib.hid (C0.out.apart_at (k' := w.heap.size + 1) (cdl c) 0 (by omega))
        replace bel := Lib.hid (Bx.bel_put_at (k := w.heap.size + 1) (cdl c) 0 (by omega) bel.out)
        replace R1 := Lib.hid (R1.out.full (m := (cdl c)) (rfl))
        exact bodyPost_ret (v := cdv c) (cd_result Try.results10 rfl R1.out.blk) rfl ⟨by rw [HE.out], bel.out⟩
  · rw [h] at HL
    have h0 : ¬ (c.up = true ∧ c.role = 3) := fun e => by rw [lea_is.2 e] at h; exact absurd h (by decide)
    replace HE := Lib.hid (HE.out.trans (if_neg (fun e => h0 ⟨e.1, e.2.1⟩)))
    clear h h0
    go_wp2_with (first | ((with_reducible refine cd_load ?_ ?_ (w.heap.size) ?_ c ?_ ?_); (· rfl); (· rfl); (· rfl); (· exact C0.out.blk)))
    refine (HL.out _).mono ?_; rintro e w1 ⟨rfl, hb⟩
    replace C0 := Lib.hid (C0.out.keep hb)
    replace R1 := Lib.hid (R1.out.keep hb)
    replace bel := Lib.hid (Bx.then_below bel.out hb)
    clear hb
    go_wp2_with (first | ((with_reducible refine cd_store ?_ ?_ (w.heap.size + 1) c ?_ ?_ (cdl Cd.zero) ?_ ?_ ?_); (· rfl); (· rfl); (· rfl); (· rfl); (· rfl); (· exact R1.out.own)) | ((with_reducible refine cd_load ?_ ?_ (w.heap.size) ?_ c ?_ ?_); (· rfl); (· rfl); (· rfl); (· exact C0.out.blk)))
    replace C0 := Lib.hid (C0.out.apart_at (k' := w.heap.size + 1) (cdl c) 0 (by omega))
    replace bel := Lib.hid (Bx.bel_put_at (k := w.heap.size + 1) (cdl c) 0 (by omega) bel.out)
    replace R1 := Lib.hid (R1.out.full (m := (cdl c)) (rfl))
    exact bodyPost_ret (v := cdv c) (cd_result Try.results10 rfl R1.out.blk) rfl ⟨by rw [HE.out], bel.out⟩

set_option maxRecDepth 40000 in
set_option maxHeartbeats 8000000 in
theorem rmoves_any (c : Cd) (hs : -9223372036854775808 ≤ c.st) (w : World) : Calls Try.prog 9 #[cdv c] w fun e w' => e = .returned (cdv (movC c)) ∧ Below w.heap.size w w' := by
  have HE : Hid (movC c = if c.up = true ∧ c.role = 3 ∧ c.st < 2 ∧ c.wai ≤ 0 then (if c.st + 1 = 2 then { c with st := c.st + 1, tel := true } else { c with st := c.st + 1, tel := true, wai := c.t.d }) else c) := Lib.hid rfl
  have C0 : Hid (Bx.Fre (w.alloc (cdo c)) w.heap.size (cdl c)) := Lib.hid (Bx.Fre.new w (cdl c) 28)
  have bel := Lib.hid (Bx.box_below w (cdo c))
  replace C0 := Lib.hid (C0.out.more (cdo Cd.zero))
  have R1 : Hid (Bx.Fre ((w.alloc (cdo c)).alloc (cdo Cd.zero)) (w.heap.size + 1) (cdl Cd.zero)) := Lib.hid (Bx.Fre.new_at (W := (w.alloc (cdo c))) (k := w.heap.size + 1) (cdl Cd.zero) 28 (by simp))
  replace bel := Lib.hid (Bx.bel_box bel.out (cdo Cd.zero))
  go_enter Try.func9, Try.ntmps9
  go_upto_region 1 with fail
  generalize ((w.alloc (cdo c)).alloc (cdo Cd.zero)) = W0 at *
  have C0_0 := C0.out.at 0 rfl
  have C0_13 := C0.out.at 13 rfl
  have C0_14 := C0.out.at 14 rfl
  have C0_25 := C0.out.at 25 rfl
  rcases Bool.eq_false_or_eq_true c.up with h0 | h0
  · rw [h0] at C0_0
    by_cases h1 : c.role = 3
    · have g1 : (c.role != 3) = false := by simp [h1]
      by_cases h3 : c.wai ≤ 0
      · have g3 : decide (0 < c.wai) = false := by simp; omega
        by_cases h2 : c.st < 2
        · have g2 : decide (2 ≤ c.st) = false := by simp; omega
          replace HE := Lib.hid (HE.out.trans (if_pos ⟨h0, h1, h2, h3⟩))
          clear h0 h1
          have hw : IntKind.i64.wrap (c.st + 1) = c.st + 1 := by rw [IntKind.wrap_i64]; omega
          go_upto_region 3 with fail
          clear C0_0 C0_13 C0_14 C0_25
          have C0_14 := C0.out.at 14 rfl
          have C0f14 := C0.out.2.2 14
          replace R1 := Lib.hid (R1.out.other (k' := w.heap.size) (o := 14) (x := .int .i64 (c.st + 1)) (by omega))
          replace bel := Lib.hid (Bx.bel_set (k := w.heap.size) (o := 14) (x := .int .i64 (c.st + 1)) (by omega) bel.out)
          replace C0 := Lib.hid ((C0.out.set (14) (.int .i64 (c.st + 1))).of (m := (cdl { c with st := c.st + 1 })) (by first | rfl | simp [enc, tenc]))
          go_upto_region 4 with fail
          clear C0_14 C0f14
          generalize (W0.setCell ⟨w.heap.size, 14, none⟩ (.int .i64 (c.st + 1))) = W3 at *
          have C0_22 := C0.out.at 22 rfl
          have C0f22 := C0.out.2.2 22
          replace R1 := Lib.hid (R1.out.other (k' := w.heap.size) (o := 22) (x := .bool true) (by omega))
          replace bel := Lib.hid (Bx.bel_set (k := w.heap.size) (o := 22) (x := .bool true) (by omega) bel.out)
          replace C0 := Lib.hid ((C0.out.set (22) (.bool true)).of (m := (cdl { c with st := c.st + 1, tel := true })) (by first | rfl | simp [enc, tenc]))
          go_upto_region 5 with fail
          clear C0_22 C0f22
          generalize (W3.setCell ⟨w.heap.size, 22, none⟩ (.bool true)) = W4 at *
          clear hw
          by_cases h4 : c.st + 1 = 2
          · replace HE := Lib.hid (HE.out.trans (if_pos h4))
            have g4 : decide (c.st + 1 < 2) = false := by simp [h4]
            clear hs h2 h3 h4
            have C0_14 := C0.out.at 14 rfl
            go_wp2_with (first | ((with_reducible refine cd_store ?_ ?_ (w.heap.size + 1) { c with st := c.st + 1, tel := true } ?_ ?_ (cdl Cd.zero) ?_ ?_ ?_); (· rfl); (· rfl); (· rfl); (· rfl); (· rfl); (· exact R1.out.own)) | ((with_reducible refine cd_load ?_ ?_ (w.heap.size) ?_ { c with st := c.st + 1, tel := true } ?_ ?_); (· rfl); (· rfl); (· rfl); (· exact C0.out.blk)))
            replace C0 := Lib.hid (C0.out.apart_at (k' := w.heap.size + 1) (cdl { c with st := c.st + 1, tel := true }) 0 (by omega))
            replace bel := Lib.hid (Bx.bel_put_at (k := w.heap.size + 1) (cdl { c with st := c.st + 1, tel := true }) 0 (by omega) bel.out)
            replace R1 := Lib.hid (R1.out.full (m := (cdl { c with st := c.st + 1, tel := true })) (rfl))
            exact bodyPost_ret (v := cdv { c with st := c.st + 1, tel := true }) (cd_result Try.results9 rfl R1.out.blk) rfl ⟨by rw [HE.out], bel.out⟩
          · replace HE := Lib.hid (HE.out.trans (if_neg h4))
            have g4 : decide (c.st + 1 < 2) = true := by rw [decide_eq_true_eq]; omega
            clear hs h2 h3 h4
            have C0_14 := C0.out.at 14 rfl
            go_upto_region 6 with fail
            clear C0_14
            have C0_12 := C0.out.at 12 rfl
            have C0_25 := C0.out.at 25 rfl
            have C0f25 := C0.out.2.2 25
            replace R1 := Lib.hid (R1.out.other (k' := w.heap.size) (o := 25) (x := .int .i64 c.t.d) (by omega))
            replace bel := Lib.hid (Bx.bel_set (k := w.heap.size) (o := 25) (x := .int .i64 c.t.d) (by omega) bel.out)
            replace C0 := Lib.hid ((C0.out.set (25) (.int .i64 c.t.d)).of (m := (cdl { c with st := c.st + 1, tel := true, wai := c.t.d })) (by first | rfl | simp [enc, tenc]))
            go_upto_region 7 with fail
            clear C0_12 C0_25 C0f25
            generalize (W4.setCell ⟨w.heap.size, 25, none⟩ (.int .i64 c.t.d)) = W6 at *
            go_wp2_with (first | ((with_reducible refine cd_store ?_ ?_ (w.heap.size + 1) { c with st := c.st + 1, tel := true, wai := c.t.d } ?_ ?_ (cdl Cd.zero) ?_ ?_ ?_); (· rfl); (· rfl); (· rfl); (· rfl); (· rfl); (· exact R1.out.own)) | ((with_reducible refine cd_load ?_ ?_ (w.heap.size) ?_ { c with st := c.st + 1, tel := true, wai := c.t.d } ?_ ?_); (· rfl); (· rfl); (· rfl); (· exact C0.out.blk)))
            replace C0 := Lib.hid (C0.out.apart_at (k' := w.heap.size + 1) (cdl { c with st := c.st + 1, tel := true, wai := c.t.d }) 0 (by omega))
            replace bel := Lib.hid (Bx.bel_put_at (k := w.heap.size + 1) (cdl { c with st := c.st + 1, tel := true, wai := c.t.d }) 0 (by omega) bel.out)
            replace R1 := Lib.hid (R1.out.full (m := (cdl { c with st := c.st + 1, tel := true, wai := c.t.d })) (rfl))
            exact bodyPost_ret (v := cdv { c with st := c.st + 1, tel := true, wai := c.t.d }) (cd_result Try.results9 rfl R1.out.blk) rfl ⟨by rw [HE.out], bel.out⟩
        · have g2 : decide (2 ≤ c.st) = true := by simp; omega
          replace HE := Lib.hid (HE.out.trans (if_neg (fun h => h2 h.2.2.1)))
          clear hs h0 h1 h2 h3
          go_wp2_with (first | ((with_reducible refine cd_store ?_ ?_ (w.heap.size + 1) c ?_ ?_ (cdl Cd.zero) ?_ ?_ ?_); (· rfl); (· rfl); (· rfl); (· rfl); (· rfl); (· exact R1.out.own)) | ((with_reducible refine cd_load ?_ ?_ (w.heap.size) ?_ c ?_ ?_); (· rfl); (· rfl); (· rfl); (· exact C0.out.blk)))
          replace C0 := Lib.hid (C0.out.apart_at (k' := w.heap.size + 1) (cdl c) 0 (by omega))
          replace bel := Lib.hid (Bx.bel_put_at (k := w.heap.size + 1) (cdl c) 0 (by omega) bel.out)
          replace R1 := Lib.hid (R1.out.full (m := (cdl c)) (rfl))
          exact bodyPost_ret (v := cdv c) (cd_result Try.results9 rfl R1.out.blk) rfl ⟨by rw [HE.out], bel.out⟩
      · have g3 : decide (0 < c.wai) = true := by simp; omega
        replace HE := Lib.hid (HE.out.trans (if_neg (fun h => h3 h.2.2.2)))
        clear hs h0 h1 h3
        go_wp2_with (first | ((with_reducible refine cd_store ?_ ?_ (w.heap.size + 1) c ?_ ?_ (cdl Cd.zero) ?_ ?_ ?_); (· rfl); (· rfl); (· rfl); (· rfl); (· rfl); (· exact R1.out.own)) | ((with_reducible refine cd_load ?_ ?_ (w.heap.size) ?_ c ?_ ?_); (· rfl); (· rfl); (· rfl); (· exact C0.out.blk)))
        replace C0 := Lib.hid (C0.out.apart_at (k' := w.heap.size + 1) (cdl c) 0 (by omega))
        replace bel := Lib.hid (Bx.bel_put_at (k := w.heap.size + 1) (cdl c) 0 (by omega) bel.out)
        replace R1 := Lib.hid (R1.out.full (m := (cdl c)) (rfl))
        exact bodyPost_ret (v := cdv c) (cd_result Try.results9 rfl R1.out.blk) rfl ⟨by rw [HE.out], bel.out⟩
    · have g1 : (c.role != 3) = true := by simp [h1]
      replace HE := Lib.hid (HE.out.trans (if_neg (fun h => h1 h.2.1)))
      clear hs h0 h1
      go_wp2_with (first | ((with_reducible refine cd_store ?_ ?_ (w.heap.size + 1) c ?_ ?_ (cdl Cd.zero) ?_ ?_ ?_); (· rfl); (· rfl); (· rfl); (· rfl); (· rfl); (· exact R1.out.own)) | ((with_reducible refine cd_load ?_ ?_ (w.heap.size) ?_ c ?_ ?_); (· rfl); (· rfl); (· rfl); (· exact C0.out.blk)))
      replace C0 := Lib.hid (C0.out.apart_at (k' := w.heap.size + 1) (cdl c) 0 (by omega))
      replace bel := Lib.hid (Bx.bel_put_at (k := w.heap.size + 1) (cdl c) 0 (by omega) bel.out)
      replace R1 := Lib.hid (R1.out.full (m := (cdl c)) (rfl))
      exact bodyPost_ret (v := cdv c) (cd_result Try.results9 rfl R1.out.blk) rfl ⟨by rw [HE.out], bel.out⟩
  · rw [h0] at C0_0
    replace HE := Lib.hid (HE.out.trans (if_neg (fun h => by rw [h.1] at h0; exact absurd h0 (by decide))))
    clear hs h0
    go_wp2_with (first | ((with_reducible refine cd_store ?_ ?_ (w.heap.size + 1) c ?_ ?_ (cdl Cd.zero) ?_ ?_ ?_); (· rfl); (· rfl); (· rfl); (· rfl); (· rfl); (· exact R1.out.own)) | ((with_reducible refine cd_load ?_ ?_ (w.heap.size) ?_ c ?_ ?_); (· rfl); (· rfl); (· rfl); (· exact C0.out.blk)))
    replace C0 := Lib.hid (C0.out.apart_at (k' := w.heap.size + 1) (cdl c) 0 (by omega))
    replace bel := Lib.hid (Bx.bel_put_at (k := w.heap.size + 1) (cdl c) 0 (by omega) bel.out)
    replace R1 := Lib.hid (R1.out.full (m := (cdl c)) (rfl))
    exact bodyPost_ret (v := cdv c) (cd_result Try.results9 rfl R1.out.blk) rfl ⟨by rw [HE.out], bel.out⟩

set_option maxRecDepth 40000 in
set_option maxHeartbeats 8000000 in
theorem redges_any (c : Cd) (w : World) : Calls Try.prog 11 #[cdv c] w fun e w' => e = .returned (cdv (edgC c)) ∧ Below w.heap.size w w' := by
  have HE : Hid (edgC c = if c.up = true ∧ c.role = 3 ∧ ¬ c.st = 2 ∧ c.png = true ∧ c.qui = 0 then { c with edge := true } else c) := Lib.hid rfl
  have C0 : Hid (Bx.Fre (w.alloc (cdo c)) w.heap.size (cdl c)) := Lib.hid (Bx.Fre.new w (cdl c) 28)
  have bel := Lib.hid (Bx.box_below w (cdo c))
  replace C0 := Lib.hid (C0.out.more (cdo Cd.zero))
  have R1 : Hid (Bx.Fre ((w.alloc (cdo c)).alloc (cdo Cd.zero)) (w.heap.size + 1) (cdl Cd.zero)) := Lib.hid (Bx.Fre.new_at (W := (w.alloc (cdo c))) (k := w.heap.size + 1) (cdl Cd.zero) 28 (by simp))
  replace bel := Lib.hid (Bx.bel_box bel.out (cdo Cd.zero))
  go_enter Try.func11, Try.ntmps11
  go_upto_region 1 with fail
  generalize ((w.alloc (cdo c)).alloc (cdo Cd.zero)) = W0 at *
  have C0_0 := C0.out.at 0 rfl
  have C0_13 := C0.out.at 13 rfl
  have C0_28 := C0.out.at 28 rfl
  have C0_17 := C0.out.at 17 rfl
  have C0_14 := C0.out.at 14 rfl
  rcases Bool.eq_false_or_eq_true c.up with h0 | h0
  · rw [h0] at C0_0
    by_cases h1 : c.role = 3
    · have g1 : (c.role == 3) = true := by simp [h1]
      by_cases h4 : c.qui = 0
      · have g4 : (c.qui == 0) = true := by simp [h4]
        rcases Bool.eq_false_or_eq_true c.png with h3 | h3
        · rw [h3] at C0_17
          by_cases h2 : c.st = 2
          · have g2 : (c.st != 2) = false := by simp [h2]
            replace HE := Lib.hid (HE.out.trans (if_neg (fun h => h.2.2.1 h2)))
            clear h0 h1 h2 h3 h4
            go_wp2_with (first | ((with_reducible refine cd_store ?_ ?_ (w.heap.size + 1) c ?_ ?_ (cdl Cd.zero) ?_ ?_ ?_); (· rfl); (· rfl); (· rfl); (· rfl); (· rfl); (· exact R1.out.own)) | ((with_reducible refine cd_load ?_ ?_ (w.heap.size) ?_ c ?_ ?_); (· rfl); (· rfl); (· rfl); (· exact C0.out.blk)))
            replace C0 := Lib.hid (C0.out.apart_at (k' := w.heap.size + 1) (cdl c) 0 (by omega))
            replace bel := Lib.hid (Bx.bel_put_at (k := w.heap.size + 1) (cdl c) 0 (by omega) bel.out)
            replace R1 := Lib.hid (R1.out.full (m := (cdl c)) (rfl))
            exact bodyPost_ret (v := cdv c) (cd_result Try.results11 rfl R1.out.blk) rfl ⟨by rw [HE.out], bel.out⟩
          · have g2 : (c.st != 2) = true := by simp [h2]
            replace HE := Lib.hid (HE.out.trans (if_pos ⟨h0, h1, h2, h3, h4⟩))
            clear h0 h1 h2 h3 h4
            go_upto_region 2 with fail
            clear C0_0 C0_13 C0_28 C0_17 C0_14
            have C0_2 := C0.out.at 2 rfl
            have C0f2 := C0.out.2.2 2
            replace R1 := Lib.hid (R1.out.other (k' := w.heap.size) (o := 2) (x := .bool true) (by omega))
            replace bel := Lib.hid (Bx.bel_set (k := w.heap.size) (o := 2) (x := .bool true) (by omega) bel.out)
            replace C0 := Lib.hid ((C0.out.set (2) (.bool true)).of (m := (cdl { c with edge := true })) (by first | rfl | simp [enc, tenc]))
            go_upto_region 3 with fail
            clear C0_2 C0f2
            generalize (W0.setCell ⟨w.heap.size, 2, none⟩ (.bool true)) = W2 at *
            go_wp2_with (first | ((with_reducible refine cd_store ?_ ?_ (w.heap.size + 1) { c with edge := true } ?_ ?_ (cdl Cd.zero) ?_ ?_ ?_); (· rfl); (· rfl); (· rfl); (· rfl); (· rfl); (· exact R1.out.own)) | ((with_reducible refine cd_load ?_ ?_ (w.heap.size) ?_ { c with edge := true } ?_ ?_); (· rfl); (· rfl); (· rfl); (· exact C0.out.blk)))
            replace C0 := Lib.hid (C0.out.apart_at (k' := w.heap.size + 1) (cdl { c with edge := true }) 0 (by omega))
            replace bel := Lib.hid (Bx.bel_put_at (k := w.heap.size + 1) (cdl { c with edge := true }) 0 (by omega) bel.out)
            replace R1 := Lib.hid (R1.out.full (m := (cdl { c with edge := true })) (rfl))
            exact bodyPost_ret (v := cdv { c with edge := true }) (cd_result Try.results11 rfl R1.out.blk) rfl ⟨by rw [HE.out], bel.out⟩
        · rw [h3] at C0_17
          replace HE := Lib.hid (HE.out.trans (if_neg (fun h => by rw [h.2.2.2.1] at h3; exact absurd h3 (by decide))))
          clear h0 h1 h3 h4
          go_wp2_with (first | ((with_reducible refine cd_store ?_ ?_ (w.heap.size + 1) c ?_ ?_ (cdl Cd.zero) ?_ ?_ ?_); (· rfl); (· rfl); (· rfl); (· rfl); (· rfl); (· exact R1.out.own)) | ((with_reducible refine cd_load ?_ ?_ (w.heap.size) ?_ c ?_ ?_); (· rfl); (· rfl); (· rfl); (· exact C0.out.blk)))
          replace C0 := Lib.hid (C0.out.apart_at (k' := w.heap.size + 1) (cdl c) 0 (by omega))
          replace bel := Lib.hid (Bx.bel_put_at (k := w.heap.size + 1) (cdl c) 0 (by omega) bel.out)
          replace R1 := Lib.hid (R1.out.full (m := (cdl c)) (rfl))
          exact bodyPost_ret (v := cdv c) (cd_result Try.results11 rfl R1.out.blk) rfl ⟨by rw [HE.out], bel.out⟩
      · have g4 : (c.qui == 0) = false := by simp [h4]
        replace HE := Lib.hid (HE.out.trans (if_neg (fun h => h4 h.2.2.2.2)))
        clear h0 h1 h4
        go_wp2_with (first | ((with_reducible refine cd_store ?_ ?_ (w.heap.size + 1) c ?_ ?_ (cdl Cd.zero) ?_ ?_ ?_); (· rfl); (· rfl); (· rfl); (· rfl); (· rfl); (· exact R1.out.own)) | ((with_reducible refine cd_load ?_ ?_ (w.heap.size) ?_ c ?_ ?_); (· rfl); (· rfl); (· rfl); (· exact C0.out.blk)))
        replace C0 := Lib.hid (C0.out.apart_at (k' := w.heap.size + 1) (cdl c) 0 (by omega))
        replace bel := Lib.hid (Bx.bel_put_at (k := w.heap.size + 1) (cdl c) 0 (by omega) bel.out)
        replace R1 := Lib.hid (R1.out.full (m := (cdl c)) (rfl))
        exact bodyPost_ret (v := cdv c) (cd_result Try.results11 rfl R1.out.blk) rfl ⟨by rw [HE.out], bel.out⟩
    · have g1 : (c.role == 3) = false := by simp [h1]
      replace HE := Lib.hid (HE.out.trans (if_neg (fun h => h1 h.2.1)))
      clear h0 h1
      go_wp2_with (first | ((with_reducible refine cd_store ?_ ?_ (w.heap.size + 1) c ?_ ?_ (cdl Cd.zero) ?_ ?_ ?_); (· rfl); (· rfl); (· rfl); (· rfl); (· rfl); (· exact R1.out.own)) | ((with_reducible refine cd_load ?_ ?_ (w.heap.size) ?_ c ?_ ?_); (· rfl); (· rfl); (· rfl); (· exact C0.out.blk)))
      replace C0 := Lib.hid (C0.out.apart_at (k' := w.heap.size + 1) (cdl c) 0 (by omega))
      replace bel := Lib.hid (Bx.bel_put_at (k := w.heap.size + 1) (cdl c) 0 (by omega) bel.out)
      replace R1 := Lib.hid (R1.out.full (m := (cdl c)) (rfl))
      exact bodyPost_ret (v := cdv c) (cd_result Try.results11 rfl R1.out.blk) rfl ⟨by rw [HE.out], bel.out⟩
  · rw [h0] at C0_0
    replace HE := Lib.hid (HE.out.trans (if_neg (fun h => by rw [h.1] at h0; exact absurd h0 (by decide))))
    clear h0
    go_wp2_with (first | ((with_reducible refine cd_store ?_ ?_ (w.heap.size + 1) c ?_ ?_ (cdl Cd.zero) ?_ ?_ ?_); (· rfl); (· rfl); (· rfl); (· rfl); (· rfl); (· exact R1.out.own)) | ((with_reducible refine cd_load ?_ ?_ (w.heap.size) ?_ c ?_ ?_); (· rfl); (· rfl); (· rfl); (· exact C0.out.blk)))
    replace C0 := Lib.hid (C0.out.apart_at (k' := w.heap.size + 1) (cdl c) 0 (by omega))
    replace bel := Lib.hid (Bx.bel_put_at (k := w.heap.size + 1) (cdl c) 0 (by omega) bel.out)
    replace R1 := Lib.hid (R1.out.full (m := (cdl c)) (rfl))
    exact bodyPost_ret (v := cdv c) (cd_result Try.results11 rfl R1.out.blk) rfl ⟨by rw [HE.out], bel.out⟩

end Clk
end Go.Proofs.Ytakbmdamegjdeaa
