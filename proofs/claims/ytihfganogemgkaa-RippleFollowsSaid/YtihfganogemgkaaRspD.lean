/-
  What Receive answers.
-/
import Derived.Test.YtihfganogemgkaaRspC
namespace Go.Proofs.Ytihfganogemgkaa
open Go.RowKit
namespace Rsp
open Pre Crd

set_option maxRecDepth 40000 in
set_option maxHeartbeats 8000000 in
theorem recv1ft (c x : Cd) (b : Bd) (HS : Hid (∀ w, Calls Try.prog 27 #[cdv c, bdv b] w fun e w' => e = .returned (.int .i64 1) ∧ Below w.heap.size w w')) (HA : Hid (∀ w, Calls Try.prog 28 #[cdv c, bdv b] w fun e w' => e = .returned (cdv x) ∧ Below w.heap.size w w')) (hp : x.prd = false) (HR : Hid (∀ w, Calls Try.prog 29 #[bdv b] w fun e w' => e = .returned (.bool true) ∧ Below w.heap.size w w')) (g : Int) (HG : Hid (∀ w, Calls Try.prog 30 #[bdv b] w fun e w' => e = .returned (.int .i64 g) ∧ Below w.heap.size w w')) (w : World) : Calls Try.prog 16 #[cdv c, bdv b] w fun e w' => e = .returned (.tuple #[cdv { x with prd := b.pr, hrd := g }, .int .i64 1]) ∧ Below w.heap.size w w' := by
  have B0 := Lib.hid (((Bx.Fre.new w (cdl c) 28).more (bdo b)).more (cdo Cd.zero))
  have B1 := Lib.hid ((Bx.Fre.new_at (W := w.alloc (cdo c)) (k := w.heap.size + 1) (bdl b) 49 (by simp)).more (cdo Cd.zero))
  have R0 := Lib.hid (Bx.Fre.new_at (W := (w.alloc (cdo c)).alloc (bdo b)) (k := w.heap.size + 1 + 1) (cdl Cd.zero) 28 (by simp))
  have bel := Lib.hid (Bx.bel_box (Bx.bel_box (Bx.box_below w (cdo c)) (bdo b)) (cdo Cd.zero))
  have hp' := Lib.hid hp
  clear hp
  go_enter Try.func16, Try.ntmps16
  go_wp2_with (first | ((with_reducible refine cd_load ?_ ?_ (w.heap.size) ?_ c ?_ ?_); (· rfl); (· rfl); (· rfl); (· exact B0.out.blk)) | ((with_reducible refine bd_load ?_ ?_ (w.heap.size + 1) ?_ b ?_ ?_); (· rfl); (· rfl); (· rfl); (· exact B1.out.blk)))
  refine (HS.out _).mono ?_; rintro e w1 ⟨rfl, hb⟩
  replace B0 := Lib.hid (B0.out.keep hb)
  replace B1 := Lib.hid (B1.out.keep hb)
  replace R0 := Lib.hid (R0.out.keep hb)
  replace bel := Lib.hid (Bx.then_below bel.out hb)
  clear hb
  go_wp2_with (first | ((with_reducible refine cd_load ?_ ?_ (w.heap.size) ?_ c ?_ ?_); (· rfl); (· rfl); (· rfl); (· exact B0.out.blk)) | ((with_reducible refine bd_load ?_ ?_ (w.heap.size + 1) ?_ b ?_ ?_); (· rfl); (· rfl); (· rfl); (· exact B1.out.blk)))
  refine (HA.out _).mono ?_; rintro e w2 ⟨rfl, hb⟩
  replace B0 := Lib.hid (B0.out.keep hb)
  replace B1 := Lib.hid (B1.out.keep hb)
  replace R0 := Lib.hid (R0.out.keep hb)
  replace bel := Lib.hid (Bx.then_below bel.out hb)
  clear hb
  have O0 := Lib.hid B0.out.own
  replace B1 := Lib.hid (B1.out.apart_at (k' := w.heap.size) (cdl x) 0 (by omega))
  replace R0 := Lib.hid (R0.out.apart_at (k' := w.heap.size) (cdl x) 0 (by omega))
  replace bel := Lib.hid (Bx.bel_put_at (k := w.heap.size) (cdl x) 0 (Nat.le_refl _) bel.out)
  replace B0 := Lib.hid (B0.out.full (m := cdl x) rfl)
  have a18 := B0.out.at 18 rfl
  have f18 := B0.out.2.2 18
  rw [hp'.out] at a18
  go_wp2_with (first | ((with_reducible refine cd_load ?_ ?_ (w.heap.size) ?_ x ?_ ?_); (· rfl); (· rfl); (· rfl); (· exact B0.out.blk)) | ((with_reducible refine bd_load ?_ ?_ (w.heap.size + 1) ?_ b ?_ ?_); (· rfl); (· rfl); (· rfl); (· exact B1.out.blk)) | ((with_reducible refine cd_store ?_ ?_ (w.heap.size) x ?_ ?_ (cdl c) ?_ ?_ ?_); (· rfl); (· rfl); (· rfl); (· rfl); (· rfl); (· exact O0.out)))
  clear a18 f18
  clear O0
  refine (HR.out _).mono ?_; rintro e w3 ⟨rfl, hb⟩
  replace B0 := Lib.hid (B0.out.keep hb)
  replace B1 := Lib.hid (B1.out.keep hb)
  replace R0 := Lib.hid (R0.out.keep hb)
  replace bel := Lib.hid (Bx.then_below bel.out hb)
  clear hb
  have a18 := B0.out.at 18 rfl
  have f18 := B0.out.2.2 18
  have b2 := B1.out.at 2 rfl
  replace B1 := Lib.hid (B1.out.other (k' := w.heap.size) (o := 18) (x := .bool b.pr) (by omega))
  replace R0 := Lib.hid (R0.out.other (k' := w.heap.size) (o := 18) (x := .bool b.pr) (by omega))
  replace bel := Lib.hid (Bx.bel_set (k := w.heap.size) (o := 18) (x := .bool b.pr) (Nat.le_refl _) bel.out)
  replace B0 := Lib.hid ((B0.out.set 18 (.bool b.pr)).of (m := cdl { x with prd := b.pr }) rfl)
  go_wp2_with (first | ((with_reducible refine cd_load ?_ ?_ (w.heap.size) ?_ { x with prd := b.pr } ?_ ?_); (· rfl); (· rfl); (· rfl); (· exact B0.out.blk)) | ((with_reducible refine bd_load ?_ ?_ (w.heap.size + 1) ?_ b ?_ ?_); (· rfl); (· rfl); (· rfl); (· exact B1.out.blk)))
  clear a18 f18 b2
  refine (HG.out _).mono ?_; rintro e w4 ⟨rfl, hb⟩
  replace B0 := Lib.hid (B0.out.keep hb)
  replace B1 := Lib.hid (B1.out.keep hb)
  replace R0 := Lib.hid (R0.out.keep hb)
  replace bel := Lib.hid (Bx.then_below bel.out hb)
  clear hb
  have a24 := B0.out.at 24 rfl
  have f24 := B0.out.2.2 24
  replace B1 := Lib.hid (B1.out.other (k' := w.heap.size) (o := 24) (x := .int .i64 g) (by omega))
  replace R0 := Lib.hid (R0.out.other (k' := w.heap.size) (o := 24) (x := .int .i64 g) (by omega))
  replace bel := Lib.hid (Bx.bel_set (k := w.heap.size) (o := 24) (x := .int .i64 g) (Nat.le_refl _) bel.out)
  replace B0 := Lib.hid ((B0.out.set 24 (.int .i64 g)).of (m := cdl { x with prd := b.pr, hrd := g }) rfl)
  go_wp2_with (first | ((with_reducible refine cd_load ?_ ?_ (w.heap.size) ?_ { x with prd := b.pr, hrd := g } ?_ ?_); (· rfl); (· rfl); (· rfl); (· exact B0.out.blk)) | ((with_reducible refine cd_store ?_ ?_ (w.heap.size + 1 + 1) { x with prd := b.pr, hrd := g } ?_ ?_ (cdl Cd.zero) ?_ ?_ ?_); (· rfl); (· rfl); (· rfl); (· rfl); (· rfl); (· exact R0.out.own)))
  exact bodyPost_ret (v := .tuple #[cdv { x with prd := b.pr, hrd := g }, .int .i64 1]) (cd_result2 Try.results16 rfl rfl (R0.out.full (m := cdl { x with prd := b.pr, hrd := g }) rfl).blk) rfl ⟨rfl, Bx.bel_put_at (k := w.heap.size + 1 + 1) (cdl { x with prd := b.pr, hrd := g }) 0 (by omega) bel.out⟩

set_option maxRecDepth 40000 in
set_option maxHeartbeats 8000000 in
theorem recv1ff (c x : Cd) (b : Bd) (HS : Hid (∀ w, Calls Try.prog 27 #[cdv c, bdv b] w fun e w' => e = .returned (.int .i64 1) ∧ Below w.heap.size w w')) (HA : Hid (∀ w, Calls Try.prog 28 #[cdv c, bdv b] w fun e w' => e = .returned (cdv x) ∧ Below w.heap.size w w')) (hp : x.prd = false) (HR : Hid (∀ w, Calls Try.prog 29 #[bdv b] w fun e w' => e = .returned (.bool false) ∧ Below w.heap.size w w')) (g : Int) (HG : Hid (∀ w, Calls Try.prog 30 #[bdv b] w fun e w' => e = .returned (.int .i64 g) ∧ Below w.heap.size w w')) (w : World) : Calls Try.prog 16 #[cdv c, bdv b] w fun e w' => e = .returned (.tuple #[cdv { x with prd := false, hrd := g }, .int .i64 1]) ∧ Below w.heap.size w w' := by
  have B0 := Lib.hid (((Bx.Fre.new w (cdl c) 28).more (bdo b)).more (cdo Cd.zero))
  have B1 := Lib.hid ((Bx.Fre.new_at (W := w.alloc (cdo c)) (k := w.heap.size + 1) (bdl b) 49 (by simp)).more (cdo Cd.zero))
  have R0 := Lib.hid (Bx.Fre.new_at (W := (w.alloc (cdo c)).alloc (bdo b)) (k := w.heap.size + 1 + 1) (cdl Cd.zero) 28 (by simp))
  have bel := Lib.hid (Bx.bel_box (Bx.bel_box (Bx.box_below w (cdo c)) (bdo b)) (cdo Cd.zero))
  have hp' := Lib.hid hp
  clear hp
  go_enter Try.func16, Try.ntmps16
  go_wp2_with (first | ((with_reducible refine cd_load ?_ ?_ (w.heap.size) ?_ c ?_ ?_); (· rfl); (· rfl); (· rfl); (· exact B0.out.blk)) | ((with_reducible refine bd_load ?_ ?_ (w.heap.size + 1) ?_ b ?_ ?_); (· rfl); (· rfl); (· rfl); (· exact B1.out.blk)))
  refine (HS.out _).mono ?_; rintro e w1 ⟨rfl, hb⟩
  replace B0 := Lib.hid (B0.out.keep hb)
  replace B1 := Lib.hid (B1.out.keep hb)
  replace R0 := Lib.hid (R0.out.keep hb)
  replace bel := Lib.hid (Bx.then_below bel.out hb)
  clear hb
  go_wp2_with (first | ((with_reducible refine cd_load ?_ ?_ (w.heap.size) ?_ c ?_ ?_); (· rfl); (· rfl); (· rfl); (· exact B0.out.blk)) | ((with_reducible refine bd_load ?_ ?_ (w.heap.size + 1) ?_ b ?_ ?_); (· rfl); (· rfl); (· rfl); (· exact B1.out.blk)))
  refine (HA.out _).mono ?_; rintro e w2 ⟨rfl, hb⟩
  replace B0 := Lib.hid (B0.out.keep hb)
  replace B1 := Lib.hid (B1.out.keep hb)
  replace R0 := Lib.hid (R0.out.keep hb)
  replace bel := Lib.hid (Bx.then_below bel.out hb)
  clear hb
  have O0 := Lib.hid B0.out.own
  replace B1 := Lib.hid (B1.out.apart_at (k' := w.heap.size) (cdl x) 0 (by omega))
  replace R0 := Lib.hid (R0.out.apart_at (k' := w.heap.size) (cdl x) 0 (by omega))
  replace bel := Lib.hid (Bx.bel_put_at (k := w.heap.size) (cdl x) 0 (Nat.le_refl _) bel.out)
  replace B0 := Lib.hid (B0.out.full (m := cdl x) rfl)
  have a18 := B0.out.at 18 rfl
  have f18 := B0.out.2.2 18
  rw [hp'.out] at a18
  go_wp2_with (first | ((with_reducible refine cd_load ?_ ?_ (w.heap.size) ?_ x ?_ ?_); (· rfl); (· rfl); (· rfl); (· exact B0.out.blk)) | ((with_reducible refine bd_load ?_ ?_ (w.heap.size + 1) ?_ b ?_ ?_); (· rfl); (· rfl); (· rfl); (· exact B1.out.blk)) | ((with_reducible refine cd_store ?_ ?_ (w.heap.size) x ?_ ?_ (cdl c) ?_ ?_ ?_); (· rfl); (· rfl); (· rfl); (· rfl); (· rfl); (· exact O0.out)))
  clear a18 f18
  clear O0
  refine (HR.out _).mono ?_; rintro e w3 ⟨rfl, hb⟩
  replace B0 := Lib.hid (B0.out.keep hb)
  replace B1 := Lib.hid (B1.out.keep hb)
  replace R0 := Lib.hid (R0.out.keep hb)
  replace bel := Lib.hid (Bx.then_below bel.out hb)
  clear hb
  have a18 := B0.out.at 18 rfl
  have f18 := B0.out.2.2 18
  replace B1 := Lib.hid (B1.out.other (k' := w.heap.size) (o := 18) (x := .bool false) (by omega))
  replace R0 := Lib.hid (R0.out.other (k' := w.heap.size) (o := 18) (x := .bool false) (by omega))
  replace bel := Lib.hid (Bx.bel_set (k := w.heap.size) (o := 18) (x := .bool false) (Nat.le_refl _) bel.out)
  replace B0 := Lib.hid ((B0.out.set 18 (.bool false)).of (m := cdl { x with prd := false }) rfl)
  go_wp2_with (first | ((with_reducible refine cd_load ?_ ?_ (w.heap.size) ?_ { x with prd := false } ?_ ?_); (· rfl); (· rfl); (· rfl); (· exact B0.out.blk)) | ((with_reducible refine bd_load ?_ ?_ (w.heap.size + 1) ?_ b ?_ ?_); (· rfl); (· rfl); (· rfl); (· exact B1.out.blk)))
  clear a18 f18
  refine (HG.out _).mono ?_; rintro e w4 ⟨rfl, hb⟩
  replace B0 := Lib.hid (B0.out.keep hb)
  replace B1 := Lib.hid (B1.out.keep hb)
  replace R0 := Lib.hid (R0.out.keep hb)
  replace bel := Lib.hid (Bx.then_below bel.out hb)
  clear hb
  have a24 := B0.out.at 24 rfl
  have f24 := B0.out.2.2 24
  replace B1 := Lib.hid (B1.out.other (k' := w.heap.size) (o := 24) (x := .int .i64 g) (by omega))
  replace R0 := Lib.hid (R0.out.other (k' := w.heap.size) (o := 24) (x := .int .i64 g) (by omega))
  replace bel := Lib.hid (Bx.bel_set (k := w.heap.size) (o := 24) (x := .int .i64 g) (Nat.le_refl _) bel.out)
  replace B0 := Lib.hid ((B0.out.set 24 (.int .i64 g)).of (m := cdl { x with prd := false, hrd := g }) rfl)
  go_wp2_with (first | ((with_reducible refine cd_load ?_ ?_ (w.heap.size) ?_ { x with prd := false, hrd := g } ?_ ?_); (· rfl); (· rfl); (· rfl); (· exact B0.out.blk)) | ((with_reducible refine cd_store ?_ ?_ (w.heap.size + 1 + 1) { x with prd := false, hrd := g } ?_ ?_ (cdl Cd.zero) ?_ ?_ ?_); (· rfl); (· rfl); (· rfl); (· rfl); (· rfl); (· exact R0.out.own)))
  exact bodyPost_ret (v := .tuple #[cdv { x with prd := false, hrd := g }, .int .i64 1]) (cd_result2 Try.results16 rfl rfl (R0.out.full (m := cdl { x with prd := false, hrd := g }) rfl).blk) rfl ⟨rfl, Bx.bel_put_at (k := w.heap.size + 1 + 1) (cdl { x with prd := false, hrd := g }) 0 (by omega) bel.out⟩

set_option maxRecDepth 40000 in
set_option maxHeartbeats 8000000 in
theorem recv2ft (c : Cd) (b : Bd) (HS : Hid (∀ w, Calls Try.prog 27 #[cdv c, bdv b] w fun e w' => e = .returned (.int .i64 2) ∧ Below w.heap.size w w')) (hp : c.prd = false) (HR : Hid (∀ w, Calls Try.prog 29 #[bdv b] w fun e w' => e = .returned (.bool true) ∧ Below w.heap.size w w')) (g : Int) (HG : Hid (∀ w, Calls Try.prog 30 #[bdv b] w fun e w' => e = .returned (.int .i64 g) ∧ Below w.heap.size w w')) (w : World) : Calls Try.prog 16 #[cdv c, bdv b] w fun e w' => e = .returned (.tuple #[cdv { c with prd := b.pr, hrd := g }, .int .i64 2]) ∧ Below w.heap.size w w' := by
  have B0 := Lib.hid (((Bx.Fre.new w (cdl c) 28).more (bdo b)).more (cdo Cd.zero))
  have B1 := Lib.hid ((Bx.Fre.new_at (W := w.alloc (cdo c)) (k := w.heap.size + 1) (bdl b) 49 (by simp)).more (cdo Cd.zero))
  have R0 := Lib.hid (Bx.Fre.new_at (W := (w.alloc (cdo c)).alloc (bdo b)) (k := w.heap.size + 1 + 1) (cdl Cd.zero) 28 (by simp))
  have bel := Lib.hid (Bx.bel_box (Bx.bel_box (Bx.box_below w (cdo c)) (bdo b)) (cdo Cd.zero))
  have hp' := Lib.hid hp
  clear hp
  go_enter Try.func16, Try.ntmps16
  go_wp2_with (first | ((with_reducible refine cd_load ?_ ?_ (w.heap.size) ?_ c ?_ ?_); (· rfl); (· rfl); (· rfl); (· exact B0.out.blk)) | ((with_reducible refine bd_load ?_ ?_ (w.heap.size + 1) ?_ b ?_ ?_); (· rfl); (· rfl); (· rfl); (· exact B1.out.blk)))
  refine (HS.out _).mono ?_; rintro e w1 ⟨rfl, hb⟩
  replace B0 := Lib.hid (B0.out.keep hb)
  replace B1 := Lib.hid (B1.out.keep hb)
  replace R0 := Lib.hid (R0.out.keep hb)
  replace bel := Lib.hid (Bx.then_below bel.out hb)
  clear hb
  have a18 := B0.out.at 18 rfl
  have f18 := B0.out.2.2 18
  rw [hp'.out] at a18
  go_wp2_with (first | ((with_reducible refine cd_load ?_ ?_ (w.heap.size) ?_ c ?_ ?_); (· rfl); (· rfl); (· rfl); (· exact B0.out.blk)) | ((with_reducible refine bd_load ?_ ?_ (w.heap.size + 1) ?_ b ?_ ?_); (· rfl); (· rfl); (· rfl); (· exact B1.out.blk)))
  clear a18 f18
  refine (HR.out _).mono ?_; rintro e w2 ⟨rfl, hb⟩
  replace B0 := Lib.hid (B0.out.keep hb)
  replace B1 := Lib.hid (B1.out.keep hb)
  replace R0 := Lib.hid (R0.out.keep hb)
  replace bel := Lib.hid (Bx.then_below bel.out hb)
  clear hb
  have a18 := B0.out.at 18 rfl
  have f18 := B0.out.2.2 18
  have b2 := B1.out.at 2 rfl
  replace B1 := Lib.hid (B1.out.other (k' := w.heap.size) (o := 18) (x := .bool b.pr) (by omega))
  replace R0 := Lib.hid (R0.out.other (k' := w.heap.size) (o := 18) (x := .bool b.pr) (by omega))
  replace bel := Lib.hid (Bx.bel_set (k := w.heap.size) (o := 18) (x := .bool b.pr) (Nat.le_refl _) bel.out)
  replace B0 := Lib.hid ((B0.out.set 18 (.bool b.pr)).of (m := cdl { c with prd := b.pr }) rfl)
  go_wp2_with (first | ((with_reducible refine cd_load ?_ ?_ (w.heap.size) ?_ { c with prd := b.pr } ?_ ?_); (· rfl); (· rfl); (· rfl); (· exact B0.out.blk)) | ((with_reducible refine bd_load ?_ ?_ (w.heap.size + 1) ?_ b ?_ ?_); (· rfl); (· rfl); (· rfl); (· exact B1.out.blk)))
  clear a18 f18 b2
  refine (HG.out _).mono ?_; rintro e w3 ⟨rfl, hb⟩
  replace B0 := Lib.hid (B0.out.keep hb)
  replace B1 := Lib.hid (B1.out.keep hb)
  replace R0 := Lib.hid (R0.out.keep hb)
  replace bel := Lib.hid (Bx.then_below bel.out hb)
  clear hb
  have a24 := B0.out.at 24 rfl
  have f24 := B0.out.2.2 24
  replace B1 := Lib.hid (B1.out.other (k' := w.heap.size) (o := 24) (x := .int .i64 g) (by omega))
  replace R0 := Lib.hid (R0.out.other (k' := w.heap.size) (o := 24) (x := .int .i64 g) (by omega))
  replace bel := Lib.hid (Bx.bel_set (k := w.heap.size) (o := 24) (x := .int .i64 g) (Nat.le_refl _) bel.out)
  replace B0 := Lib.hid ((B0.out.set 24 (.int .i64 g)).of (m := cdl { c with prd := b.pr, hrd := g }) rfl)
  go_wp2_with (first | ((with_reducible refine cd_load ?_ ?_ (w.heap.size) ?_ { c with prd := b.pr, hrd := g } ?_ ?_); (· rfl); (· rfl); (· rfl); (· exact B0.out.blk)) | ((with_reducible refine cd_store ?_ ?_ (w.heap.size + 1 + 1) { c with prd := b.pr, hrd := g } ?_ ?_ (cdl Cd.zero) ?_ ?_ ?_); (· rfl); (· rfl); (· rfl); (· rfl); (· rfl); (· exact R0.out.own)))
  exact bodyPost_ret (v := .tuple #[cdv { c with prd := b.pr, hrd := g }, .int .i64 2]) (cd_result2 Try.results16 rfl rfl (R0.out.full (m := cdl { c with prd := b.pr, hrd := g }) rfl).blk) rfl ⟨rfl, Bx.bel_put_at (k := w.heap.size + 1 + 1) (cdl { c with prd := b.pr, hrd := g }) 0 (by omega) bel.out⟩

set_option maxRecDepth 40000 in
set_option maxHeartbeats 8000000 in
theorem recv2ff (c : Cd) (b : Bd) (HS : Hid (∀ w, Calls Try.prog 27 #[cdv c, bdv b] w fun e w' => e = .returned (.int .i64 2) ∧ Below w.heap.size w w')) (hp : c.prd = false) (HR : Hid (∀ w, Calls Try.prog 29 #[bdv b] w fun e w' => e = .returned (.bool false) ∧ Below w.heap.size w w')) (g : Int) (HG : Hid (∀ w, Calls Try.prog 30 #[bdv b] w fun e w' => e = .returned (.int .i64 g) ∧ Below w.heap.size w w')) (w : World) : Calls Try.prog 16 #[cdv c, bdv b] w fun e w' => e = .returned (.tuple #[cdv { c with prd := false, hrd := g }, .int .i64 2]) ∧ Below w.heap.size w w' := by
  have B0 := Lib.hid (((Bx.Fre.new w (cdl c) 28).more (bdo b)).more (cdo Cd.zero))
  have B1 := Lib.hid ((Bx.Fre.new_at (W := w.alloc (cdo c)) (k := w.heap.size + 1) (bdl b) 49 (by simp)).more (cdo Cd.zero))
  have R0 := Lib.hid (Bx.Fre.new_at (W := (w.alloc (cdo c)).alloc (bdo b)) (k := w.heap.size + 1 + 1) (cdl Cd.zero) 28 (by simp))
  have bel := Lib.hid (Bx.bel_box (Bx.bel_box (Bx.box_below w (cdo c)) (bdo b)) (cdo Cd.zero))
  have hp' := Lib.hid hp
  clear hp
  go_enter Try.func16, Try.ntmps16
  go_wp2_with (first | ((with_reducible refine cd_load ?_ ?_ (w.heap.size) ?_ c ?_ ?_); (· rfl); (· rfl); (· rfl); (· exact B0.out.blk)) | ((with_reducible refine bd_load ?_ ?_ (w.heap.size + 1) ?_ b ?_ ?_); (· rfl); (· rfl); (· rfl); (· exact B1.out.blk)))
  refine (HS.out _).mono ?_; rintro e w1 ⟨rfl, hb⟩
  replace B0 := Lib.hid (B0.out.keep hb)
  replace B1 := Lib.hid (B1.out.keep hb)
  replace R0 := Lib.hid (R0.out.keep hb)
  replace bel := Lib.hid (Bx.then_below bel.out hb)
  clear hb
  have a18 := B0.out.at 18 rfl
  have f18 := B0.out.2.2 18
  rw [hp'.out] at a18
  go_wp2_with (first | ((with_reducible refine cd_load ?_ ?_ (w.heap.size) ?_ c ?_ ?_); (· rfl); (· rfl); (· rfl); (· exact B0.out.blk)) | ((with_reducible refine bd_load ?_ ?_ (w.heap.size + 1) ?_ b ?_ ?_); (· rfl); (· rfl); (· rfl); (· exact B1.out.blk)))
  clear a18 f18
  refine (HR.out _).mono ?_; rintro e w2 ⟨rfl, hb⟩
  replace B0 := Lib.hid (B0.out.keep hb)
  replace B1 := Lib.hid (B1.out.keep hb)
  replace R0 := Lib.hid (R0.out.keep hb)
  replace bel := Lib.hid (Bx.then_below bel.out hb)
  clear hb
  have a18 := B0.out.at 18 rfl
  have f18 := B0.out.2.2 18
  replace B1 := Lib.hid (B1.out.other (k' := w.heap.size) (o := 18) (x := .bool false) (by omega))
  replace R0 := Lib.hid (R0.out.other (k' := w.heap.size) (o := 18) (x := .bool false) (by omega))
  replace bel := Lib.hid (Bx.bel_set (k := w.heap.size) (o := 18) (x := .bool false) (Nat.le_refl _) bel.out)
  replace B0 := Lib.hid ((B0.out.set 18 (.bool false)).of (m := cdl { c with prd := false }) rfl)
  go_wp2_with (first | ((with_reducible refine cd_load ?_ ?_ (w.heap.size) ?_ { c with prd := false } ?_ ?_); (· rfl); (· rfl); (· rfl); (· exact B0.out.blk)) | ((with_reducible refine bd_load ?_ ?_ (w.heap.size + 1) ?_ b ?_ ?_); (· rfl); (· rfl); (· rfl); (· exact B1.out.blk)))
  clear a18 f18
  refine (HG.out _).mono ?_; rintro e w3 ⟨rfl, hb⟩
  replace B0 := Lib.hid (B0.out.keep hb)
  replace B1 := Lib.hid (B1.out.keep hb)
  replace R0 := Lib.hid (R0.out.keep hb)
  replace bel := Lib.hid (Bx.then_below bel.out hb)
  clear hb
  have a24 := B0.out.at 24 rfl
  have f24 := B0.out.2.2 24
  replace B1 := Lib.hid (B1.out.other (k' := w.heap.size) (o := 24) (x := .int .i64 g) (by omega))
  replace R0 := Lib.hid (R0.out.other (k' := w.heap.size) (o := 24) (x := .int .i64 g) (by omega))
  replace bel := Lib.hid (Bx.bel_set (k := w.heap.size) (o := 24) (x := .int .i64 g) (Nat.le_refl _) bel.out)
  replace B0 := Lib.hid ((B0.out.set 24 (.int .i64 g)).of (m := cdl { c with prd := false, hrd := g }) rfl)
  go_wp2_with (first | ((with_reducible refine cd_load ?_ ?_ (w.heap.size) ?_ { c with prd := false, hrd := g } ?_ ?_); (· rfl); (· rfl); (· rfl); (· exact B0.out.blk)) | ((with_reducible refine cd_store ?_ ?_ (w.heap.size + 1 + 1) { c with prd := false, hrd := g } ?_ ?_ (cdl Cd.zero) ?_ ?_ ?_); (· rfl); (· rfl); (· rfl); (· rfl); (· rfl); (· exact R0.out.own)))
  exact bodyPost_ret (v := .tuple #[cdv { c with prd := false, hrd := g }, .int .i64 2]) (cd_result2 Try.results16 rfl rfl (R0.out.full (m := cdl { c with prd := false, hrd := g }) rfl).blk) rfl ⟨rfl, Bx.bel_put_at (k := w.heap.size + 1 + 1) (cdl { c with prd := false, hrd := g }) 0 (by omega) bel.out⟩

set_option maxRecDepth 40000 in
set_option maxHeartbeats 8000000 in
theorem recv2tt (c : Cd) (b : Bd) (HS : Hid (∀ w, Calls Try.prog 27 #[cdv c, bdv b] w fun e w' => e = .returned (.int .i64 2) ∧ Below w.heap.size w w')) (hp : c.prd = true) (g : Int) (HG : Hid (∀ w, Calls Try.prog 30 #[bdv b] w fun e w' => e = .returned (.int .i64 g) ∧ Below w.heap.size w w')) (w : World) : Calls Try.prog 16 #[cdv c, bdv b] w fun e w' => e = .returned (.tuple #[cdv { c with prd := true, hrd := g }, .int .i64 2]) ∧ Below w.heap.size w w' := by
  have B0 := Lib.hid (((Bx.Fre.new w (cdl c) 28).more (bdo b)).more (cdo Cd.zero))
  have B1 := Lib.hid ((Bx.Fre.new_at (W := w.alloc (cdo c)) (k := w.heap.size + 1) (bdl b) 49 (by simp)).more (cdo Cd.zero))
  have R0 := Lib.hid (Bx.Fre.new_at (W := (w.alloc (cdo c)).alloc (bdo b)) (k := w.heap.size + 1 + 1) (cdl Cd.zero) 28 (by simp))
  have bel := Lib.hid (Bx.bel_box (Bx.bel_box (Bx.box_below w (cdo c)) (bdo b)) (cdo Cd.zero))
  have hp' := Lib.hid hp
  clear hp
  go_enter Try.func16, Try.ntmps16
  go_wp2_with (first | ((with_reducible refine cd_load ?_ ?_ (w.heap.size) ?_ c ?_ ?_); (· rfl); (· rfl); (· rfl); (· exact B0.out.blk)) | ((with_reducible refine bd_load ?_ ?_ (w.heap.size + 1) ?_ b ?_ ?_); (· rfl); (· rfl); (· rfl); (· exact B1.out.blk)))
  refine (HS.out _).mono ?_; rintro e w1 ⟨rfl, hb⟩
  replace B0 := Lib.hid (B0.out.keep hb)
  replace B1 := Lib.hid (B1.out.keep hb)
  replace R0 := Lib.hid (R0.out.keep hb)
  replace bel := Lib.hid (Bx.then_below bel.out hb)
  clear hb
  have a18 := B0.out.at 18 rfl
  have f18 := B0.out.2.2 18
  rw [hp'.out] at a18
  replace B1 := Lib.hid (B1.out.other (k' := w.heap.size) (o := 18) (x := .bool true) (by omega))
  replace R0 := Lib.hid (R0.out.other (k' := w.heap.size) (o := 18) (x := .bool true) (by omega))
  replace bel := Lib.hid (Bx.bel_set (k := w.heap.size) (o := 18) (x := .bool true) (Nat.le_refl _) bel.out)
  replace B0 := Lib.hid ((B0.out.set 18 (.bool true)).of (m := cdl { c with prd := true }) rfl)
  go_wp2_with (first | ((with_reducible refine cd_load ?_ ?_ (w.heap.size) ?_ { c with prd := true } ?_ ?_); (· rfl); (· rfl); (· rfl); (· exact B0.out.blk)) | ((with_reducible refine bd_load ?_ ?_ (w.heap.size + 1) ?_ b ?_ ?_); (· rfl); (· rfl); (· rfl); (· exact B1.out.blk)))
  clear a18 f18
  refine (HG.out _).mono ?_; rintro e w2 ⟨rfl, hb⟩
  replace B0 := Lib.hid (B0.out.keep hb)
  replace B1 := Lib.hid (B1.out.keep hb)
  replace R0 := Lib.hid (R0.out.keep hb)
  replace bel := Lib.hid (Bx.then_below bel.out hb)
  clear hb
  have a24 := B0.out.at 24 rfl
  have f24 := B0.out.2.2 24
  replace B1 := Lib.hid (B1.out.other (k' := w.heap.size) (o := 24) (x := .int .i64 g) (by omega))
  replace R0 := Lib.hid (R0.out.other (k' := w.heap.size) (o := 24) (x := .int .i64 g) (by omega))
  replace bel := Lib.hid (Bx.bel_set (k := w.heap.size) (o := 24) (x := .int .i64 g) (Nat.le_refl _) bel.out)
  replace B0 := Lib.hid ((B0.out.set 24 (.int .i64 g)).of (m := cdl { c with prd := true, hrd := g }) rfl)
  go_wp2_with (first | ((with_reducible refine cd_load ?_ ?_ (w.heap.size) ?_ { c with prd := true, hrd := g } ?_ ?_); (· rfl); (· rfl); (· rfl); (· exact B0.out.blk)) | ((with_reducible refine cd_store ?_ ?_ (w.heap.size + 1 + 1) { c with prd := true, hrd := g } ?_ ?_ (cdl Cd.zero) ?_ ?_ ?_); (· rfl); (· rfl); (· rfl); (· rfl); (· rfl); (· exact R0.out.own)))
  exact bodyPost_ret (v := .tuple #[cdv { c with prd := true, hrd := g }, .int .i64 2]) (cd_result2 Try.results16 rfl rfl (R0.out.full (m := cdl { c with prd := true, hrd := g }) rfl).blk) rfl ⟨rfl, Bx.bel_put_at (k := w.heap.size + 1 + 1) (cdl { c with prd := true, hrd := g }) 0 (by omega) bel.out⟩

set_option maxRecDepth 40000 in
set_option maxHeartbeats 8000000 in
theorem recv3r (c : Cd) (b : Bd) (HS : Hid (∀ w, Calls Try.prog 27 #[cdv c, bdv b] w fun e w' => e = .returned (.int .i64 3) ∧ Below w.heap.size w w')) (HR : Hid (∀ w, Calls Try.prog 29 #[bdv b] w fun e w' => e = .returned (.bool false) ∧ Below w.heap.size w w')) (w : World) : Calls Try.prog 16 #[cdv c, bdv b] w fun e w' => e = .returned (.tuple #[cdv { c with tel := true }, .int .i64 3]) ∧ Below w.heap.size w w' := by
  have B0 := Lib.hid (((Bx.Fre.new w (cdl c) 28).more (bdo b)).more (cdo Cd.zero))
  have B1 := Lib.hid ((Bx.Fre.new_at (W := w.alloc (cdo c)) (k := w.heap.size + 1) (bdl b) 49 (by simp)).more (cdo Cd.zero))
  have R0 := Lib.hid (Bx.Fre.new_at (W := (w.alloc (cdo c)).alloc (bdo b)) (k := w.heap.size + 1 + 1) (cdl Cd.zero) 28 (by simp))
  have bel := Lib.hid (Bx.bel_box (Bx.bel_box (Bx.box_below w (cdo c)) (bdo b)) (cdo Cd.zero))
  go_enter Try.func16, Try.ntmps16
  go_wp2_with (first | ((with_reducible refine cd_load ?_ ?_ (w.heap.size) ?_ c ?_ ?_); (· rfl); (· rfl); (· rfl); (· exact B0.out.blk)) | ((with_reducible refine bd_load ?_ ?_ (w.heap.size + 1) ?_ b ?_ ?_); (· rfl); (· rfl); (· rfl); (· exact B1.out.blk)))
  refine (HS.out _).mono ?_; rintro e w1 ⟨rfl, hb⟩
  replace B0 := Lib.hid (B0.out.keep hb)
  replace B1 := Lib.hid (B1.out.keep hb)
  replace R0 := Lib.hid (R0.out.keep hb)
  replace bel := Lib.hid (Bx.then_below bel.out hb)
  clear hb
  have a22 := B0.out.at 22 rfl
  have f22 := B0.out.2.2 22
  replace B1 := Lib.hid (B1.out.other (k' := w.heap.size) (o := 22) (x := .bool true) (by omega))
  replace R0 := Lib.hid (R0.out.other (k' := w.heap.size) (o := 22) (x := .bool true) (by omega))
  replace bel := Lib.hid (Bx.bel_set (k := w.heap.size) (o := 22) (x := .bool true) (Nat.le_refl _) bel.out)
  replace B0 := Lib.hid ((B0.out.set 22 (.bool true)).of (m := cdl { c with tel := true }) rfl)
  go_wp2_with (first | ((with_reducible refine cd_load ?_ ?_ (w.heap.size) ?_ { c with tel := true } ?_ ?_); (· rfl); (· rfl); (· rfl); (· exact B0.out.blk)) | ((with_reducible refine bd_load ?_ ?_ (w.heap.size + 1) ?_ b ?_ ?_); (· rfl); (· rfl); (· rfl); (· exact B1.out.blk)))
  clear a22 f22
  refine (HR.out _).mono ?_; rintro e w2 ⟨rfl, hb⟩
  replace B0 := Lib.hid (B0.out.keep hb)
  replace B1 := Lib.hid (B1.out.keep hb)
  replace R0 := Lib.hid (R0.out.keep hb)
  replace bel := Lib.hid (Bx.then_below bel.out hb)
  clear hb
  go_wp2_with (first | ((with_reducible refine cd_load ?_ ?_ (w.heap.size) ?_ { c with tel := true } ?_ ?_); (· rfl); (· rfl); (· rfl); (· exact B0.out.blk)) | ((with_reducible refine cd_store ?_ ?_ (w.heap.size + 1 + 1) { c with tel := true } ?_ ?_ (cdl Cd.zero) ?_ ?_ ?_); (· rfl); (· rfl); (· rfl); (· rfl); (· rfl); (· exact R0.out.own)))
  exact bodyPost_ret (v := .tuple #[cdv { c with tel := true }, .int .i64 3]) (cd_result2 Try.results16 rfl rfl (R0.out.full (m := cdl { c with tel := true }) rfl).blk) rfl ⟨rfl, Bx.bel_put_at (k := w.heap.size + 1 + 1) (cdl { c with tel := true }) 0 (by omega) bel.out⟩

set_option maxRecDepth 40000 in
set_option maxHeartbeats 8000000 in
theorem recv3l (c : Cd) (b : Bd) (HS : Hid (∀ w, Calls Try.prog 27 #[cdv c, bdv b] w fun e w' => e = .returned (.int .i64 3) ∧ Below w.heap.size w w')) (HR : Hid (∀ w, Calls Try.prog 29 #[bdv b] w fun e w' => e = .returned (.bool true) ∧ Below w.heap.size w w')) (hl : b.le = false) (w : World) : Calls Try.prog 16 #[cdv c, bdv b] w fun e w' => e = .returned (.tuple #[cdv { c with tel := true }, .int .i64 3]) ∧ Below w.heap.size w w' := by
  have B0 := Lib.hid (((Bx.Fre.new w (cdl c) 28).more (bdo b)).more (cdo Cd.zero))
  have B1 := Lib.hid ((Bx.Fre.new_at (W := w.alloc (cdo c)) (k := w.heap.size + 1) (bdl b) 49 (by simp)).more (cdo Cd.zero))
  have R0 := Lib.hid (Bx.Fre.new_at (W := (w.alloc (cdo c)).alloc (bdo b)) (k := w.heap.size + 1 + 1) (cdl Cd.zero) 28 (by simp))
  have bel := Lib.hid (Bx.bel_box (Bx.bel_box (Bx.box_below w (cdo c)) (bdo b)) (cdo Cd.zero))
  have hl' := Lib.hid hl
  clear hl
  go_enter Try.func16, Try.ntmps16
  go_wp2_with (first | ((with_reducible refine cd_load ?_ ?_ (w.heap.size) ?_ c ?_ ?_); (· rfl); (· rfl); (· rfl); (· exact B0.out.blk)) | ((with_reducible refine bd_load ?_ ?_ (w.heap.size + 1) ?_ b ?_ ?_); (· rfl); (· rfl); (· rfl); (· exact B1.out.blk)))
  refine (HS.out _).mono ?_; rintro e w1 ⟨rfl, hb⟩
  replace B0 := Lib.hid (B0.out.keep hb)
  replace B1 := Lib.hid (B1.out.keep hb)
  replace R0 := Lib.hid (R0.out.keep hb)
  replace bel := Lib.hid (Bx.then_below bel.out hb)
  clear hb
  have a22 := B0.out.at 22 rfl
  have f22 := B0.out.2.2 22
  replace B1 := Lib.hid (B1.out.other (k' := w.heap.size) (o := 22) (x := .bool true) (by omega))
  replace R0 := Lib.hid (R0.out.other (k' := w.heap.size) (o := 22) (x := .bool true) (by omega))
  replace bel := Lib.hid (Bx.bel_set (k := w.heap.size) (o := 22) (x := .bool true) (Nat.le_refl _) bel.out)
  replace B0 := Lib.hid ((B0.out.set 22 (.bool true)).of (m := cdl { c with tel := true }) rfl)
  go_wp2_with (first | ((with_reducible refine cd_load ?_ ?_ (w.heap.size) ?_ { c with tel := true } ?_ ?_); (· rfl); (· rfl); (· rfl); (· exact B0.out.blk)) | ((with_reducible refine bd_load ?_ ?_ (w.heap.size + 1) ?_ b ?_ ?_); (· rfl); (· rfl); (· rfl); (· exact B1.out.blk)))
  clear a22 f22
  refine (HR.out _).mono ?_; rintro e w2 ⟨rfl, hb⟩
  replace B0 := Lib.hid (B0.out.keep hb)
  replace B1 := Lib.hid (B1.out.keep hb)
  replace R0 := Lib.hid (R0.out.keep hb)
  replace bel := Lib.hid (Bx.then_below bel.out hb)
  clear hb
  have b4 := B1.out.at 4 rfl
  rw [hl'.out] at b4
  go_wp2_with (first | ((with_reducible refine cd_load ?_ ?_ (w.heap.size) ?_ { c with tel := true } ?_ ?_); (· rfl); (· rfl); (· rfl); (· exact B0.out.blk)) | ((with_reducible refine cd_store ?_ ?_ (w.heap.size + 1 + 1) { c with tel := true } ?_ ?_ (cdl Cd.zero) ?_ ?_ ?_); (· rfl); (· rfl); (· rfl); (· rfl); (· rfl); (· exact R0.out.own)))
  exact bodyPost_ret (v := .tuple #[cdv { c with tel := true }, .int .i64 3]) (cd_result2 Try.results16 rfl rfl (R0.out.full (m := cdl { c with tel := true }) rfl).blk) rfl ⟨rfl, Bx.bel_put_at (k := w.heap.size + 1 + 1) (cdl { c with tel := true }) 0 (by omega) bel.out⟩

set_option maxRecDepth 40000 in
set_option maxHeartbeats 8000000 in
theorem recv3e (c : Cd) (b : Bd) (HS : Hid (∀ w, Calls Try.prog 27 #[cdv c, bdv b] w fun e w' => e = .returned (.int .i64 3) ∧ Below w.heap.size w w')) (HR : Hid (∀ w, Calls Try.prog 29 #[bdv b] w fun e w' => e = .returned (.bool true) ∧ Below w.heap.size w w')) (hl : b.le = true) (he : c.edge = true) (w : World) : Calls Try.prog 16 #[cdv c, bdv b] w fun e w' => e = .returned (.tuple #[cdv { c with tel := true }, .int .i64 3]) ∧ Below w.heap.size w w' := by
  have B0 := Lib.hid (((Bx.Fre.new w (cdl c) 28).more (bdo b)).more (cdo Cd.zero))
  have B1 := Lib.hid ((Bx.Fre.new_at (W := w.alloc (cdo c)) (k := w.heap.size + 1) (bdl b) 49 (by simp)).more (cdo Cd.zero))
  have R0 := Lib.hid (Bx.Fre.new_at (W := (w.alloc (cdo c)).alloc (bdo b)) (k := w.heap.size + 1 + 1) (cdl Cd.zero) 28 (by simp))
  have bel := Lib.hid (Bx.bel_box (Bx.bel_box (Bx.box_below w (cdo c)) (bdo b)) (cdo Cd.zero))
  have hl' := Lib.hid hl
  clear hl
  have he' := Lib.hid he
  clear he
  go_enter Try.func16, Try.ntmps16
  go_wp2_with (first | ((with_reducible refine cd_load ?_ ?_ (w.heap.size) ?_ c ?_ ?_); (· rfl); (· rfl); (· rfl); (· exact B0.out.blk)) | ((with_reducible refine bd_load ?_ ?_ (w.heap.size + 1) ?_ b ?_ ?_); (· rfl); (· rfl); (· rfl); (· exact B1.out.blk)))
  refine (HS.out _).mono ?_; rintro e w1 ⟨rfl, hb⟩
  replace B0 := Lib.hid (B0.out.keep hb)
  replace B1 := Lib.hid (B1.out.keep hb)
  replace R0 := Lib.hid (R0.out.keep hb)
  replace bel := Lib.hid (Bx.then_below bel.out hb)
  clear hb
  have a22 := B0.out.at 22 rfl
  have f22 := B0.out.2.2 22
  replace B1 := Lib.hid (B1.out.other (k' := w.heap.size) (o := 22) (x := .bool true) (by omega))
  replace R0 := Lib.hid (R0.out.other (k' := w.heap.size) (o := 22) (x := .bool true) (by omega))
  replace bel := Lib.hid (Bx.bel_set (k := w.heap.size) (o := 22) (x := .bool true) (Nat.le_refl _) bel.out)
  replace B0 := Lib.hid ((B0.out.set 22 (.bool true)).of (m := cdl { c with tel := true }) rfl)
  go_wp2_with (first | ((with_reducible refine cd_load ?_ ?_ (w.heap.size) ?_ { c with tel := true } ?_ ?_); (· rfl); (· rfl); (· rfl); (· exact B0.out.blk)) | ((with_reducible refine bd_load ?_ ?_ (w.heap.size + 1) ?_ b ?_ ?_); (· rfl); (· rfl); (· rfl); (· exact B1.out.blk)))
  clear a22 f22
  refine (HR.out _).mono ?_; rintro e w2 ⟨rfl, hb⟩
  replace B0 := Lib.hid (B0.out.keep hb)
  replace B1 := Lib.hid (B1.out.keep hb)
  replace R0 := Lib.hid (R0.out.keep hb)
  replace bel := Lib.hid (Bx.then_below bel.out hb)
  clear hb
  have a2 := B0.out.at 2 rfl
  have b4 := B1.out.at 4 rfl
  rw [hl'.out] at b4
  rw [he'.out] at a2
  go_wp2_with (first | ((with_reducible refine cd_load ?_ ?_ (w.heap.size) ?_ { c with tel := true } ?_ ?_); (· rfl); (· rfl); (· rfl); (· exact B0.out.blk)) | ((with_reducible refine cd_store ?_ ?_ (w.heap.size + 1 + 1) { c with tel := true } ?_ ?_ (cdl Cd.zero) ?_ ?_ ?_); (· rfl); (· rfl); (· rfl); (· rfl); (· rfl); (· exact R0.out.own)))
  exact bodyPost_ret (v := .tuple #[cdv { c with tel := true }, .int .i64 3]) (cd_result2 Try.results16 rfl rfl (R0.out.full (m := cdl { c with tel := true }) rfl).blk) rfl ⟨rfl, Bx.bel_put_at (k := w.heap.size + 1 + 1) (cdl { c with tel := true }) 0 (by omega) bel.out⟩

set_option maxRecDepth 40000 in
set_option maxHeartbeats 8000000 in
theorem recv3d (c x : Cd) (b : Bd) (HS : Hid (∀ w, Calls Try.prog 27 #[cdv c, bdv b] w fun e w' => e = .returned (.int .i64 3) ∧ Below w.heap.size w w')) (HR : Hid (∀ w, Calls Try.prog 29 #[bdv b] w fun e w' => e = .returned (.bool true) ∧ Below w.heap.size w w')) (hl : b.le = true) (he : c.edge = false) (HD : Hid (∀ w, Calls Try.prog 31 #[cdv { c with tel := true }] w fun e w' => e = .returned (cdv x) ∧ Below w.heap.size w w')) (w : World) : Calls Try.prog 16 #[cdv c, bdv b] w fun e w' => e = .returned (.tuple #[cdv x, .int .i64 3]) ∧ Below w.heap.size w w' := by
  have B0 := Lib.hid (((Bx.Fre.new w (cdl c) 28).more (bdo b)).more (cdo Cd.zero))
  have B1 := Lib.hid ((Bx.Fre.new_at (W := w.alloc (cdo c)) (k := w.heap.size + 1) (bdl b) 49 (by simp)).more (cdo Cd.zero))
  have R0 := Lib.hid (Bx.Fre.new_at (W := (w.alloc (cdo c)).alloc (bdo b)) (k := w.heap.size + 1 + 1) (cdl Cd.zero) 28 (by simp))
  have bel := Lib.hid (Bx.bel_box (Bx.bel_box (Bx.box_below w (cdo c)) (bdo b)) (cdo Cd.zero))
  have hl' := Lib.hid hl
  clear hl
  have he' := Lib.hid he
  clear he
  go_enter Try.func16, Try.ntmps16
  go_wp2_with (first | ((with_reducible refine cd_load ?_ ?_ (w.heap.size) ?_ c ?_ ?_); (· rfl); (· rfl); (· rfl); (· exact B0.out.blk)) | ((with_reducible refine bd_load ?_ ?_ (w.heap.size + 1) ?_ b ?_ ?_); (· rfl); (· rfl); (· rfl); (· exact B1.out.blk)))
  refine (HS.out _).mono ?_; rintro e w1 ⟨rfl, hb⟩
  replace B0 := Lib.hid (B0.out.keep hb)
  replace B1 := Lib.hid (B1.out.keep hb)
  replace R0 := Lib.hid (R0.out.keep hb)
  replace bel := Lib.hid (Bx.then_below bel.out hb)
  clear hb
  have a22 := B0.out.at 22 rfl
  have f22 := B0.out.2.2 22
  replace B1 := Lib.hid (B1.out.other (k' := w.heap.size) (o := 22) (x := .bool true) (by omega))
  replace R0 := Lib.hid (R0.out.other (k' := w.heap.size) (o := 22) (x := .bool true) (by omega))
  replace bel := Lib.hid (Bx.bel_set (k := w.heap.size) (o := 22) (x := .bool true) (Nat.le_refl _) bel.out)
  replace B0 := Lib.hid ((B0.out.set 22 (.bool true)).of (m := cdl { c with tel := true }) rfl)
  go_wp2_with (first | ((with_reducible refine cd_load ?_ ?_ (w.heap.size) ?_ { c with tel := true } ?_ ?_); (· rfl); (· rfl); (· rfl); (· exact B0.out.blk)) | ((with_reducible refine bd_load ?_ ?_ (w.heap.size + 1) ?_ b ?_ ?_); (· rfl); (· rfl); (· rfl); (· exact B1.out.blk)))
  clear a22 f22
  refine (HR.out _).mono ?_; rintro e w2 ⟨rfl, hb⟩
  replace B0 := Lib.hid (B0.out.keep hb)
  replace B1 := Lib.hid (B1.out.keep hb)
  replace R0 := Lib.hid (R0.out.keep hb)
  replace bel := Lib.hid (Bx.then_below bel.out hb)
  clear hb
  have a2 := B0.out.at 2 rfl
  have b4 := B1.out.at 4 rfl
  rw [hl'.out] at b4
  rw [he'.out] at a2
  go_wp2_with (first | ((with_reducible refine cd_load ?_ ?_ (w.heap.size) ?_ { c with tel := true } ?_ ?_); (· rfl); (· rfl); (· rfl); (· exact B0.out.blk)) | ((with_reducible refine bd_load ?_ ?_ (w.heap.size + 1) ?_ b ?_ ?_); (· rfl); (· rfl); (· rfl); (· exact B1.out.blk)))
  refine (HD.out _).mono ?_; rintro e w3 ⟨rfl, hb⟩
  replace B0 := Lib.hid (B0.out.keep hb)
  replace B1 := Lib.hid (B1.out.keep hb)
  replace R0 := Lib.hid (R0.out.keep hb)
  replace bel := Lib.hid (Bx.then_below bel.out hb)
  clear hb
  clear a2 b4
  have O0 := Lib.hid B0.out.own
  replace B1 := Lib.hid (B1.out.apart_at (k' := w.heap.size) (cdl x) 0 (by omega))
  replace R0 := Lib.hid (R0.out.apart_at (k' := w.heap.size) (cdl x) 0 (by omega))
  replace bel := Lib.hid (Bx.bel_put_at (k := w.heap.size) (cdl x) 0 (Nat.le_refl _) bel.out)
  replace B0 := Lib.hid (B0.out.full (m := cdl x) rfl)
  go_wp2_with (first | ((with_reducible refine cd_load ?_ ?_ (w.heap.size) ?_ x ?_ ?_); (· rfl); (· rfl); (· rfl); (· exact B0.out.blk)) | ((with_reducible refine cd_store ?_ ?_ (w.heap.size) x ?_ ?_ (cdl { c with tel := true }) ?_ ?_ ?_); (· rfl); (· rfl); (· rfl); (· rfl); (· rfl); (· exact O0.out)) | ((with_reducible refine cd_store ?_ ?_ (w.heap.size + 1 + 1) x ?_ ?_ (cdl Cd.zero) ?_ ?_ ?_); (· rfl); (· rfl); (· rfl); (· rfl); (· rfl); (· exact R0.out.own)))
  exact bodyPost_ret (v := .tuple #[cdv x, .int .i64 3]) (cd_result2 Try.results16 rfl rfl (R0.out.full (m := cdl x) rfl).blk) rfl ⟨rfl, Bx.bel_put_at (k := w.heap.size + 1 + 1) (cdl x) 0 (by omega) bel.out⟩

set_option maxRecDepth 40000 in
set_option maxHeartbeats 8000000 in
theorem recv4n (c : Cd) (b : Bd) (HS : Hid (∀ w, Calls Try.prog 27 #[cdv c, bdv b] w fun e w' => e = .returned (.int .i64 4) ∧ Below w.heap.size w w')) (hg : b.ag = false) (w : World) : Calls Try.prog 16 #[cdv c, bdv b] w fun e w' => e = .returned (.tuple #[cdv c, .int .i64 4]) ∧ Below w.heap.size w w' := by
  have B0 := Lib.hid (((Bx.Fre.new w (cdl c) 28).more (bdo b)).more (cdo Cd.zero))
  have B1 := Lib.hid ((Bx.Fre.new_at (W := w.alloc (cdo c)) (k := w.heap.size + 1) (bdl b) 49 (by simp)).more (cdo Cd.zero))
  have R0 := Lib.hid (Bx.Fre.new_at (W := (w.alloc (cdo c)).alloc (bdo b)) (k := w.heap.size + 1 + 1) (cdl Cd.zero) 28 (by simp))
  have bel := Lib.hid (Bx.bel_box (Bx.bel_box (Bx.box_below w (cdo c)) (bdo b)) (cdo Cd.zero))
  have hg' := Lib.hid hg
  clear hg
  go_enter Try.func16, Try.ntmps16
  go_wp2_with (first | ((with_reducible refine cd_load ?_ ?_ (w.heap.size) ?_ c ?_ ?_); (· rfl); (· rfl); (· rfl); (· exact B0.out.blk)) | ((with_reducible refine bd_load ?_ ?_ (w.heap.size + 1) ?_ b ?_ ?_); (· rfl); (· rfl); (· rfl); (· exact B1.out.blk)))
  refine (HS.out _).mono ?_; rintro e w1 ⟨rfl, hb⟩
  replace B0 := Lib.hid (B0.out.keep hb)
  replace B1 := Lib.hid (B1.out.keep hb)
  replace R0 := Lib.hid (R0.out.keep hb)
  replace bel := Lib.hid (Bx.then_below bel.out hb)
  clear hb
  have b6 := B1.out.at 6 rfl
  rw [hg'.out] at b6
  go_wp2_with (first | ((with_reducible refine cd_load ?_ ?_ (w.heap.size) ?_ c ?_ ?_); (· rfl); (· rfl); (· rfl); (· exact B0.out.blk)) | ((with_reducible refine cd_store ?_ ?_ (w.heap.size + 1 + 1) c ?_ ?_ (cdl Cd.zero) ?_ ?_ ?_); (· rfl); (· rfl); (· rfl); (· rfl); (· rfl); (· exact R0.out.own)))
  exact bodyPost_ret (v := .tuple #[cdv c, .int .i64 4]) (cd_result2 Try.results16 rfl rfl (R0.out.full (m := cdl c) rfl).blk) rfl ⟨rfl, Bx.bel_put_at (k := w.heap.size + 1 + 1) (cdl c) 0 (by omega) bel.out⟩

set_option maxRecDepth 40000 in
set_option maxHeartbeats 8000000 in
theorem recv4o (c : Cd) (b : Bd) (HS : Hid (∀ w, Calls Try.prog 27 #[cdv c, bdv b] w fun e w' => e = .returned (.int .i64 4) ∧ Below w.heap.size w w')) (hg : b.ag = true) (hr : (c.role == 3) = false) (w : World) : Calls Try.prog 16 #[cdv c, bdv b] w fun e w' => e = .returned (.tuple #[cdv c, .int .i64 4]) ∧ Below w.heap.size w w' := by
  have B0 := Lib.hid (((Bx.Fre.new w (cdl c) 28).more (bdo b)).more (cdo Cd.zero))
  have B1 := Lib.hid ((Bx.Fre.new_at (W := w.alloc (cdo c)) (k := w.heap.size + 1) (bdl b) 49 (by simp)).more (cdo Cd.zero))
  have R0 := Lib.hid (Bx.Fre.new_at (W := (w.alloc (cdo c)).alloc (bdo b)) (k := w.heap.size + 1 + 1) (cdl Cd.zero) 28 (by simp))
  have bel := Lib.hid (Bx.bel_box (Bx.bel_box (Bx.box_below w (cdo c)) (bdo b)) (cdo Cd.zero))
  have hg' := Lib.hid hg
  clear hg
  go_enter Try.func16, Try.ntmps16
  go_wp2_with (first | ((with_reducible refine cd_load ?_ ?_ (w.heap.size) ?_ c ?_ ?_); (· rfl); (· rfl); (· rfl); (· exact B0.out.blk)) | ((with_reducible refine bd_load ?_ ?_ (w.heap.size + 1) ?_ b ?_ ?_); (· rfl); (· rfl); (· rfl); (· exact B1.out.blk)))
  refine (HS.out _).mono ?_; rintro e w1 ⟨rfl, hb⟩
  replace B0 := Lib.hid (B0.out.keep hb)
  replace B1 := Lib.hid (B1.out.keep hb)
  replace R0 := Lib.hid (R0.out.keep hb)
  replace bel := Lib.hid (Bx.then_below bel.out hb)
  clear hb
  have a13 := B0.out.at 13 rfl
  have b6 := B1.out.at 6 rfl
  rw [hg'.out] at b6
  go_wp2_with (first | ((with_reducible refine cd_load ?_ ?_ (w.heap.size) ?_ c ?_ ?_); (· rfl); (· rfl); (· rfl); (· exact B0.out.blk)) | ((with_reducible refine cd_store ?_ ?_ (w.heap.size + 1 + 1) c ?_ ?_ (cdl Cd.zero) ?_ ?_ ?_); (· rfl); (· rfl); (· rfl); (· rfl); (· rfl); (· exact R0.out.own)))
  exact bodyPost_ret (v := .tuple #[cdv c, .int .i64 4]) (cd_result2 Try.results16 rfl rfl (R0.out.full (m := cdl c) rfl).blk) rfl ⟨rfl, Bx.bel_put_at (k := w.heap.size + 1 + 1) (cdl c) 0 (by omega) bel.out⟩

set_option maxRecDepth 40000 in
set_option maxHeartbeats 8000000 in
theorem recv4y (c : Cd) (b : Bd) (HS : Hid (∀ w, Calls Try.prog 27 #[cdv c, bdv b] w fun e w' => e = .returned (.int .i64 4) ∧ Below w.heap.size w w')) (hg : b.ag = true) (hr : (c.role == 3) = true) (w : World) : Calls Try.prog 16 #[cdv c, bdv b] w fun e w' => e = .returned (.tuple #[cdv { c with agd := true, png := false }, .int .i64 4]) ∧ Below w.heap.size w w' := by
  have B0 := Lib.hid (((Bx.Fre.new w (cdl c) 28).more (bdo b)).more (cdo Cd.zero))
  have B1 := Lib.hid ((Bx.Fre.new_at (W := w.alloc (cdo c)) (k := w.heap.size + 1) (bdl b) 49 (by simp)).more (cdo Cd.zero))
  have R0 := Lib.hid (Bx.Fre.new_at (W := (w.alloc (cdo c)).alloc (bdo b)) (k := w.heap.size + 1 + 1) (cdl Cd.zero) 28 (by simp))
  have bel := Lib.hid (Bx.bel_box (Bx.bel_box (Bx.box_below w (cdo c)) (bdo b)) (cdo Cd.zero))
  have hg' := Lib.hid hg
  clear hg
  go_enter Try.func16, Try.ntmps16
  go_wp2_with (first | ((with_reducible refine cd_load ?_ ?_ (w.heap.size) ?_ c ?_ ?_); (· rfl); (· rfl); (· rfl); (· exact B0.out.blk)) | ((with_reducible refine bd_load ?_ ?_ (w.heap.size + 1) ?_ b ?_ ?_); (· rfl); (· rfl); (· rfl); (· exact B1.out.blk)))
  refine (HS.out _).mono ?_; rintro e w1 ⟨rfl, hb⟩
  replace B0 := Lib.hid (B0.out.keep hb)
  replace B1 := Lib.hid (B1.out.keep hb)
  replace R0 := Lib.hid (R0.out.keep hb)
  replace bel := Lib.hid (Bx.then_below bel.out hb)
  clear hb
  have a13 := B0.out.at 13 rfl
  have b6 := B1.out.at 6 rfl
  rw [hg'.out] at b6
  have a15 := B0.out.at 15 rfl
  have f15 := B0.out.2.2 15
  have a17 := B0.out.at 17 rfl
  have f17 := B0.out.2.2 17
  replace B1 := Lib.hid (B1.out.other (k' := w.heap.size) (o := 15) (x := .bool true) (by omega))
  replace R0 := Lib.hid (R0.out.other (k' := w.heap.size) (o := 15) (x := .bool true) (by omega))
  replace bel := Lib.hid (Bx.bel_set (k := w.heap.size) (o := 15) (x := .bool true) (Nat.le_refl _) bel.out)
  replace B0 := Lib.hid ((B0.out.set 15 (.bool true)).of (m := cdl { c with agd := true }) rfl)
  replace B1 := Lib.hid (B1.out.other (k' := w.heap.size) (o := 17) (x := .bool false) (by omega))
  replace R0 := Lib.hid (R0.out.other (k' := w.heap.size) (o := 17) (x := .bool false) (by omega))
  replace bel := Lib.hid (Bx.bel_set (k := w.heap.size) (o := 17) (x := .bool false) (Nat.le_refl _) bel.out)
  replace B0 := Lib.hid ((B0.out.set 17 (.bool false)).of (m := cdl { c with agd := true, png := false }) rfl)
  go_wp2_with (first | ((with_reducible refine cd_load ?_ ?_ (w.heap.size) ?_ { c with agd := true, png := false } ?_ ?_); (· rfl); (· rfl); (· rfl); (· exact B0.out.blk)) | ((with_reducible refine cd_store ?_ ?_ (w.heap.size + 1 + 1) { c with agd := true, png := false } ?_ ?_ (cdl Cd.zero) ?_ ?_ ?_); (· rfl); (· rfl); (· rfl); (· rfl); (· rfl); (· exact R0.out.own)))
  exact bodyPost_ret (v := .tuple #[cdv { c with agd := true, png := false }, .int .i64 4]) (cd_result2 Try.results16 rfl rfl (R0.out.full (m := cdl { c with agd := true, png := false }) rfl).blk) rfl ⟨rfl, Bx.bel_put_at (k := w.heap.size + 1 + 1) (cdl { c with agd := true, png := false }) 0 (by omega) bel.out⟩

set_option maxRecDepth 40000 in
set_option maxHeartbeats 8000000 in
theorem recv0 (c : Cd) (b : Bd) (HS : Hid (∀ w, Calls Try.prog 27 #[cdv c, bdv b] w fun e w' => e = .returned (.int .i64 0) ∧ Below w.heap.size w w')) (w : World) : Calls Try.prog 16 #[cdv c, bdv b] w fun e w' => e = .returned (.tuple #[cdv c, .int .i64 0]) ∧ Below w.heap.size w w' := by
  have B0 := Lib.hid (((Bx.Fre.new w (cdl c) 28).more (bdo b)).more (cdo Cd.zero))
  have B1 := Lib.hid ((Bx.Fre.new_at (W := w.alloc (cdo c)) (k := w.heap.size + 1) (bdl b) 49 (by simp)).more (cdo Cd.zero))
  have R0 := Lib.hid (Bx.Fre.new_at (W := (w.alloc (cdo c)).alloc (bdo b)) (k := w.heap.size + 1 + 1) (cdl Cd.zero) 28 (by simp))
  have bel := Lib.hid (Bx.bel_box (Bx.bel_box (Bx.box_below w (cdo c)) (bdo b)) (cdo Cd.zero))
  go_enter Try.func16, Try.ntmps16
  go_wp2_with (first | ((with_reducible refine cd_load ?_ ?_ (w.heap.size) ?_ c ?_ ?_); (· rfl); (· rfl); (· rfl); (· exact B0.out.blk)) | ((with_reducible refine bd_load ?_ ?_ (w.heap.size + 1) ?_ b ?_ ?_); (· rfl); (· rfl); (· rfl); (· exact B1.out.blk)))
  refine (HS.out _).mono ?_; rintro e w1 ⟨rfl, hb⟩
  replace B0 := Lib.hid (B0.out.keep hb)
  replace B1 := Lib.hid (B1.out.keep hb)
  replace R0 := Lib.hid (R0.out.keep hb)
  replace bel := Lib.hid (Bx.then_below bel.out hb)
  clear hb
  go_wp2_with (first | ((with_reducible refine cd_load ?_ ?_ (w.heap.size) ?_ c ?_ ?_); (· rfl); (· rfl); (· rfl); (· exact B0.out.blk)) | ((with_reducible refine cd_store ?_ ?_ (w.heap.size + 1 + 1) c ?_ ?_ (cdl Cd.zero) ?_ ?_ ?_); (· rfl); (· rfl); (· rfl); (· rfl); (· rfl); (· exact R0.out.own)))
  exact bodyPost_ret (v := .tuple #[cdv c, .int .i64 0]) (cd_result2 Try.results16 rfl rfl (R0.out.full (m := cdl c) rfl).blk) rfl ⟨rfl, Bx.bel_put_at (k := w.heap.size + 1 + 1) (cdl c) 0 (by omega) bel.out⟩

theorem sort_is (c : Cd) (b : Bd) : sortI c b = 0 ∨ sortI c b = 1 ∨ sortI c b = 2 ∨ sortI c b = 3 ∨ sortI c b = 4 := by
  unfold sortI sortD
  repeat' split
  all_goals simp

theorem recv_any (c : Cd) (b : Bd) (ha : -9223372036854775808 ≤ b.t.a) (hm : b.t.m ≤ 9223372036854775807) (w : World) : Calls Try.prog 16 #[cdv c, bdv b] w fun e w' => e = .returned (.tuple #[cdv (recvC c b), .int .i64 (sortI c b)]) ∧ Below w.heap.size w w' := by
  have HS := fun w => sort_any c b ha w
  have HA := fun w => anew_any c b ha hm w
  have HG := fun w => good_any b hm w
  have HR := fun w => rapid_any b w
  have HD := fun c w => disp_any c w
  unfold recvC
  rcases sort_is c b with hs | hs | hs | hs | hs <;> rw [hs] at HS ⊢
  · exact recv0 c b (Lib.hid HS) w
  · rw [if_pos rfl]
    unfold hearC
    cases h : rapB b <;> rw [h] at HR
    · exact recv1ff c _ b (Lib.hid HS) (Lib.hid HA) rfl (Lib.hid HR) _ (Lib.hid HG) w
    · exact recv1ft c _ b (Lib.hid HS) (Lib.hid HA) rfl (Lib.hid HR) _ (Lib.hid HG) w
  · rw [if_neg (by decide), if_pos rfl]
    unfold hearC
    cases hp : c.prd
    · cases h : rapB b <;> rw [h] at HR
      · exact recv2ff c b (Lib.hid HS) hp (Lib.hid HR) _ (Lib.hid HG) w
      · exact recv2ft c b (Lib.hid HS) hp (Lib.hid HR) _ (Lib.hid HG) w
    · exact recv2tt c b (Lib.hid HS) hp _ (Lib.hid HG) w
  · rw [if_neg (by decide), if_neg (by decide), if_pos rfl]
    cases h : rapB b <;> rw [h] at HR
    · rw [show worseC c b = { c with tel := true } by unfold worseC; rw [if_neg (by simp [h])]]
      exact recv3r c b (Lib.hid HS) (Lib.hid HR) w
    rcases Bool.eq_false_or_eq_true b.le with hl | hl
    · rcases Bool.eq_false_or_eq_true c.edge with he | he
      · rw [show worseC c b = { c with tel := true } by unfold worseC; rw [if_neg (by simp [he])]]
        exact recv3e c b (Lib.hid HS) (Lib.hid HR) hl he w
      · rw [show worseC c b = dispC { c with tel := true } by unfold worseC; rw [if_pos (by simp [h, hl, he])]]
        exact recv3d c _ b (Lib.hid HS) (Lib.hid HR) hl he (Lib.hid fun w => HD _ w) w
    · rw [show worseC c b = { c with tel := true } by unfold worseC; rw [if_neg (by simp [hl])]]
      exact recv3l c b (Lib.hid HS) (Lib.hid HR) hl w
  · rw [if_neg (by decide), if_neg (by decide), if_neg (by decide), if_pos rfl]
    unfold agreeC
    cases hg : b.ag
    · exact recv4n c b (Lib.hid HS) hg w
    by_cases hr : c.role = 3
    · rw [decide_eq_true hr]
      exact recv4y c b (Lib.hid HS) hg (by simpa using hr) w
    · rw [decide_eq_false hr]
      exact recv4o c b (Lib.hid HS) hg (by simpa using hr) w

end Rsp
end Go.Proofs.Ytihfganogemgkaa
