/-
  The statement RstpportWorse: for every port and every BPDU the law RstpportWorse returns true, and its arguments read afterwards as they read before.
-/
import Derived.Test.YtmjkhgmdoilpeaaRspFacts
import Derived.Test.YtmjkhgmdoilpeaaRspF
import Derived.Test.YtmjkhgmdoilpeaaCrdOpen
import Derived.Test.YtmjkhgmdoilpeaaFrame
import Derived.Test.YtmjkhgmdoilpeaaRows
namespace Go.Proofs.Ytmjkhgmdoilpeaa
open Go.RowKit
namespace Rsp
open Pre Crd

set_option maxRecDepth 40000 in
set_option maxHeartbeats 8000000 in
theorem worse_1 (c d : Cd) (b : Bd) (HR : Hid (∀ w, Calls Try.prog 6 #[cdv c, bdv b] w fun e w' => e = .returned (.tuple #[cdv d, .int .i64 1]) ∧ Below w.heap.size w w')) (HA : Hid (∀ w, Calls Try.prog 7 #[] w fun e w' => e = .returned (.bool true) ∧ Below w.heap.size w w')) (e5 : d.agd = false) (w : World) : Calls Try.prog 4 #[cdv c, bdv b] w fun e w' => e = .returned (.bool true) ∧ Below w.heap.size w w' := by
  have E5 := Lib.hid e5
  clear e5
  have B0 := Lib.hid ((Bx.Fre.new w (cdl c) 28).more (bdo b))
  have B1 := Lib.hid (Bx.Fre.new_at (W := w.alloc (cdo c)) (k := w.heap.size + 1) (bdl b) 30 (by simp))
  have bel := Lib.hid (Bx.bel_box (Bx.box_below w (cdo c)) (bdo b))
  go_enter Try.func4, Try.ntmps4
  go_wp2_with (first | ((with_reducible refine cd_load ?_ ?_ (w.heap.size) ?_ c ?_ ?_); (· rfl); (· rfl); (· rfl); (· exact B0.out.blk)) | ((with_reducible refine bd_load ?_ ?_ (w.heap.size + 1) ?_ b ?_ ?_); (· rfl); (· rfl); (· rfl); (· exact B1.out.blk)))
  refine (HR.out _).mono ?_; rintro e w1 ⟨rfl, hb⟩
  replace B0 := Lib.hid (B0.out.keep hb)
  replace B1 := Lib.hid (B1.out.keep hb)
  replace bel := Lib.hid (Bx.then_below bel.out hb)
  clear hb
  have B2 := Lib.hid (Bx.Fre.new w1 (cdl d) 28)
  replace B0 := Lib.hid (B0.out.more (cdo d))
  replace B1 := Lib.hid (B1.out.more (cdo d))
  replace bel := Lib.hid (Bx.bel_box bel.out (cdo d))
  have d15 := B2.out.at 15 rfl
  rw [E5.out] at d15
  go_wp2_with (first | ((with_reducible refine cd_fresh ?_ ?_ (w1.heap.size) d ?_ ?_ (w1) (cdl Cd.zero) ?_ ?_ ?_ ?_); (· rfl); (· rfl); (· rfl); (· rfl); (· rfl); (· rfl); (· first | rfl | (simp; done))))
  refine (HA.out _).mono ?_; rintro e w9 ⟨rfl, hb⟩
  replace bel := Lib.hid (Bx.then_below bel.out hb)
  clear hb
  go_wp2_with fail
  go_ret
  exact ⟨rfl, bel.out⟩

set_option maxRecDepth 40000 in
set_option maxHeartbeats 8000000 in
theorem worse_3f (c d : Cd) (b : Bd) (HR : Hid (∀ w, Calls Try.prog 6 #[cdv c, bdv b] w fun e w' => e = .returned (.tuple #[cdv d, .int .i64 3]) ∧ Below w.heap.size w w')) (HA : Hid (∀ w, Calls Try.prog 7 #[] w fun e w' => e = .returned (.bool true) ∧ Below w.heap.size w w')) (e1 : d.v = c.v) (e2 : d.t = c.t) (e3 : d.info = c.info) (e4 : d.tel = true) (e5 : d.agd = false) (w : World) : Calls Try.prog 4 #[cdv c, bdv b] w fun e w' => e = .returned (.bool true) ∧ Below w.heap.size w w' := by
  have E1 := Lib.hid e1
  have E2 := Lib.hid e2
  have E3 := Lib.hid e3
  have E4 := Lib.hid e4
  have E5 := Lib.hid e5
  clear e1 e2 e3 e4 e5
  have hv : ∀ w, (binOp .neq 24 (vv c.v) (vv c.v)).run Try.prog w = .ok (.bool false) w := fun w => by rw [vneq_at]; simp
  have hvg := fun op a y w => vguard_at op a y c.v c.v w
  have ht : ∀ w, (binOp .neq 26 (tmv c.t) (tmv c.t)).run Try.prog w = .ok (.bool false) w := fun w => by rw [tneq_at]; simp
  have htg := fun op a y w => tguard_at op a y c.t c.t w
  have B0 := Lib.hid ((Bx.Fre.new w (cdl c) 28).more (bdo b))
  have B1 := Lib.hid (Bx.Fre.new_at (W := w.alloc (cdo c)) (k := w.heap.size + 1) (bdl b) 30 (by simp))
  have bel := Lib.hid (Bx.bel_box (Bx.box_below w (cdo c)) (bdo b))
  go_enter Try.func4, Try.ntmps4
  go_wp2_with (first | ((with_reducible refine cd_load ?_ ?_ (w.heap.size) ?_ c ?_ ?_); (· rfl); (· rfl); (· rfl); (· exact B0.out.blk)) | ((with_reducible refine bd_load ?_ ?_ (w.heap.size + 1) ?_ b ?_ ?_); (· rfl); (· rfl); (· rfl); (· exact B1.out.blk)))
  refine (HR.out _).mono ?_; rintro e w1 ⟨rfl, hb⟩
  replace B0 := Lib.hid (B0.out.keep hb)
  replace B1 := Lib.hid (B1.out.keep hb)
  replace bel := Lib.hid (Bx.then_below bel.out hb)
  clear hb
  have B2 := Lib.hid (Bx.Fre.new w1 (cdl d) 28)
  replace B0 := Lib.hid (B0.out.more (cdo d))
  replace B1 := Lib.hid (B1.out.more (cdo d))
  replace bel := Lib.hid (Bx.bel_box bel.out (cdo d))
  have c5 := B0.out.at 5 rfl
  have d5 := B2.out.at 5 rfl
  have c6 := B0.out.at 6 rfl
  have d6 := B2.out.at 6 rfl
  have c7 := B0.out.at 7 rfl
  have d7 := B2.out.at 7 rfl
  have c8 := B0.out.at 8 rfl
  have d8 := B2.out.at 8 rfl
  have c9 := B0.out.at 9 rfl
  have d9 := B2.out.at 9 rfl
  have c10 := B0.out.at 10 rfl
  have d10 := B2.out.at 10 rfl
  have c11 := B0.out.at 11 rfl
  have d11 := B2.out.at 11 rfl
  have c12 := B0.out.at 12 rfl
  have d12 := B2.out.at 12 rfl
  rw [E1.out] at d5
  rw [E1.out] at d6
  rw [E1.out] at d7
  rw [E1.out] at d8
  rw [E2.out] at d9
  rw [E2.out] at d10
  rw [E2.out] at d11
  rw [E2.out] at d12
  have c4 := B0.out.at 4 rfl
  have d4 := B2.out.at 4 rfl
  rw [E3.out] at d4
  have d22 := B2.out.at 22 rfl
  rw [E4.out] at d22
  have d15 := B2.out.at 15 rfl
  rw [E5.out] at d15
  go_wp2_with (first | ((with_reducible refine cd_fresh ?_ ?_ (w1.heap.size) d ?_ ?_ (w1) (cdl Cd.zero) ?_ ?_ ?_ ?_); (· rfl); (· rfl); (· rfl); (· rfl); (· rfl); (· rfl); (· first | rfl | (simp; done))))
  refine (HA.out _).mono ?_; rintro e w9 ⟨rfl, hb⟩
  replace bel := Lib.hid (Bx.then_below bel.out hb)
  clear hb
  go_wp2_with fail
  go_ret
  exact ⟨rfl, bel.out⟩

set_option maxRecDepth 40000 in
set_option maxHeartbeats 8000000 in
theorem worse_3t (c d : Cd) (b : Bd) (HR : Hid (∀ w, Calls Try.prog 6 #[cdv c, bdv b] w fun e w' => e = .returned (.tuple #[cdv d, .int .i64 3]) ∧ Below w.heap.size w w')) (HA : Hid (∀ w, Calls Try.prog 7 #[] w fun e w' => e = .returned (.bool true) ∧ Below w.heap.size w w')) (e1 : d.v = c.v) (e2 : d.t = c.t) (e3 : d.info = c.info) (e4 : d.tel = true) (e5 : d.agd = true) (e6 : c.agd = true) (w : World) : Calls Try.prog 4 #[cdv c, bdv b] w fun e w' => e = .returned (.bool true) ∧ Below w.heap.size w w' := by
  have E1 := Lib.hid e1
  have E2 := Lib.hid e2
  have E3 := Lib.hid e3
  have E4 := Lib.hid e4
  have E5 := Lib.hid e5
  have E6 := Lib.hid e6
  clear e1 e2 e3 e4 e5 e6
  have hv : ∀ w, (binOp .neq 24 (vv c.v) (vv c.v)).run Try.prog w = .ok (.bool false) w := fun w => by rw [vneq_at]; simp
  have hvg := fun op a y w => vguard_at op a y c.v c.v w
  have ht : ∀ w, (binOp .neq 26 (tmv c.t) (tmv c.t)).run Try.prog w = .ok (.bool false) w := fun w => by rw [tneq_at]; simp
  have htg := fun op a y w => tguard_at op a y c.t c.t w
  have B0 := Lib.hid ((Bx.Fre.new w (cdl c) 28).more (bdo b))
  have B1 := Lib.hid (Bx.Fre.new_at (W := w.alloc (cdo c)) (k := w.heap.size + 1) (bdl b) 30 (by simp))
  have bel := Lib.hid (Bx.bel_box (Bx.box_below w (cdo c)) (bdo b))
  go_enter Try.func4, Try.ntmps4
  go_wp2_with (first | ((with_reducible refine cd_load ?_ ?_ (w.heap.size) ?_ c ?_ ?_); (· rfl); (· rfl); (· rfl); (· exact B0.out.blk)) | ((with_reducible refine bd_load ?_ ?_ (w.heap.size + 1) ?_ b ?_ ?_); (· rfl); (· rfl); (· rfl); (· exact B1.out.blk)))
  refine (HR.out _).mono ?_; rintro e w1 ⟨rfl, hb⟩
  replace B0 := Lib.hid (B0.out.keep hb)
  replace B1 := Lib.hid (B1.out.keep hb)
  replace bel := Lib.hid (Bx.then_below bel.out hb)
  clear hb
  have B2 := Lib.hid (Bx.Fre.new w1 (cdl d) 28)
  replace B0 := Lib.hid (B0.out.more (cdo d))
  replace B1 := Lib.hid (B1.out.more (cdo d))
  replace bel := Lib.hid (Bx.bel_box bel.out (cdo d))
  have c5 := B0.out.at 5 rfl
  have d5 := B2.out.at 5 rfl
  have c6 := B0.out.at 6 rfl
  have d6 := B2.out.at 6 rfl
  have c7 := B0.out.at 7 rfl
  have d7 := B2.out.at 7 rfl
  have c8 := B0.out.at 8 rfl
  have d8 := B2.out.at 8 rfl
  have c9 := B0.out.at 9 rfl
  have d9 := B2.out.at 9 rfl
  have c10 := B0.out.at 10 rfl
  have d10 := B2.out.at 10 rfl
  have c11 := B0.out.at 11 rfl
  have d11 := B2.out.at 11 rfl
  have c12 := B0.out.at 12 rfl
  have d12 := B2.out.at 12 rfl
  rw [E1.out] at d5
  rw [E1.out] at d6
  rw [E1.out] at d7
  rw [E1.out] at d8
  rw [E2.out] at d9
  rw [E2.out] at d10
  rw [E2.out] at d11
  rw [E2.out] at d12
  have c4 := B0.out.at 4 rfl
  have d4 := B2.out.at 4 rfl
  rw [E3.out] at d4
  have d22 := B2.out.at 22 rfl
  rw [E4.out] at d22
  have d15 := B2.out.at 15 rfl
  rw [E5.out] at d15
  have c15 := B0.out.at 15 rfl
  rw [E6.out] at c15
  go_wp2_with (first | ((with_reducible refine cd_fresh ?_ ?_ (w1.heap.size) d ?_ ?_ (w1) (cdl Cd.zero) ?_ ?_ ?_ ?_); (· rfl); (· rfl); (· rfl); (· rfl); (· rfl); (· rfl); (· first | rfl | (simp; done))))
  refine (HA.out _).mono ?_; rintro e w9 ⟨rfl, hb⟩
  replace bel := Lib.hid (Bx.then_below bel.out hb)
  clear hb
  go_wp2_with fail
  go_ret
  exact ⟨rfl, bel.out⟩

set_option maxRecDepth 40000 in
set_option maxHeartbeats 8000000 in
theorem worse_sf (c d : Cd) (b : Bd) (s : Int) (HR : Hid (∀ w, Calls Try.prog 6 #[cdv c, bdv b] w fun e w' => e = .returned (.tuple #[cdv d, .int .i64 s]) ∧ Below w.heap.size w w')) (HA : Hid (∀ w, Calls Try.prog 7 #[] w fun e w' => e = .returned (.bool true) ∧ Below w.heap.size w w')) (e1 : d.v = c.v) (e2 : d.t = c.t) (e3 : d.info = c.info) (e5 : d.agd = false) (h1 : ¬ s = 1) (h3 : ¬ s = 3) (w : World) : Calls Try.prog 4 #[cdv c, bdv b] w fun e w' => e = .returned (.bool true) ∧ Below w.heap.size w w' := by
  have s1 : (s != 1) = true := by simpa using h1
  have s1' : (s == 1) = false := by simpa using h1
  have s3 : (s == 3) = false := by simpa using h3
  clear h1 h3
  have E1 := Lib.hid e1
  have E2 := Lib.hid e2
  have E3 := Lib.hid e3
  have E5 := Lib.hid e5
  clear e1 e2 e3 e5
  have hv : ∀ w, (binOp .neq 24 (vv c.v) (vv c.v)).run Try.prog w = .ok (.bool false) w := fun w => by rw [vneq_at]; simp
  have hvg := fun op a y w => vguard_at op a y c.v c.v w
  have ht : ∀ w, (binOp .neq 26 (tmv c.t) (tmv c.t)).run Try.prog w = .ok (.bool false) w := fun w => by rw [tneq_at]; simp
  have htg := fun op a y w => tguard_at op a y c.t c.t w
  have B0 := Lib.hid ((Bx.Fre.new w (cdl c) 28).more (bdo b))
  have B1 := Lib.hid (Bx.Fre.new_at (W := w.alloc (cdo c)) (k := w.heap.size + 1) (bdl b) 30 (by simp))
  have bel := Lib.hid (Bx.bel_box (Bx.box_below w (cdo c)) (bdo b))
  go_enter Try.func4, Try.ntmps4
  go_wp2_with (first | ((with_reducible refine cd_load ?_ ?_ (w.heap.size) ?_ c ?_ ?_); (· rfl); (· rfl); (· rfl); (· exact B0.out.blk)) | ((with_reducible refine bd_load ?_ ?_ (w.heap.size + 1) ?_ b ?_ ?_); (· rfl); (· rfl); (· rfl); (· exact B1.out.blk)))
  refine (HR.out _).mono ?_; rintro e w1 ⟨rfl, hb⟩
  replace B0 := Lib.hid (B0.out.keep hb)
  replace B1 := Lib.hid (B1.out.keep hb)
  replace bel := Lib.hid (Bx.then_below bel.out hb)
  clear hb
  have B2 := Lib.hid (Bx.Fre.new w1 (cdl d) 28)
  replace B0 := Lib.hid (B0.out.more (cdo d))
  replace B1 := Lib.hid (B1.out.more (cdo d))
  replace bel := Lib.hid (Bx.bel_box bel.out (cdo d))
  have c5 := B0.out.at 5 rfl
  have d5 := B2.out.at 5 rfl
  have c6 := B0.out.at 6 rfl
  have d6 := B2.out.at 6 rfl
  have c7 := B0.out.at 7 rfl
  have d7 := B2.out.at 7 rfl
  have c8 := B0.out.at 8 rfl
  have d8 := B2.out.at 8 rfl
  have c9 := B0.out.at 9 rfl
  have d9 := B2.out.at 9 rfl
  have c10 := B0.out.at 10 rfl
  have d10 := B2.out.at 10 rfl
  have c11 := B0.out.at 11 rfl
  have d11 := B2.out.at 11 rfl
  have c12 := B0.out.at 12 rfl
  have d12 := B2.out.at 12 rfl
  rw [E1.out] at d5
  rw [E1.out] at d6
  rw [E1.out] at d7
  rw [E1.out] at d8
  rw [E2.out] at d9
  rw [E2.out] at d10
  rw [E2.out] at d11
  rw [E2.out] at d12
  have c4 := B0.out.at 4 rfl
  have d4 := B2.out.at 4 rfl
  rw [E3.out] at d4
  have d15 := B2.out.at 15 rfl
  rw [E5.out] at d15
  go_wp2_with (first | ((with_reducible refine cd_fresh ?_ ?_ (w1.heap.size) d ?_ ?_ (w1) (cdl Cd.zero) ?_ ?_ ?_ ?_); (· rfl); (· rfl); (· rfl); (· rfl); (· rfl); (· rfl); (· first | rfl | (simp; done))))
  refine (HA.out _).mono ?_; rintro e w9 ⟨rfl, hb⟩
  replace bel := Lib.hid (Bx.then_below bel.out hb)
  clear hb
  go_wp2_with fail
  go_ret
  exact ⟨rfl, bel.out⟩

set_option maxRecDepth 40000 in
set_option maxHeartbeats 8000000 in
theorem worse_st (c d : Cd) (b : Bd) (s : Int) (HR : Hid (∀ w, Calls Try.prog 6 #[cdv c, bdv b] w fun e w' => e = .returned (.tuple #[cdv d, .int .i64 s]) ∧ Below w.heap.size w w')) (HA : Hid (∀ w, Calls Try.prog 7 #[] w fun e w' => e = .returned (.bool true) ∧ Below w.heap.size w w')) (e1 : d.v = c.v) (e2 : d.t = c.t) (e3 : d.info = c.info) (e5 : d.agd = true) (e6 : c.agd = true) (h1 : ¬ s = 1) (h3 : ¬ s = 3) (w : World) : Calls Try.prog 4 #[cdv c, bdv b] w fun e w' => e = .returned (.bool true) ∧ Below w.heap.size w w' := by
  have s1 : (s != 1) = true := by simpa using h1
  have s1' : (s == 1) = false := by simpa using h1
  have s3 : (s == 3) = false := by simpa using h3
  clear h1 h3
  have E1 := Lib.hid e1
  have E2 := Lib.hid e2
  have E3 := Lib.hid e3
  have E5 := Lib.hid e5
  have E6 := Lib.hid e6
  clear e1 e2 e3 e5 e6
  have hv : ∀ w, (binOp .neq 24 (vv c.v) (vv c.v)).run Try.prog w = .ok (.bool false) w := fun w => by rw [vneq_at]; simp
  have hvg := fun op a y w => vguard_at op a y c.v c.v w
  have ht : ∀ w, (binOp .neq 26 (tmv c.t) (tmv c.t)).run Try.prog w = .ok (.bool false) w := fun w => by rw [tneq_at]; simp
  have htg := fun op a y w => tguard_at op a y c.t c.t w
  have B0 := Lib.hid ((Bx.Fre.new w (cdl c) 28).more (bdo b))
  have B1 := Lib.hid (Bx.Fre.new_at (W := w.alloc (cdo c)) (k := w.heap.size + 1) (bdl b) 30 (by simp))
  have bel := Lib.hid (Bx.bel_box (Bx.box_below w (cdo c)) (bdo b))
  go_enter Try.func4, Try.ntmps4
  go_wp2_with (first | ((with_reducible refine cd_load ?_ ?_ (w.heap.size) ?_ c ?_ ?_); (· rfl); (· rfl); (· rfl); (· exact B0.out.blk)) | ((with_reducible refine bd_load ?_ ?_ (w.heap.size + 1) ?_ b ?_ ?_); (· rfl); (· rfl); (· rfl); (· exact B1.out.blk)))
  refine (HR.out _).mono ?_; rintro e w1 ⟨rfl, hb⟩
  replace B0 := Lib.hid (B0.out.keep hb)
  replace B1 := Lib.hid (B1.out.keep hb)
  replace bel := Lib.hid (Bx.then_below bel.out hb)
  clear hb
  have B2 := Lib.hid (Bx.Fre.new w1 (cdl d) 28)
  replace B0 := Lib.hid (B0.out.more (cdo d))
  replace B1 := Lib.hid (B1.out.more (cdo d))
  replace bel := Lib.hid (Bx.bel_box bel.out (cdo d))
  have c5 := B0.out.at 5 rfl
  have d5 := B2.out.at 5 rfl
  have c6 := B0.out.at 6 rfl
  have d6 := B2.out.at 6 rfl
  have c7 := B0.out.at 7 rfl
  have d7 := B2.out.at 7 rfl
  have c8 := B0.out.at 8 rfl
  have d8 := B2.out.at 8 rfl
  have c9 := B0.out.at 9 rfl
  have d9 := B2.out.at 9 rfl
  have c10 := B0.out.at 10 rfl
  have d10 := B2.out.at 10 rfl
  have c11 := B0.out.at 11 rfl
  have d11 := B2.out.at 11 rfl
  have c12 := B0.out.at 12 rfl
  have d12 := B2.out.at 12 rfl
  rw [E1.out] at d5
  rw [E1.out] at d6
  rw [E1.out] at d7
  rw [E1.out] at d8
  rw [E2.out] at d9
  rw [E2.out] at d10
  rw [E2.out] at d11
  rw [E2.out] at d12
  have c4 := B0.out.at 4 rfl
  have d4 := B2.out.at 4 rfl
  rw [E3.out] at d4
  have d15 := B2.out.at 15 rfl
  rw [E5.out] at d15
  have c15 := B0.out.at 15 rfl
  rw [E6.out] at c15
  go_wp2_with (first | ((with_reducible refine cd_fresh ?_ ?_ (w1.heap.size) d ?_ ?_ (w1) (cdl Cd.zero) ?_ ?_ ?_ ?_); (· rfl); (· rfl); (· rfl); (· rfl); (· rfl); (· rfl); (· first | rfl | (simp; done))))
  refine (HA.out _).mono ?_; rintro e w9 ⟨rfl, hb⟩
  replace bel := Lib.hid (Bx.then_below bel.out hb)
  clear hb
  go_wp2_with fail
  go_ret
  exact ⟨rfl, bel.out⟩

set_option maxRecDepth 40000 in
set_option maxHeartbeats 8000000 in
theorem worse_4 (c d : Cd) (b : Bd) (HR : Hid (∀ w, Calls Try.prog 6 #[cdv c, bdv b] w fun e w' => e = .returned (.tuple #[cdv d, .int .i64 4]) ∧ Below w.heap.size w w')) (HA : Hid (∀ w, Calls Try.prog 7 #[] w fun e w' => e = .returned (.bool true) ∧ Below w.heap.size w w')) (e1 : d.v = c.v) (e2 : d.t = c.t) (e3 : d.info = c.info) (e5 : d.agd = true) (e6 : c.agd = false) (e7 : c.role = 3) (e8 : b.ag = true) (w : World) : Calls Try.prog 4 #[cdv c, bdv b] w fun e w' => e = .returned (.bool true) ∧ Below w.heap.size w w' := by
  have E1 := Lib.hid e1
  have E2 := Lib.hid e2
  have E3 := Lib.hid e3
  have E5 := Lib.hid e5
  have E6 := Lib.hid e6
  have E7 := Lib.hid e7
  have E8 := Lib.hid e8
  clear e1 e2 e3 e5 e6 e7 e8
  have hv : ∀ w, (binOp .neq 24 (vv c.v) (vv c.v)).run Try.prog w = .ok (.bool false) w := fun w => by rw [vneq_at]; simp
  have hvg := fun op a y w => vguard_at op a y c.v c.v w
  have ht : ∀ w, (binOp .neq 26 (tmv c.t) (tmv c.t)).run Try.prog w = .ok (.bool false) w := fun w => by rw [tneq_at]; simp
  have htg := fun op a y w => tguard_at op a y c.t c.t w
  have B0 := Lib.hid ((Bx.Fre.new w (cdl c) 28).more (bdo b))
  have B1 := Lib.hid (Bx.Fre.new_at (W := w.alloc (cdo c)) (k := w.heap.size + 1) (bdl b) 30 (by simp))
  have bel := Lib.hid (Bx.bel_box (Bx.box_below w (cdo c)) (bdo b))
  go_enter Try.func4, Try.ntmps4
  go_wp2_with (first | ((with_reducible refine cd_load ?_ ?_ (w.heap.size) ?_ c ?_ ?_); (· rfl); (· rfl); (· rfl); (· exact B0.out.blk)) | ((with_reducible refine bd_load ?_ ?_ (w.heap.size + 1) ?_ b ?_ ?_); (· rfl); (· rfl); (· rfl); (· exact B1.out.blk)))
  refine (HR.out _).mono ?_; rintro e w1 ⟨rfl, hb⟩
  replace B0 := Lib.hid (B0.out.keep hb)
  replace B1 := Lib.hid (B1.out.keep hb)
  replace bel := Lib.hid (Bx.then_below bel.out hb)
  clear hb
  have B2 := Lib.hid (Bx.Fre.new w1 (cdl d) 28)
  replace B0 := Lib.hid (B0.out.more (cdo d))
  replace B1 := Lib.hid (B1.out.more (cdo d))
  replace bel := Lib.hid (Bx.bel_box bel.out (cdo d))
  have c5 := B0.out.at 5 rfl
  have d5 := B2.out.at 5 rfl
  have c6 := B0.out.at 6 rfl
  have d6 := B2.out.at 6 rfl
  have c7 := B0.out.at 7 rfl
  have d7 := B2.out.at 7 rfl
  have c8 := B0.out.at 8 rfl
  have d8 := B2.out.at 8 rfl
  have c9 := B0.out.at 9 rfl
  have d9 := B2.out.at 9 rfl
  have c10 := B0.out.at 10 rfl
  have d10 := B2.out.at 10 rfl
  have c11 := B0.out.at 11 rfl
  have d11 := B2.out.at 11 rfl
  have c12 := B0.out.at 12 rfl
  have d12 := B2.out.at 12 rfl
  rw [E1.out] at d5
  rw [E1.out] at d6
  rw [E1.out] at d7
  rw [E1.out] at d8
  rw [E2.out] at d9
  rw [E2.out] at d10
  rw [E2.out] at d11
  rw [E2.out] at d12
  have c4 := B0.out.at 4 rfl
  have d4 := B2.out.at 4 rfl
  rw [E3.out] at d4
  have d15 := B2.out.at 15 rfl
  rw [E5.out] at d15
  have c15 := B0.out.at 15 rfl
  rw [E6.out] at c15
  have c13 := B0.out.at 13 rfl
  rw [E7.out] at c13
  have b6 := B1.out.at 6 rfl
  rw [E8.out] at b6
  go_wp2_with (first | ((with_reducible refine cd_fresh ?_ ?_ (w1.heap.size) d ?_ ?_ (w1) (cdl Cd.zero) ?_ ?_ ?_ ?_); (· rfl); (· rfl); (· rfl); (· rfl); (· rfl); (· rfl); (· first | rfl | (simp; done))))
  refine (HA.out _).mono ?_; rintro e w9 ⟨rfl, hb⟩
  replace bel := Lib.hid (Bx.then_below bel.out hb)
  clear hb
  go_wp2_with fail
  go_ret
  exact ⟨rfl, bel.out⟩

theorem law_worse (w : World) (c : Cd) (_hc : wfCd c) (b : Bd) (hb : wfBd b) : Calls Try.prog 4 #[cdv c, bdv b] w fun e w' => e = .returned (.bool true) ∧ Below w.heap.size w w' := by
  have HA := Lib.hid awake_any
  have ht : wfM b.t := hb.2.2.2
  have HR := fun w => recv_any c b ht.1.1 ht.2.1.2 w
  by_cases h1 : sortI c b = 1
  · have e5 := anew_off c b h1
    rw [h1] at HR
    exact worse_1 c _ b (Lib.hid HR) HA e5 w
  obtain ⟨e1, e2, e3⟩ := kept c b h1
  by_cases h3 : sortI c b = 3
  · have e4 := told c b h3
    rcases Bool.eq_false_or_eq_true (recvC c b).agd with e5 | e5
    · rcases Bool.eq_false_or_eq_true c.agd with e6 | e6
      · rw [h3] at HR
        exact worse_3t c _ b (Lib.hid HR) HA e1 e2 e3 e4 e5 e6 w
      · exact absurd (agreed c b e5 e6).2.2 (by omega)
    · rw [h3] at HR
      exact worse_3f c _ b (Lib.hid HR) HA e1 e2 e3 e4 e5 w
  rcases Bool.eq_false_or_eq_true (recvC c b).agd with e5 | e5
  · rcases Bool.eq_false_or_eq_true c.agd with e6 | e6
    · exact worse_st c _ b _ (Lib.hid HR) HA e1 e2 e3 e5 e6 h1 h3 w
    · obtain ⟨e7, e8, h4⟩ := agreed c b e5 e6
      rw [h4] at HR
      exact worse_4 c _ b (Lib.hid HR) HA e1 e2 e3 e5 e6 e7 e8 w
  · exact worse_sf c _ b _ (Lib.hid HR) HA e1 e2 e3 e5 h1 h3 w

end Rsp
namespace LawRstpportWorse
open Go.ChangeShapes Go.WideShapes Go.ChangeAt Go.RowKit
open Go.ChangeMaps (open_string shut_string)

theorem own : ownKnob Try.prog.godebug = none := by kernel_rfl
theorem laidOut : laidOutB Try.prog = true := by kernel_rfl

set_option maxRecDepth 100000 in
theorem lifted (os : Os) (started : os.Started) (H : Type) (enc : TypeId × Value → H) :
    ReturnsInHanded {} Try.checked os 4 .any (Rows.rstpportWorseSpec.pre6 enc Try.prog Try.f4 Rows.rstpportWorseRow.domain false) (Rows.rstpportWorseSpec.post enc Try.prog Try.f4 false true false false) := by
  refine Fr.law_lift (C := Try.checked) (tb := 4) own started (by kernel_rfl) Try.func4
    (ChangeSpec.witness6 (enc := enc) (C := Try.checked) false ⟨#[], #[.agg #[.bool false, .bool false, .bool false, .int .u64 0, .int .i64 0, .int .u64 0, .int .u64 0, .int .u64 0, .int .i64 0, .int .i64 0, .int .i64 0, .int .i64 0, .int .i64 0, .int .i64 0, .int .i64 0, .bool false, .bool false, .bool false, .bool false, .bool false, .bool false, .bool false, .bool false, .bool false, .int .i64 0, .int .i64 0, .int .i64 0, .int .i64 0, .int .i64 0, .int .i64 0, .int .i64 0], .agg #[.int .i64 0, .bool false, .bool false, .int .i64 0, .bool false, .bool false, .bool false, .bool false, .int .u64 0, .int .u64 0, .int .u64 0, .int .i64 0, .int .i64 0, .int .i64 0, .int .i64 0, .int .i64 0]], []⟩ 8 (by kernel_rfl) (by kernel_rfl) (by kernel_rfl) (by kernel_rfl))
    laidOut (by rw [Try.params4]; decide +kernel) rfl Try.underlying4 rfl ?_ ?_
  · intro ds hl
    match ds, hl with
    | [d0, d1], _ => rfl
  · intro W base args ds p hval hA
    rw [Try.params4] at hA hval
    obtain ⟨v0, vs0, d0, ds0, p0, q0, hargs, rfl, rfl, h0, r0⟩ := trodAll_cons hA
    obtain ⟨v1, vs1, d1, ds1, p1, q1, rfl, rfl, rfl, h1, r1⟩ := trodAll_cons r0
    obtain ⟨rfl, rfl, rfl⟩ := trodAll_nil r1
    obtain rfl : args = #[v0, v1] := by cases args; simp_all
    obtain ⟨x0, rfl, hx0⟩ := Crd.open_cd (hval 0 28 v0 rfl rfl) h0
    obtain ⟨x1, rfl, hx1⟩ := Crd.open_bd (hval 1 30 v1 rfl rfl) h1
    exact Rsp.law_worse W x0 hx0 x1 hx1

theorem over : Rows.rstpportWorseRow.holds Try.pinned (OpenSpec.ofChange Rows.rstpportWorseSpec) :=
  OpenClaim.holds_of_wide 4 Try.f4 rfl rfl rfl rfl rfl rfl rfl ⟨rfl, rfl, rfl, rfl, rfl⟩ rfl rfl rfl rfl rfl (by kernel_rfl) Try.func4 (by kernel_rfl)
    (of_decide_eq_true (by kernel_rfl)) (by unfold Func.isWrapper; first | (rw [if_pos (by decide +kernel)]; kernel_rfl) | (rw [if_neg (by decide +kernel)]; exact ⟨rfl, rfl⟩))
    (fun os started H enc _ => lifted os started H enc)
end LawRstpportWorse

/-- The statement RstpportWorse. -/
theorem rstpportWorse_holds : Rows.RstpportWorseSaid := LawRstpportWorse.over

end Go.Proofs.Ytmjkhgmdoilpeaa
