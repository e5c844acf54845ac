/-
  The statement RstpportHears: for every two ports the law RstpportHears returns true, and its arguments read afterwards as they read before.
-/
import Derived.Test.YtmjkhgmdoilpeaaRspFacts
import Derived.Test.YtmjkhgmdoilpeaaRspF
import Derived.Test.YtmjkhgmdoilpeaaCrdOpen
import Derived.Test.YtmjkhgmdoilpeaaFrame
import Derived.Test.YtmjkhgmdoilpeaaRows
namespace Go.Proofs.Ytmjkhgmdoilpeaa
open Go.RowKit
namespace Rsp
open Pre Crd

set_option maxRecDepth 40000 in
set_option maxHeartbeats 8000000 in
theorem hears_low (c d x : Cd) (b : Bd) (HM : Hid (∀ w, Calls Try.prog 5 #[cdv { c with rap := true, role := 3 }] w fun e w' => e = .returned (bdv b) ∧ Below w.heap.size w w')) (HR : Hid (∀ w, Calls Try.prog 6 #[cdv { d with info := 0 }, bdv b] w fun e w' => e = .returned (.tuple #[cdv x, .int .i64 1]) ∧ Below w.heap.size w w')) (HA : Hid (∀ w, Calls Try.prog 7 #[] w fun e w' => e = .returned (.bool true) ∧ Below w.heap.size w w')) (e1 : x.v = c.v) (e2 : x.info = 0) (e3 : x.hrd = 0) (h1 : c.t.m < 1) (w : World) : Calls Try.prog 3 #[cdv c, cdv d] w fun e w' => e = .returned (.bool true) ∧ Below w.heap.size w w' := by
  have E1 := Lib.hid e1
  have E2 := Lib.hid e2
  have E3 := Lib.hid e3
  clear e1 e2 e3
  have hv : ∀ w, (binOp .neq 24 (vv c.v) (vv c.v)).run Try.prog w = .ok (.bool false) w := fun w => by rw [vneq_at]; simp
  have hvg := fun op a y w => vguard_at op a y c.v c.v w
  have B0 := Lib.hid ((Bx.Fre.new w (cdl { c with rap := true, role := 3 }) 28).more (cdo { d with info := 0 }))
  have B1 := Lib.hid (Bx.Fre.new_at (W := w.alloc (cdo { c with rap := true, role := 3 })) (k := w.heap.size + 1) (cdl { d with info := 0 }) 28 (by simp))
  have bel := Lib.hid (Bx.bel_box (Bx.box_below w (cdo { c with rap := true, role := 3 })) (cdo { d with info := 0 }))
  go_enter Try.func3, Try.ntmps3
  go_wp2_with (first | ((with_reducible refine cd_load ?_ ?_ (w.heap.size) ?_ { c with rap := true, role := 3 } ?_ ?_); (· rfl); (· rfl); (· rfl); (· exact B0.out.blk)) | ((with_reducible refine cd_load ?_ ?_ (w.heap.size + 1) ?_ { d with info := 0 } ?_ ?_); (· rfl); (· rfl); (· rfl); (· exact B1.out.blk)))
  refine (HM.out _).mono ?_; rintro e w1 ⟨rfl, hb⟩
  replace B0 := Lib.hid (B0.out.keep hb)
  replace B1 := Lib.hid (B1.out.keep hb)
  replace bel := Lib.hid (Bx.then_below bel.out hb)
  clear hb
  have B2 := Lib.hid (Bx.Fre.new w1 (bdl b) 30)
  replace B0 := Lib.hid (B0.out.more (bdo b))
  replace B1 := Lib.hid (B1.out.more (bdo b))
  replace bel := Lib.hid (Bx.bel_box bel.out (bdo b))
  go_wp2_with (first | ((with_reducible refine bd_fresh ?_ ?_ (w1.heap.size) b ?_ ?_ (w1) (bdl Bd.zero) ?_ ?_ ?_ ?_); (· rfl); (· rfl); (· rfl); (· rfl); (· rfl); (· rfl); (· first | rfl | (simp; done))) | ((with_reducible refine cd_load ?_ ?_ (w.heap.size + 1) ?_ { d with info := 0 } ?_ ?_); (· rfl); (· rfl); (· rfl); (· exact B1.out.blk)) | ((with_reducible refine bd_load ?_ ?_ (w1.heap.size) ?_ b ?_ ?_); (· rfl); (· rfl); (· rfl); (· exact B2.out.blk)))
  refine (HR.out _).mono ?_; rintro e w2 ⟨rfl, hb⟩
  replace B0 := Lib.hid (B0.out.keep hb)
  replace B1 := Lib.hid (B1.out.keep hb)
  replace B2 := Lib.hid (B2.out.keep hb)
  replace bel := Lib.hid (Bx.then_below bel.out hb)
  clear hb
  have B3 := Lib.hid (Bx.Fre.new w2 (cdl x) 28)
  replace B0 := Lib.hid (B0.out.more (cdo x))
  replace B1 := Lib.hid (B1.out.more (cdo x))
  replace B2 := Lib.hid (B2.out.more (cdo x))
  replace bel := Lib.hid (Bx.bel_box bel.out (cdo x))
  have c5 := B0.out.at 5 rfl
  have x5 := B3.out.at 5 rfl
  have c6 := B0.out.at 6 rfl
  have x6 := B3.out.at 6 rfl
  have c7 := B0.out.at 7 rfl
  have x7 := B3.out.at 7 rfl
  have c8 := B0.out.at 8 rfl
  have x8 := B3.out.at 8 rfl
  rw [E1.out] at x5
  rw [E1.out] at x6
  rw [E1.out] at x7
  rw [E1.out] at x8
  have c9 := B0.out.at 9 rfl
  have c10 := B0.out.at 10 rfl
  have x4 := B3.out.at 4 rfl
  rw [E2.out] at x4
  have x24 := B3.out.at 24 rfl
  rw [E3.out] at x24
  go_wp2_with (first | ((with_reducible refine cd_fresh ?_ ?_ (w2.heap.size) x ?_ ?_ (w2) (cdl Cd.zero) ?_ ?_ ?_ ?_); (· rfl); (· rfl); (· rfl); (· rfl); (· rfl); (· rfl); (· first | rfl | (simp; done))))
  refine (HA.out _).mono ?_; rintro e w9 ⟨rfl, hb⟩
  replace bel := Lib.hid (Bx.then_below bel.out hb)
  clear hb
  go_wp2_with fail
  go_ret
  exact ⟨rfl, bel.out⟩

set_option maxRecDepth 40000 in
set_option maxHeartbeats 8000000 in
theorem hears_old (c d x : Cd) (b : Bd) (HM : Hid (∀ w, Calls Try.prog 5 #[cdv { c with rap := true, role := 3 }] w fun e w' => e = .returned (bdv b) ∧ Below w.heap.size w w')) (HR : Hid (∀ w, Calls Try.prog 6 #[cdv { d with info := 0 }, bdv b] w fun e w' => e = .returned (.tuple #[cdv x, .int .i64 1]) ∧ Below w.heap.size w w')) (HA : Hid (∀ w, Calls Try.prog 7 #[] w fun e w' => e = .returned (.bool true) ∧ Below w.heap.size w w')) (e1 : x.v = c.v) (e2 : x.info = 0) (e3 : x.hrd = 0) (hm : c.t.m ≤ 9223372036854775807) (h1 : ¬ c.t.m < 1) (h2 : c.t.m - 1 ≤ c.t.a) (w : World) : Calls Try.prog 3 #[cdv c, cdv d] w fun e w' => e = .returned (.bool true) ∧ Below w.heap.size w w' := by
  have E1 := Lib.hid e1
  have E2 := Lib.hid e2
  have E3 := Lib.hid e3
  clear e1 e2 e3
  have hv : ∀ w, (binOp .neq 24 (vv c.v) (vv c.v)).run Try.prog w = .ok (.bool false) w := fun w => by rw [vneq_at]; simp
  have hvg := fun op a y w => vguard_at op a y c.v c.v w
  have B0 := Lib.hid ((Bx.Fre.new w (cdl { c with rap := true, role := 3 }) 28).more (cdo { d with info := 0 }))
  have B1 := Lib.hid (Bx.Fre.new_at (W := w.alloc (cdo { c with rap := true, role := 3 })) (k := w.heap.size + 1) (cdl { d with info := 0 }) 28 (by simp))
  have bel := Lib.hid (Bx.bel_box (Bx.box_below w (cdo { c with rap := true, role := 3 })) (cdo { d with info := 0 }))
  go_enter Try.func3, Try.ntmps3
  go_wp2_with (first | ((with_reducible refine cd_load ?_ ?_ (w.heap.size) ?_ { c with rap := true, role := 3 } ?_ ?_); (· rfl); (· rfl); (· rfl); (· exact B0.out.blk)) | ((with_reducible refine cd_load ?_ ?_ (w.heap.size + 1) ?_ { d with info := 0 } ?_ ?_); (· rfl); (· rfl); (· rfl); (· exact B1.out.blk)))
  refine (HM.out _).mono ?_; rintro e w1 ⟨rfl, hb⟩
  replace B0 := Lib.hid (B0.out.keep hb)
  replace B1 := Lib.hid (B1.out.keep hb)
  replace bel := Lib.hid (Bx.then_below bel.out hb)
  clear hb
  have B2 := Lib.hid (Bx.Fre.new w1 (bdl b) 30)
  replace B0 := Lib.hid (B0.out.more (bdo b))
  replace B1 := Lib.hid (B1.out.more (bdo b))
  replace bel := Lib.hid (Bx.bel_box bel.out (bdo b))
  go_wp2_with (first | ((with_reducible refine bd_fresh ?_ ?_ (w1.heap.size) b ?_ ?_ (w1) (bdl Bd.zero) ?_ ?_ ?_ ?_); (· rfl); (· rfl); (· rfl); (· rfl); (· rfl); (· rfl); (· first | rfl | (simp; done))) | ((with_reducible refine cd_load ?_ ?_ (w.heap.size + 1) ?_ { d with info := 0 } ?_ ?_); (· rfl); (· rfl); (· rfl); (· exact B1.out.blk)) | ((with_reducible refine bd_load ?_ ?_ (w1.heap.size) ?_ b ?_ ?_); (· rfl); (· rfl); (· rfl); (· exact B2.out.blk)))
  refine (HR.out _).mono ?_; rintro e w2 ⟨rfl, hb⟩
  replace B0 := Lib.hid (B0.out.keep hb)
  replace B1 := Lib.hid (B1.out.keep hb)
  replace B2 := Lib.hid (B2.out.keep hb)
  replace bel := Lib.hid (Bx.then_below bel.out hb)
  clear hb
  have B3 := Lib.hid (Bx.Fre.new w2 (cdl x) 28)
  replace B0 := Lib.hid (B0.out.more (cdo x))
  replace B1 := Lib.hid (B1.out.more (cdo x))
  replace B2 := Lib.hid (B2.out.more (cdo x))
  replace bel := Lib.hid (Bx.bel_box bel.out (cdo x))
  have c5 := B0.out.at 5 rfl
  have x5 := B3.out.at 5 rfl
  have c6 := B0.out.at 6 rfl
  have x6 := B3.out.at 6 rfl
  have c7 := B0.out.at 7 rfl
  have x7 := B3.out.at 7 rfl
  have c8 := B0.out.at 8 rfl
  have x8 := B3.out.at 8 rfl
  rw [E1.out] at x5
  rw [E1.out] at x6
  rw [E1.out] at x7
  rw [E1.out] at x8
  have c9 := B0.out.at 9 rfl
  have c10 := B0.out.at 10 rfl
  have x4 := B3.out.at 4 rfl
  rw [E2.out] at x4
  have x24 := B3.out.at 24 rfl
  rw [E3.out] at x24
  go_wp2_with (first | ((with_reducible refine cd_fresh ?_ ?_ (w2.heap.size) x ?_ ?_ (w2) (cdl Cd.zero) ?_ ?_ ?_ ?_); (· rfl); (· rfl); (· rfl); (· rfl); (· rfl); (· rfl); (· first | rfl | (simp; done))))
  refine (HA.out _).mono ?_; rintro e w9 ⟨rfl, hb⟩
  replace bel := Lib.hid (Bx.then_below bel.out hb)
  clear hb
  go_wp2_with fail
  go_ret
  exact ⟨rfl, bel.out⟩

set_option maxRecDepth 40000 in
set_option maxHeartbeats 8000000 in
theorem hears_good (c d x : Cd) (b : Bd) (HM : Hid (∀ w, Calls Try.prog 5 #[cdv { c with rap := true, role := 3 }] w fun e w' => e = .returned (bdv b) ∧ Below w.heap.size w w')) (HR : Hid (∀ w, Calls Try.prog 6 #[cdv { d with info := 0 }, bdv b] w fun e w' => e = .returned (.tuple #[cdv x, .int .i64 1]) ∧ Below w.heap.size w w')) (HA : Hid (∀ w, Calls Try.prog 7 #[] w fun e w' => e = .returned (.bool true) ∧ Below w.heap.size w w')) (e1 : x.v = c.v) (HQ : Hid (∀ w, Calls Try.prog 6 #[cdv x, bdv b] w fun e w' => e = .returned (.tuple #[cdv x, .int .i64 2]) ∧ Below w.heap.size w w')) (e2 : x.info = 2) (h5 : 0 < x.hrd) (hm : c.t.m ≤ 9223372036854775807) (h1 : ¬ c.t.m < 1) (h2 : ¬ c.t.m - 1 ≤ c.t.a) (w : World) : Calls Try.prog 3 #[cdv c, cdv d] w fun e w' => e = .returned (.bool true) ∧ Below w.heap.size w w' := by
  have E1 := Lib.hid e1
  have E2 := Lib.hid e2
  clear e1 e2
  have hv : ∀ w, (binOp .neq 24 (vv c.v) (vv c.v)).run Try.prog w = .ok (.bool false) w := fun w => by rw [vneq_at]; simp
  have hvg := fun op a y w => vguard_at op a y c.v c.v w
  have B0 := Lib.hid ((Bx.Fre.new w (cdl { c with rap := true, role := 3 }) 28).more (cdo { d with info := 0 }))
  have B1 := Lib.hid (Bx.Fre.new_at (W := w.alloc (cdo { c with rap := true, role := 3 })) (k := w.heap.size + 1) (cdl { d with info := 0 }) 28 (by simp))
  have bel := Lib.hid (Bx.bel_box (Bx.box_below w (cdo { c with rap := true, role := 3 })) (cdo { d with info := 0 }))
  have hc := cself_at x
  have hcg := fun op a y w => cguard_at op a y x x w
  go_enter Try.func3, Try.ntmps3
  go_wp2_with (first | ((with_reducible refine cd_load ?_ ?_ (w.heap.size) ?_ { c with rap := true, role := 3 } ?_ ?_); (· rfl); (· rfl); (· rfl); (· exact B0.out.blk)) | ((with_reducible refine cd_load ?_ ?_ (w.heap.size + 1) ?_ { d with info := 0 } ?_ ?_); (· rfl); (· rfl); (· rfl); (· exact B1.out.blk)))
  refine (HM.out _).mono ?_; rintro e w1 ⟨rfl, hb⟩
  replace B0 := Lib.hid (B0.out.keep hb)
  replace B1 := Lib.hid (B1.out.keep hb)
  replace bel := Lib.hid (Bx.then_below bel.out hb)
  clear hb
  have B2 := Lib.hid (Bx.Fre.new w1 (bdl b) 30)
  replace B0 := Lib.hid (B0.out.more (bdo b))
  replace B1 := Lib.hid (B1.out.more (bdo b))
  replace bel := Lib.hid (Bx.bel_box bel.out (bdo b))
  go_wp2_with (first | ((with_reducible refine bd_fresh ?_ ?_ (w1.heap.size) b ?_ ?_ (w1) (bdl Bd.zero) ?_ ?_ ?_ ?_); (· rfl); (· rfl); (· rfl); (· rfl); (· rfl); (· rfl); (· first | rfl | (simp; done))) | ((with_reducible refine cd_load ?_ ?_ (w.heap.size + 1) ?_ { d with info := 0 } ?_ ?_); (· rfl); (· rfl); (· rfl); (· exact B1.out.blk)) | ((with_reducible refine bd_load ?_ ?_ (w1.heap.size) ?_ b ?_ ?_); (· rfl); (· rfl); (· rfl); (· exact B2.out.blk)))
  refine (HR.out _).mono ?_; rintro e w2 ⟨rfl, hb⟩
  replace B0 := Lib.hid (B0.out.keep hb)
  replace B1 := Lib.hid (B1.out.keep hb)
  replace B2 := Lib.hid (B2.out.keep hb)
  replace bel := Lib.hid (Bx.then_below bel.out hb)
  clear hb
  have B3 := Lib.hid (Bx.Fre.new w2 (cdl x) 28)
  replace B0 := Lib.hid (B0.out.more (cdo x))
  replace B1 := Lib.hid (B1.out.more (cdo x))
  replace B2 := Lib.hid (B2.out.more (cdo x))
  replace bel := Lib.hid (Bx.bel_box bel.out (cdo x))
  have c5 := B0.out.at 5 rfl
  have x5 := B3.out.at 5 rfl
  have c6 := B0.out.at 6 rfl
  have x6 := B3.out.at 6 rfl
  have c7 := B0.out.at 7 rfl
  have x7 := B3.out.at 7 rfl
  have c8 := B0.out.at 8 rfl
  have x8 := B3.out.at 8 rfl
  rw [E1.out] at x5
  rw [E1.out] at x6
  rw [E1.out] at x7
  rw [E1.out] at x8
  have c9 := B0.out.at 9 rfl
  have c10 := B0.out.at 10 rfl
  go_wp2_with (first | ((with_reducible refine cd_fresh ?_ ?_ (w2.heap.size) x ?_ ?_ (w2) (cdl Cd.zero) ?_ ?_ ?_ ?_); (· rfl); (· rfl); (· rfl); (· rfl); (· rfl); (· rfl); (· first | rfl | (simp; done))) | ((with_reducible refine cd_load ?_ ?_ (w2.heap.size) ?_ x ?_ ?_); (· rfl); (· rfl); (· rfl); (· exact B3.out.blk)) | ((with_reducible refine bd_load ?_ ?_ (w1.heap.size) ?_ b ?_ ?_); (· rfl); (· rfl); (· rfl); (· exact B2.out.blk)))
  refine (HQ.out _).mono ?_; rintro e w3 ⟨rfl, hb⟩
  clear c5 c6 c7 c8 c9 c10 x5 x6 x7 x8
  replace B3 := Lib.hid (B3.out.keep hb)
  replace bel := Lib.hid (Bx.then_below bel.out hb)
  clear hb
  have B4 := Lib.hid (Bx.Fre.new w3 (cdl x) 28)
  replace B3 := Lib.hid (B3.out.more (cdo x))
  replace bel := Lib.hid (Bx.bel_box bel.out (cdo x))
  have x4 := B3.out.at 4 rfl
  rw [E2.out] at x4
  have x24 := B3.out.at 24 rfl
  have h5' : decide (0 < x.hrd) = true := decide_eq_true h5
  go_wp2_with (first | ((with_reducible refine cd_fresh ?_ ?_ (w3.heap.size) x ?_ ?_ (w3) (cdl Cd.zero) ?_ ?_ ?_ ?_); (· rfl); (· rfl); (· rfl); (· rfl); (· rfl); (· rfl); (· first | rfl | (simp; done))) | ((with_reducible refine cd_load ?_ ?_ (w3.heap.size) ?_ x ?_ ?_); (· rfl); (· rfl); (· rfl); (· exact B4.out.blk)) | ((with_reducible refine cd_load ?_ ?_ (w2.heap.size) ?_ x ?_ ?_); (· rfl); (· rfl); (· rfl); (· exact B3.out.blk)))
  refine (HA.out _).mono ?_; rintro e w9 ⟨rfl, hb⟩
  replace bel := Lib.hid (Bx.then_below bel.out hb)
  clear hb
  go_wp2_with fail
  go_ret
  exact ⟨rfl, bel.out⟩

theorem law_hears (w : World) (c : Cd) (hc : wfCd c) (d : Cd) (_hd : wfCd d) : Calls Try.prog 3 #[cdv c, cdv d] w fun e w' => e = .returned (.bool true) ∧ Below w.heap.size w w' := by
  have HA := Lib.hid awake_any
  have hm : wfM c.t := hc.2.2.2.1
  obtain ⟨t1, t2⟩ := msg_t { c with rap := true, role := 3 }
  have HM := Lib.hid (fun w => msg_any { c with rap := true, role := 3 } w)
  have hs := hears_sort { c with rap := true, role := 3 } { d with info := 0 } rfl rfl rfl
  have hb : wfM (msgB { c with rap := true, role := 3 }).t := by rw [t1]; exact hm
  have HR := fun w => recv_any { d with info := 0 } (msgB { c with rap := true, role := 3 }) hb.1.1 hb.2.1.2 w
  rw [hs] at HR
  obtain ⟨e1, _, e3, e4, _⟩ := hears_v { c with rap := true, role := 3 } { d with info := 0 } hs
  have hg : goodI (msgB { c with rap := true, role := 3 }) = if c.t.m < 1 ∨ c.t.m - 1 ≤ c.t.a then 0 else 3 * min (max c.t.h 1) 255 := by unfold goodI; rw [t1]
  by_cases h1 : c.t.m < 1
  · rw [if_pos (.inl h1)] at hg
    rw [if_pos hg] at e3
    rw [hg] at e4
    exact hears_low c d _ _ HM (Lib.hid HR) HA e1 e3 e4 h1 w
  by_cases h2 : c.t.m - 1 ≤ c.t.a
  · rw [if_pos (.inr h2)] at hg
    rw [if_pos hg] at e3
    rw [hg] at e4
    exact hears_old c d _ _ HM (Lib.hid HR) HA e1 e3 e4 hm.2.1.2 h1 h2 w
  rw [if_neg (fun h => h.elim h1 h2)] at hg
  have hn : ¬ goodI (msgB { c with rap := true, role := 3 }) = 0 := by rw [hg]; omega
  obtain ⟨s2, q2⟩ := hears_again { c with rap := true, role := 3 } { d with info := 0 } rfl rfl hs hn
  rw [if_neg hn] at e3
  have hp : 0 < (recvC { d with info := 0 } (msgB { c with rap := true, role := 3 })).hrd := by rw [e4, hg]; omega
  have HQ := fun w => recv_any (recvC { d with info := 0 } (msgB { c with rap := true, role := 3 })) (msgB { c with rap := true, role := 3 }) hb.1.1 hb.2.1.2 w
  rw [s2, q2] at HQ
  exact hears_good c d _ _ HM (Lib.hid HR) HA e1 (Lib.hid HQ) e3 hp hm.2.1.2 h1 h2 w

end Rsp
namespace LawRstpportHears
open Go.ChangeShapes Go.WideShapes Go.ChangeAt Go.RowKit
open Go.ChangeMaps (open_string shut_string)

theorem own : ownKnob Try.prog.godebug = none := by kernel_rfl
theorem laidOut : laidOutB Try.prog = true := by kernel_rfl

set_option maxRecDepth 100000 in
theorem lifted (os : Os) (started : os.Started) (H : Type) (enc : TypeId × Value → H) :
    ReturnsInHanded {} Try.checked os 3 .any (Rows.rstpportHearsSpec.pre6 enc Try.prog Try.f3 Rows.rstpportHearsRow.domain false) (Rows.rstpportHearsSpec.post enc Try.prog Try.f3 false true false false) := by
  refine Fr.law_lift (C := Try.checked) (tb := 4) own started (by kernel_rfl) Try.func3
    (ChangeSpec.witness6 (enc := enc) (C := Try.checked) false ⟨#[], #[.agg #[.bool false, .bool false, .bool false, .int .u64 0, .int .i64 0, .int .u64 0, .int .u64 0, .int .u64 0, .int .i64 0, .int .i64 0, .int .i64 0, .int .i64 0, .int .i64 0, .int .i64 0, .int .i64 0, .bool false, .bool false, .bool false, .bool false, .bool false, .bool false, .bool false, .bool false, .bool false, .int .i64 0, .int .i64 0, .int .i64 0, .int .i64 0, .int .i64 0, .int .i64 0, .int .i64 0], .agg #[.bool false, .bool false, .bool false, .int .u64 0, .int .i64 0, .int .u64 0, .int .u64 0, .int .u64 0, .int .i64 0, .int .i64 0, .int .i64 0, .int .i64 0, .int .i64 0, .int .i64 0, .int .i64 0, .bool false, .bool false, .bool false, .bool false, .bool false, .bool false, .bool false, .bool false, .bool false, .int .i64 0, .int .i64 0, .int .i64 0, .int .i64 0, .int .i64 0, .int .i64 0, .int .i64 0]], []⟩ 8 (by kernel_rfl) (by kernel_rfl) (by kernel_rfl) (by kernel_rfl))
    laidOut (by rw [Try.params3]; decide +kernel) rfl Try.underlying4 rfl ?_ ?_
  · intro ds hl
    match ds, hl with
    | [d0, d1], _ => rfl
  · intro W base args ds p hval hA
    rw [Try.params3] at hA hval
    obtain ⟨v0, vs0, d0, ds0, p0, q0, hargs, rfl, rfl, h0, r0⟩ := trodAll_cons hA
    obtain ⟨v1, vs1, d1, ds1, p1, q1, rfl, rfl, rfl, h1, r1⟩ := trodAll_cons r0
    obtain ⟨rfl, rfl, rfl⟩ := trodAll_nil r1
    obtain rfl : args = #[v0, v1] := by cases args; simp_all
    obtain ⟨x0, rfl, hx0⟩ := Crd.open_cd (hval 0 28 v0 rfl rfl) h0
    obtain ⟨x1, rfl, hx1⟩ := Crd.open_cd (hval 1 28 v1 rfl rfl) h1
    exact Rsp.law_hears W x0 hx0 x1 hx1

theorem over : Rows.rstpportHearsRow.holds Try.pinned (OpenSpec.ofChange Rows.rstpportHearsSpec) :=
  OpenClaim.holds_of_wide 3 Try.f3 rfl rfl rfl rfl rfl rfl rfl ⟨rfl, rfl, rfl, rfl, rfl⟩ rfl rfl rfl rfl rfl (by kernel_rfl) Try.func3 (by kernel_rfl)
    (of_decide_eq_true (by kernel_rfl)) (by unfold Func.isWrapper; first | (rw [if_pos (by decide +kernel)]; kernel_rfl) | (rw [if_neg (by decide +kernel)]; exact ⟨rfl, rfl⟩))
    (fun os started H enc _ => lifted os started H enc)
end LawRstpportHears

/-- The statement RstpportHears. -/
theorem rstpportHears_holds : Rows.RstpportHearsSaid := LawRstpportHears.over

end Go.Proofs.Ytmjkhgmdoilpeaa
