/-
  What rapid, times, good, role and disputed answer.
-/
import Derived.Test.YtihfganogemgkaaRspNum
import Derived.Lib.MinMax
import Derived.IntWalk
namespace Go.Proofs.Ytihfganogemgkaa
open Go.RowKit
namespace Rsp
open Pre Crd

set_option maxRecDepth 40000 in
set_option maxHeartbeats 4000000 in
theorem rapid_any (b : Bd) (w : World) : Calls Try.prog 29 #[bdv b] w fun e w' => e = .returned (.bool (rapB b)) ∧ Below w.heap.size w w' := by
  have bel := Lib.hid (Bx.box_below w (bdo b))
  obtain ⟨r, hr⟩ : ∃ r, r = rapB b := ⟨_, rfl⟩
  have h : (b.k == 2) = r := by rw [hr]; unfold rapB; rfl
  rw [← hr]
  clear hr
  go_enter Try.func29, Try.ntmps29
  go_wp2
  go_ret
  exact ⟨rfl, bel.out⟩

set_option maxRecDepth 40000 in
set_option maxHeartbeats 4000000 in
theorem times_any (b : Bd) (w : World) : Calls Try.prog 43 #[bdv b] w fun e w' => e = .returned (tmv b.t) ∧ Below w.heap.size w w' := by
  have bel := Lib.hid (Bx.bel_box (Bx.box_below w (bdo b)) (tmo b.t))
  go_enter Try.func43, Try.ntmps43
  go_wp2
  refine bodyPost_ret (v := tmv b.t) ?_ rfl ⟨rfl, bel.out⟩
  simp [results, Try.results43, go_sem]

set_option maxRecDepth 40000 in
set_option maxHeartbeats 4000000 in
theorem good_any (b : Bd) (hm : b.t.m ≤ 9223372036854775807) (w : World) : Calls Try.prog 30 #[bdv b] w fun e w' => e = .returned (.int .i64 (goodI b)) ∧ Below w.heap.size w w' := by
  rcases (show b.t.m < 1 ∨ (¬ b.t.m < 1 ∧ b.t.m - 1 ≤ b.t.a) ∨ (¬ b.t.m < 1 ∧ ¬ b.t.m - 1 ≤ b.t.a) by omega) with h1 | ⟨h1, h2⟩ | ⟨h1, h2⟩
  · 
    have e : goodI b = 0 := by unfold goodI; rw [if_pos (by omega)]
    rw [e]
    clear e
    have bel := Lib.hid (Bx.box_below w (bdo b))
    go_enter Try.func30, Try.ntmps30
    go_wp2
    go_ret
    exact ⟨rfl, bel.out⟩
  · 
    have e : goodI b = 0 := by unfold goodI; rw [if_pos (by omega)]
    rw [e]
    clear e
    have bel := Lib.hid (Bx.box_below w (bdo b))
    go_enter Try.func30, Try.ntmps30
    go_wp2
    go_ret
    exact ⟨rfl, bel.out⟩
  · 
    have e : goodI b = 3 * min (max b.t.h 1) 255 := by unfold goodI; rw [if_neg (by omega)]
    rw [e]
    clear e
    have bel := Lib.hid (Bx.box_below w (bdo b))
    go_enter Try.func30, Try.ntmps30
    go_wp2
    go_ret
    exact ⟨rfl, bel.out⟩

set_option maxRecDepth 40000 in
set_option maxHeartbeats 4000000 in
theorem role_any (b : Bd) (w : World) : Calls Try.prog 40 #[bdv b] w fun e w' => e = .returned (.int .i64 (roleI b)) ∧ Below w.heap.size w w' := by
  have B0 := Lib.hid (Bx.Blk.new w (bdl b) 49)
  have bel := Lib.hid (Bx.box_below w (bdo b))
  have H := Lib.hid (rapid_any b)
  unfold roleI
  generalize rapB b = r at *
  cases r with
  | true =>
    rw [if_pos rfl]
    go_enter Try.func40, Try.ntmps40
    go_wp2_with (first | ((with_reducible refine bd_load ?_ ?_ w.heap.size ?_ b ?_ ?_); (· rfl); (· rfl); (· rfl); (· exact B0.out)))
    refine (H.out _).mono ?_; rintro e w1 ⟨rfl, hb⟩
    have c3 := Bx.keep_cell hb (B0.out.at 3 rfl)
    have b2 := Lib.hid (Bx.then_below bel.out hb)
    clear hb
    go_wp2
    go_ret
    exact ⟨rfl, b2.out⟩
  | false =>
    rw [if_neg (by simp)]
    go_enter Try.func40, Try.ntmps40
    go_wp2_with (first | ((with_reducible refine bd_load ?_ ?_ w.heap.size ?_ b ?_ ?_); (· rfl); (· rfl); (· rfl); (· exact B0.out)))
    refine (H.out _).mono ?_; rintro e w1 ⟨rfl, hb⟩
    have b2 := Lib.hid (Bx.then_below bel.out hb)
    clear hb
    go_wp2
    go_ret
    exact ⟨rfl, b2.out⟩

set_option maxRecDepth 40000 in
set_option maxHeartbeats 4000000 in
theorem disp_any (c : Cd) (w : World) : Calls Try.prog 31 #[cdv c] w fun e w' => e = .returned (cdv (dispC c)) ∧ Below w.heap.size w w' := by
  have bel := Lib.hid (Bx.bel_box (Bx.box_below w (cdo (dispC c))) (cdo (dispC c)))
  have B0 := Lib.hid ((Bx.Blk.new w (cdl (dispC c)) 28).more (cdo Cd.zero))
  go_enter Try.func31, Try.ntmps31
  go_wp2_with (first | ((with_reducible refine cd_load ?_ ?_ w.heap.size ?_ (dispC c) ?_ ?_); (· rfl); (· rfl); (· rfl); (· exact B0.out)) | ((with_reducible refine cd_fresh ?_ ?_ (w.heap.size + 1) (dispC c) ?_ ?_ (w.alloc (cdo (dispC c))) (cdl Cd.zero) ?_ ?_ ?_ ?_); (· rfl); (· rfl); (· rfl); (· rfl); (· rfl); (· rfl); (· simp)))
  exact bodyPost_ret (v := cdv (dispC c)) (cd_result Try.results31 rfl (Bx.Blk.new_at _ _ (by simp))) rfl ⟨rfl, bel.out⟩

end Rsp
end Go.Proofs.Ytihfganogemgkaa
