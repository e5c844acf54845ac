/-
  What Active and the document's answer.
-/
import Derived.Test.YtlaahomkgaaciaaEltA
import Derived.Test.YtlaahomkgaaciaaPorA
import Derived.Deep.LoopGhost
import Derived.Deep.CutBlock
namespace Go.Proofs.Ytlaahomkgaaciaa
open Go.RowKit
namespace Elt
open Pre Crd Tre

set_option maxRecDepth 40000 in
set_option maxHeartbeats 8000000 in
theorem active_any (x : Td) (w : World) : Calls Try.prog 12 #[tdv x] w fun e w' => e = .returned (.int .i64 (actI x 8)) ∧ Below w.heap.size w w' := by
  have HW := Lib.hid (fun s p w => Por.with_any s p w)
  have T0 : Hid (Bx.Fre (w.alloc (tdo x)) w.heap.size (tdl x)) := Lib.hid (Bx.Fre.new w (tdl x) 31)
  have bel := Lib.hid (Bx.box_below w (tdo x))
  go_enter Try.func12, Try.ntmps12
  go_wp2_with (first | ((with_reducible refine td_load ?_ ?_ (w.heap.size) ?_ x ?_ ?_); (· rfl); (· rfl); (· rfl); (· exact T0.out.blk)) | ((with_reducible refine cs_load ?_ ?_ (w.heap.size) ?_ x ?_ ?_); (· rfl); (· rfl); (· rfl); (· exact T0.out.blk)))
  generalize (w.alloc (tdo x)) = W0 at *
  go_loopg [3, 8] 8 (fun g s3 s8 wr => ∃ k : Nat, k + g = 8 ∧ s8 = .int .i64 k ∧ s3 = .int .i64 (actI x k) ∧ Aside (Bx.Fre wr w.heap.size (tdl x)) ∧ Aside (Below w.heap.size w wr))
  case atStart => exact ⟨0, by omega, rfl, rfl, T0.out, bel.out⟩
  case round =>
    clear T0 bel W0
    obtain ⟨k, hkg, rfl, rfl, T0, bel⟩ := hrel
    cases gk with
    | zero =>
      have hkz : ¬ ((k : Int) < 8) := by omega
      obtain rfl : k = 8 := by omega
      go_wp2_with fail
      go_ret
      exact ⟨rfl, bel.out⟩
    | succ g =>
      have hkz : (k : Int) < 8 := by omega
      have hk : k < 8 := by omega
      have hix := index_at x.cs k hk
      have HS := Lib.hid (show actI x (k + 1) = if actB (x.cs k) = true then Por.withI (actI x k) k else actI x k from rfl)
      generalize actI x k = s at *
      obtain ⟨c, hc⟩ : ∃ c, c = x.cs k := ⟨_, rfl⟩
      rw [← hc] at hix HS
      clear hc
      have h50 : w.heap.size < wr.heap.size := T0.out.2.1
      replace T0 := Lib.hid (T0.out.more (cdo c))
      have C5 : Hid (Bx.Fre (wr.alloc (cdo c)) wr.heap.size (cdl c)) := Lib.hid (Bx.Fre.new wr (cdl c) 28)
      replace bel := Lib.hid (Bx.bel_box bel.out (cdo c))
      go_upto_region 5 with (first | ((with_reducible refine cd_fresh ?_ ?_ (wr.heap.size) c ?_ ?_ wr (cdl Cd.zero) ?_ ?_ ?_ ?_); (· rfl); (· rfl); (· rfl); (· rfl); (· rfl); (· rfl); (· first | rfl | (simp; done))))
      clear hix
      obtain ⟨k5, hk5⟩ : ∃ k, k = wr.heap.size := ⟨_, rfl⟩
      rw [← hk5] at C5 h50 ⊢
      generalize wr.alloc (cdo c) = w0 at *
      clear hk5 wr
      rcases Bool.eq_false_or_eq_true c.up with hu | hu
      · by_cases h2 : c.role = 2
        · replace HS := Lib.hid (HS.out.trans (if_pos (by unfold actB; simp [hu, h2])))
          have C5_0 := C5.out.at 0 rfl
          have C5_13 := C5.out.at 13 rfl
          rw [hu] at C5_0
          have g2 : (c.role == 2) = true := by simpa using h2
          clear h2 hu
          go_wp2_with (first | ((with_reducible refine td_load ?_ ?_ (w.heap.size) ?_ x ?_ ?_); (· rfl); (· rfl); (· rfl); (· exact T0.out.blk)) | ((with_reducible refine cs_load ?_ ?_ (w.heap.size) ?_ x ?_ ?_); (· rfl); (· rfl); (· rfl); (· exact T0.out.blk)) | ((with_reducible refine cd_load ?_ ?_ (k5) ?_ c ?_ ?_); (· rfl); (· rfl); (· rfl); (· exact C5.out.blk)))
          refine (HW.out _ _ _).mono ?_; rintro e w1 ⟨rfl, rfl⟩
          go_wp2_with fail
          go_roundg g
          case measure => omega
          case rel => exact ⟨k + 1, by omega, by go_num, by rw [HS.out], T0.out, bel.out⟩
        · by_cases h3 : c.role = 3
          · replace HS := Lib.hid (HS.out.trans (if_pos (by unfold actB; simp [hu, h3])))
            have C5_0 := C5.out.at 0 rfl
            have C5_13 := C5.out.at 13 rfl
            rw [hu] at C5_0
            have g2 : (c.role == 2) = false := by simpa using h2
            have g3 : (c.role == 3) = true := by simpa using h3
            clear h2 h3 hu
            go_wp2_with (first | ((with_reducible refine td_load ?_ ?_ (w.heap.size) ?_ x ?_ ?_); (· rfl); (· rfl); (· rfl); (· exact T0.out.blk)) | ((with_reducible refine cs_load ?_ ?_ (w.heap.size) ?_ x ?_ ?_); (· rfl); (· rfl); (· rfl); (· exact T0.out.blk)) | ((with_reducible refine cd_load ?_ ?_ (k5) ?_ c ?_ ?_); (· rfl); (· rfl); (· rfl); (· exact C5.out.blk)))
            refine (HW.out _ _ _).mono ?_; rintro e w1 ⟨rfl, rfl⟩
            go_wp2_with fail
            go_roundg g
            case measure => omega
            case rel => exact ⟨k + 1, by omega, by go_num, by rw [HS.out], T0.out, bel.out⟩
          · replace HS := Lib.hid (HS.out.trans (if_neg (by unfold actB; simp [h2, h3])))
            have C5_0 := C5.out.at 0 rfl
            have C5_13 := C5.out.at 13 rfl
            rw [hu] at C5_0
            have g2 : (c.role == 2) = false := by simpa using h2
            have g3 : (c.role == 3) = false := by simpa using h3
            clear h2 h3 hu
            go_wp2_with (first | ((with_reducible refine td_load ?_ ?_ (w.heap.size) ?_ x ?_ ?_); (· rfl); (· rfl); (· rfl); (· exact T0.out.blk)) | ((with_reducible refine cs_load ?_ ?_ (w.heap.size) ?_ x ?_ ?_); (· rfl); (· rfl); (· rfl); (· exact T0.out.blk)) | ((with_reducible refine cd_load ?_ ?_ (k5) ?_ c ?_ ?_); (· rfl); (· rfl); (· rfl); (· exact C5.out.blk)))
            go_roundg g
            case measure => omega
            case rel => exact ⟨k + 1, by omega, by go_num, by rw [HS.out], T0.out, bel.out⟩
      · replace HS := Lib.hid (HS.out.trans (if_neg (by unfold actB; simp [hu])))
        have C5_0 := C5.out.at 0 rfl
        have C5_13 := C5.out.at 13 rfl
        rw [hu] at C5_0
        clear hu
        go_wp2_with (first | ((with_reducible refine td_load ?_ ?_ (w.heap.size) ?_ x ?_ ?_); (· rfl); (· rfl); (· rfl); (· exact T0.out.blk)) | ((with_reducible refine cs_load ?_ ?_ (w.heap.size) ?_ x ?_ ?_); (· rfl); (· rfl); (· rfl); (· exact T0.out.blk)) | ((with_reducible refine cd_load ?_ ?_ (k5) ?_ c ?_ ?_); (· rfl); (· rfl); (· rfl); (· exact C5.out.blk)))
        go_roundg g
        case measure => omega
        case rel => exact ⟨k + 1, by omega, by go_num, by rw [HS.out], T0.out, bel.out⟩

set_option maxRecDepth 40000 in
set_option maxHeartbeats 8000000 in
theorem ractive_any (x : Td) (w : World) : Calls Try.prog 13 #[tdv x] w fun e w' => e = .returned (.int .i64 (actI x 8)) ∧ Below w.heap.size w w' := by
  have HW := Lib.hid (fun s p w => Por.rwith_any s p w)
  have T0 : Hid (Bx.Fre (w.alloc (tdo x)) w.heap.size (tdl x)) := Lib.hid (Bx.Fre.new w (tdl x) 31)
  have bel := Lib.hid (Bx.box_below w (tdo x))
  go_enter Try.func13, Try.ntmps13
  go_wp2_with (first | ((with_reducible refine td_load ?_ ?_ (w.heap.size) ?_ x ?_ ?_); (· rfl); (· rfl); (· rfl); (· exact T0.out.blk)) | ((with_reducible refine cs_load ?_ ?_ (w.heap.size) ?_ x ?_ ?_); (· rfl); (· rfl); (· rfl); (· exact T0.out.blk)))
  generalize (w.alloc (tdo x)) = W0 at *
  go_loopg [3, 8] 8 (fun g s3 s8 wr => ∃ k : Nat, k + g = 8 ∧ s8 = .int .i64 k ∧ s3 = .int .i64 (actI x k) ∧ Aside (Bx.Fre wr w.heap.size (tdl x)) ∧ Aside (Below w.heap.size w wr))
  case atStart => exact ⟨0, by omega, rfl, rfl, T0.out, bel.out⟩
  case round =>
    clear T0 bel W0
    obtain ⟨k, hkg, rfl, rfl, T0, bel⟩ := hrel
    cases gk with
    | zero =>
      have hkz : ¬ ((k : Int) < 8) := by omega
      obtain rfl : k = 8 := by omega
      go_wp2_with fail
      go_ret
      exact ⟨rfl, bel.out⟩
    | succ g =>
      have hkz : (k : Int) < 8 := by omega
      have hk : k < 8 := by omega
      have hix := index_at x.cs k hk
      have HS := Lib.hid (show actI x (k + 1) = if actB (x.cs k) = true then Por.withI (actI x k) k else actI x k from rfl)
      generalize actI x k = s at *
      obtain ⟨c, hc⟩ : ∃ c, c = x.cs k := ⟨_, rfl⟩
      rw [← hc] at hix HS
      clear hc
      have h50 : w.heap.size < wr.heap.size := T0.out.2.1
      replace T0 := Lib.hid (T0.out.more (cdo c))
      have C5 : Hid (Bx.Fre (wr.alloc (cdo c)) wr.heap.size (cdl c)) := Lib.hid (Bx.Fre.new wr (cdl c) 28)
      replace bel := Lib.hid (Bx.bel_box bel.out (cdo c))
      go_upto_region 5 with (first | ((with_reducible refine cd_fresh ?_ ?_ (wr.heap.size) c ?_ ?_ wr (cdl Cd.zero) ?_ ?_ ?_ ?_); (· rfl); (· rfl); (· rfl); (· rfl); (· rfl); (· rfl); (· first | rfl | (simp; done))))
      clear hix
      obtain ⟨k5, hk5⟩ : ∃ k, k = wr.heap.size := ⟨_, rfl⟩
      rw [← hk5] at C5 h50 ⊢
      generalize wr.alloc (cdo c) = w0 at *
      clear hk5 wr
      rcases Bool.eq_false_or_eq_true c.up with hu | hu
      · by_cases h2 : c.role = 2
        · replace HS := Lib.hid (HS.out.trans (if_pos (by unfold actB; simp [hu, h2])))
          have C5_0 := C5.out.at 0 rfl
          have C5_13 := C5.out.at 13 rfl
          rw [hu] at C5_0
          have g2 : (c.role == 2) = true := by simpa using h2
          clear h2 hu
          go_wp2_with (first | ((with_reducible refine td_load ?_ ?_ (w.heap.size) ?_ x ?_ ?_); (· rfl); (· rfl); (· rfl); (· exact T0.out.blk)) | ((with_reducible refine cs_load ?_ ?_ (w.heap.size) ?_ x ?_ ?_); (· rfl); (· rfl); (· rfl); (· exact T0.out.blk)) | ((with_reducible refine cd_load ?_ ?_ (k5) ?_ c ?_ ?_); (· rfl); (· rfl); (· rfl); (· exact C5.out.blk)))
          refine (HW.out _ _ _).mono ?_; rintro e w1 ⟨rfl, rfl⟩
          go_wp2_with fail
          go_roundg g
          case measure => omega
          case rel => exact ⟨k + 1, by omega, by go_num, by rw [HS.out], T0.out, bel.out⟩
        · by_cases h3 : c.role = 3
          · replace HS := Lib.hid (HS.out.trans (if_pos (by unfold actB; simp [hu, h3])))
            have C5_0 := C5.out.at 0 rfl
            have C5_13 := C5.out.at 13 rfl
            rw [hu] at C5_0
            have g2 : (c.role == 2) = false := by simpa using h2
            have g3 : (c.role == 3) = true := by simpa using h3
            clear h2 h3 hu
            go_wp2_with (first | ((with_reducible refine td_load ?_ ?_ (w.heap.size) ?_ x ?_ ?_); (· rfl); (· rfl); (· rfl); (· exact T0.out.blk)) | ((with_reducible refine cs_load ?_ ?_ (w.heap.size) ?_ x ?_ ?_); (· rfl); (· rfl); (· rfl); (· exact T0.out.blk)) | ((with_reducible refine cd_load ?_ ?_ (k5) ?_ c ?_ ?_); (· rfl); (· rfl); (· rfl); (· exact C5.out.blk)))
            refine (HW.out _ _ _).mono ?_; rintro e w1 ⟨rfl, rfl⟩
            go_wp2_with fail
            go_roundg g
            case measure => omega
            case rel => exact ⟨k + 1, by omega, by go_num, by rw [HS.out], T0.out, bel.out⟩
          · replace HS := Lib.hid (HS.out.trans (if_neg (by unfold actB; simp [h2, h3])))
            have C5_0 := C5.out.at 0 rfl
            have C5_13 := C5.out.at 13 rfl
            rw [hu] at C5_0
            have g2 : (c.role == 2) = false := by simpa using h2
            have g3 : (c.role == 3) = false := by simpa using h3
            clear h2 h3 hu
            go_wp2_with (first | ((with_reducible refine td_load ?_ ?_ (w.heap.size) ?_ x ?_ ?_); (· rfl); (· rfl); (· rfl); (· exact T0.out.blk)) | ((with_reducible refine cs_load ?_ ?_ (w.heap.size) ?_ x ?_ ?_); (· rfl); (· rfl); (· rfl); (· exact T0.out.blk)) | ((with_reducible refine cd_load ?_ ?_ (k5) ?_ c ?_ ?_); (· rfl); (· rfl); (· rfl); (· exact C5.out.blk)))
            go_roundg g
            case measure => omega
            case rel => exact ⟨k + 1, by omega, by go_num, by rw [HS.out], T0.out, bel.out⟩
      · replace HS := Lib.hid (HS.out.trans (if_neg (by unfold actB; simp [hu])))
        have C5_0 := C5.out.at 0 rfl
        have C5_13 := C5.out.at 13 rfl
        rw [hu] at C5_0
        clear hu
        go_wp2_with (first | ((with_reducible refine td_load ?_ ?_ (w.heap.size) ?_ x ?_ ?_); (· rfl); (· rfl); (· rfl); (· exact T0.out.blk)) | ((with_reducible refine cs_load ?_ ?_ (w.heap.size) ?_ x ?_ ?_); (· rfl); (· rfl); (· rfl); (· exact T0.out.blk)) | ((with_reducible refine cd_load ?_ ?_ (k5) ?_ c ?_ ?_); (· rfl); (· rfl); (· rfl); (· exact C5.out.blk)))
        go_roundg g
        case measure => omega
        case rel => exact ⟨k + 1, by omega, by go_num, by rw [HS.out], T0.out, bel.out⟩

end Elt
end Go.Proofs.Ytlaahomkgaaciaa
