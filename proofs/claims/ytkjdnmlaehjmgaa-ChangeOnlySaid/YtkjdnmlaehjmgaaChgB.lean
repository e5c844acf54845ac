/-
  What Ports answers, and the document's.
-/
import Derived.Test.YtkjdnmlaehjmgaaChgA
import Derived.Test.YtkjdnmlaehjmgaaPorC
import Derived.Deep.LoopGhost
import Derived.Deep.CutBlock
namespace Go.Proofs.Ytkjdnmlaehjmgaa
open Go.RowKit
namespace Chg
open Pre Crd Tre Elt Rip

set_option maxRecDepth 40000 in
set_option maxHeartbeats 8000000 in
theorem ports_any (x : Td) (but : Int) (w : World) : Calls Try.prog 9 #[tdv x, .int .i64 but] w fun e w' => e = .returned (.int .i64 ((prtI x but : Nat) : Int)) ∧ Below w.heap.size w w' := by
  have HW := Lib.hid (fun (m : Nat) (p : Int) (hm : m < 256) w => Por.with_nat m p hm w)
  have HL := Lib.hid leads_any
  have T0 : Hid (Bx.Fre (w.alloc (tdo x)) w.heap.size (tdl x)) := Lib.hid (Bx.Fre.new w (tdl x) 31)
  have bel := Lib.hid (Bx.box_below w (tdo x))
  go_enter Try.func9, Try.ntmps9
  go_wp2_with (first | ((with_reducible refine td_load ?_ ?_ (w.heap.size) ?_ x ?_ ?_); (· rfl); (· rfl); (· rfl); (· exact T0.out.blk)) | ((with_reducible refine cs_load ?_ ?_ (w.heap.size) ?_ x ?_ ?_); (· rfl); (· rfl); (· rfl); (· exact T0.out.blk)))
  generalize (w.alloc (tdo x)) = W0 at *
  go_loopg [5, 10] 8 (fun g s5 s10 wr => ∃ k : Nat, k + g = 8 ∧ s10 = .int .i64 k ∧ s5 = .int .i64 ((prtN x but k : Nat) : Int) ∧ Aside (Bx.Fre wr w.heap.size (tdl x)) ∧ Aside (Below w.heap.size w wr))
  case atStart => exact ⟨0, by omega, rfl, rfl, T0.out, bel.out⟩
  case round =>
    clear T0 bel W0
    obtain ⟨k, hkg, rfl, rfl, T0, bel⟩ := hrel
    cases gk with
    | zero =>
      have hkz : ¬ ((k : Int) < 8) := by omega
      obtain rfl : k = 8 := by omega
      go_wp2_with fail
      go_ret
      exact ⟨rfl, bel.out⟩
    | succ g =>
      have hkz : (k : Int) < 8 := by omega
      have hk : k < 8 := by omega
      have hix := index_at x.cs k hk
      have HS := Lib.hid (show prtN x but (k + 1) = if (!decide ((k : Int) = but) && ldB (x.cs k)) = true then Por.withN (prtN x but k) k else prtN x but k from rfl)
      have hm := Lib.hid (prt_lt x but k)
      generalize prtN x but k = s at *
      obtain ⟨c, hc⟩ : ∃ c, c = x.cs k := ⟨_, rfl⟩
      rw [← hc] at hix HS
      clear hc
      have h50 : w.heap.size < wr.heap.size := T0.out.2.1
      replace T0 := Lib.hid (T0.out.more (cdo c))
      have C5 : Hid (Bx.Fre (wr.alloc (cdo c)) wr.heap.size (cdl c)) := Lib.hid (Bx.Fre.new wr (cdl c) 28)
      replace bel := Lib.hid (Bx.bel_box bel.out (cdo c))
      go_upto_region 5 with (first | ((with_reducible refine cd_fresh ?_ ?_ (wr.heap.size) c ?_ ?_ wr (cdl Cd.zero) ?_ ?_ ?_ ?_); (· rfl); (· rfl); (· rfl); (· rfl); (· rfl); (· rfl); (· first | rfl | (simp; done))))
      clear hix
      obtain ⟨k5, hk5⟩ : ∃ k, k = wr.heap.size := ⟨_, rfl⟩
      rw [← hk5] at C5 h50 ⊢
      generalize wr.alloc (cdo c) = w0 at *
      clear hk5 wr
      by_cases h : (k : Int) = but
      · have q1 : ((k : Int) != but) = false := by simp [h]
        replace HS := Lib.hid (HS.out.trans (if_neg (by simp [h])))
        clear h
        go_wp2_with (first | ((with_reducible refine cd_load ?_ ?_ (k5) ?_ c ?_ ?_); (· rfl); (· rfl); (· rfl); (· exact C5.out.blk)))
        go_roundg g
        case measure => omega
        case rel => exact ⟨k + 1, by omega, by go_num, by rw [HS.out], T0.out, bel.out⟩
      · have q1 : ((k : Int) != but) = true := by simp [h]
        generalize hb0 : ldB c = b at HS
        replace hb0 := Lib.hid hb0
        go_wp2_with (first | ((with_reducible refine cd_load ?_ ?_ (k5) ?_ c ?_ ?_); (· rfl); (· rfl); (· rfl); (· exact C5.out.blk)))
        refine (HL.out _ _).mono ?_; rintro e w1 ⟨rfl, hb⟩
        replace T0 := Lib.hid (T0.out.keep hb)
        replace C5 := Lib.hid (C5.out.keep hb)
        replace bel := Lib.hid (Bx.then_below bel.out hb)
        clear hb
        rw [hb0.out]
        clear hb0
        cases b with
        | true =>
          replace HS := Lib.hid (HS.out.trans (if_pos (by simp [h])))
          clear h
          go_wp2_with (first | ((with_reducible refine td_load ?_ ?_ (w.heap.size) ?_ x ?_ ?_); (· rfl); (· rfl); (· rfl); (· exact T0.out.blk)) | ((with_reducible refine cs_load ?_ ?_ (w.heap.size) ?_ x ?_ ?_); (· rfl); (· rfl); (· rfl); (· exact T0.out.blk)) | ((with_reducible refine cd_load ?_ ?_ (k5) ?_ c ?_ ?_); (· rfl); (· rfl); (· rfl); (· exact C5.out.blk)))
          refine (HW.out _ _ hm.out _).mono ?_; rintro e w1 ⟨rfl, rfl⟩
          go_wp2_with fail
          go_roundg g
          case measure => omega
          case rel => exact ⟨k + 1, by omega, by go_num, by rw [HS.out], T0.out, bel.out⟩
        | false =>
          replace HS := Lib.hid (HS.out.trans (if_neg (by simp [h])))
          clear h
          go_wp2_with (first | ((with_reducible refine cd_load ?_ ?_ (k5) ?_ c ?_ ?_); (· rfl); (· rfl); (· rfl); (· exact C5.out.blk)))
          go_roundg g
          case measure => omega
          case rel => exact ⟨k + 1, by omega, by go_num, by rw [HS.out], T0.out, bel.out⟩

set_option maxRecDepth 40000 in
set_option maxHeartbeats 8000000 in
theorem rports_any (x : Td) (but : Int) (w : World) : Calls Try.prog 10 #[tdv x, .int .i64 but] w fun e w' => e = .returned (.int .i64 ((prtI x but : Nat) : Int)) ∧ Below w.heap.size w w' := by
  have HW := Lib.hid (fun (m : Nat) (p : Int) (hm : m < 256) w => Por.rwith_nat m p hm w)
  have T0 : Hid (Bx.Fre (w.alloc (tdo x)) w.heap.size (tdl x)) := Lib.hid (Bx.Fre.new w (tdl x) 31)
  have bel := Lib.hid (Bx.box_below w (tdo x))
  go_enter Try.func10, Try.ntmps10
  go_wp2_with (first | ((with_reducible refine td_load ?_ ?_ (w.heap.size) ?_ x ?_ ?_); (· rfl); (· rfl); (· rfl); (· exact T0.out.blk)) | ((with_reducible refine cs_load ?_ ?_ (w.heap.size) ?_ x ?_ ?_); (· rfl); (· rfl); (· rfl); (· exact T0.out.blk)))
  generalize (w.alloc (tdo x)) = W0 at *
  go_loopg [5, 10] 8 (fun g s5 s10 wr => ∃ k : Nat, k + g = 8 ∧ s10 = .int .i64 k ∧ s5 = .int .i64 ((prtN x but k : Nat) : Int) ∧ Aside (Bx.Fre wr w.heap.size (tdl x)) ∧ Aside (Below w.heap.size w wr))
  case atStart => exact ⟨0, by omega, rfl, rfl, T0.out, bel.out⟩
  case round =>
    clear T0 bel W0
    obtain ⟨k, hkg, rfl, rfl, T0, bel⟩ := hrel
    cases gk with
    | zero =>
      have hkz : ¬ ((k : Int) < 8) := by omega
      obtain rfl : k = 8 := by omega
      go_wp2_with fail
      go_ret
      exact ⟨rfl, bel.out⟩
    | succ g =>
      have hkz : (k : Int) < 8 := by omega
      have hk : k < 8 := by omega
      have hix := index_at x.cs k hk
      have HS := Lib.hid (show prtN x but (k + 1) = if (!decide ((k : Int) = but) && ldB (x.cs k)) = true then Por.withN (prtN x but k) k else prtN x but k from rfl)
      have hm := Lib.hid (prt_lt x but k)
      generalize prtN x but k = s at *
      obtain ⟨c, hc⟩ : ∃ c, c = x.cs k := ⟨_, rfl⟩
      rw [← hc] at hix HS
      clear hc
      have h50 : w.heap.size < wr.heap.size := T0.out.2.1
      replace T0 := Lib.hid (T0.out.more (cdo c))
      have C5 : Hid (Bx.Fre (wr.alloc (cdo c)) wr.heap.size (cdl c)) := Lib.hid (Bx.Fre.new wr (cdl c) 28)
      replace bel := Lib.hid (Bx.bel_box bel.out (cdo c))
      go_upto_region 5 with (first | ((with_reducible refine cd_fresh ?_ ?_ (wr.heap.size) c ?_ ?_ wr (cdl Cd.zero) ?_ ?_ ?_ ?_); (· rfl); (· rfl); (· rfl); (· rfl); (· rfl); (· rfl); (· first | rfl | (simp; done))))
      clear hix
      obtain ⟨k5, hk5⟩ : ∃ k, k = wr.heap.size := ⟨_, rfl⟩
      rw [← hk5] at C5 h50 ⊢
      generalize wr.alloc (cdo c) = w0 at *
      clear hk5 wr
      by_cases h : (k : Int) = but
      · have q1 : ((k : Int) != but) = false := by simp [h]
        replace HS := Lib.hid (HS.out.trans (if_neg (by simp [h])))
        clear h
        go_wp2_with (first | ((with_reducible refine td_load ?_ ?_ (w.heap.size) ?_ x ?_ ?_); (· rfl); (· rfl); (· rfl); (· exact T0.out.blk)) | ((with_reducible refine cs_load ?_ ?_ (w.heap.size) ?_ x ?_ ?_); (· rfl); (· rfl); (· rfl); (· exact T0.out.blk)) | ((with_reducible refine cd_load ?_ ?_ (k5) ?_ c ?_ ?_); (· rfl); (· rfl); (· rfl); (· exact C5.out.blk)))
        go_roundg g
        case measure => omega
        case rel => exact ⟨k + 1, by omega, by go_num, by rw [HS.out], T0.out, bel.out⟩
      · have q1 : ((k : Int) != but) = true := by simp [h]
        have C5_0 := C5.out.at 0 rfl
        have C5_2 := C5.out.at 2 rfl
        have C5_13 := C5.out.at 13 rfl
        rcases Bool.eq_false_or_eq_true c.up with h0 | h0
        · rw [h0] at C5_0
          rcases Bool.eq_false_or_eq_true c.edge with h1 | h1
          · rw [h1] at C5_2
            replace HS := Lib.hid (HS.out.trans (if_neg (by unfold ldB; simp [h, h0, h1])))
            clear h h0 h1
            go_wp2_with (first | ((with_reducible refine td_load ?_ ?_ (w.heap.size) ?_ x ?_ ?_); (· rfl); (· rfl); (· rfl); (· exact T0.out.blk)) | ((with_reducible refine cs_load ?_ ?_ (w.heap.size) ?_ x ?_ ?_); (· rfl); (· rfl); (· rfl); (· exact T0.out.blk)) | ((with_reducible refine cd_load ?_ ?_ (k5) ?_ c ?_ ?_); (· rfl); (· rfl); (· rfl); (· exact C5.out.blk)))
            go_roundg g
            case measure => omega
            case rel => exact ⟨k + 1, by omega, by go_num, by rw [HS.out], T0.out, bel.out⟩
          · rw [h1] at C5_2
            by_cases h2 : c.role = 2
            · have gh2 : (c.role == 2) = true := by simp [h2]
              replace HS := Lib.hid (HS.out.trans (if_pos (by unfold ldB; simp [h, h0, h1, h2])))
              clear h h0 h1 h2
              go_wp2_with (first | ((with_reducible refine td_load ?_ ?_ (w.heap.size) ?_ x ?_ ?_); (· rfl); (· rfl); (· rfl); (· exact T0.out.blk)) | ((with_reducible refine cs_load ?_ ?_ (w.heap.size) ?_ x ?_ ?_); (· rfl); (· rfl); (· rfl); (· exact T0.out.blk)) | ((with_reducible refine cd_load ?_ ?_ (k5) ?_ c ?_ ?_); (· rfl); (· rfl); (· rfl); (· exact C5.out.blk)))
              refine (HW.out _ _ hm.out _).mono ?_; rintro e w1 ⟨rfl, rfl⟩
              go_wp2_with fail
              go_roundg g
              case measure => omega
              case rel => exact ⟨k + 1, by omega, by go_num, by rw [HS.out], T0.out, bel.out⟩
            · have gh2 : (c.role == 2) = false := by simp [h2]
              by_cases h3 : c.role = 3
              · have gh3 : (c.role == 3) = true := by simp [h3]
                replace HS := Lib.hid (HS.out.trans (if_pos (by unfold ldB; simp [h, h0, h1, h3])))
                clear h h0 h1 h2 h3
                go_wp2_with (first | ((with_reducible refine td_load ?_ ?_ (w.heap.size) ?_ x ?_ ?_); (· rfl); (· rfl); (· rfl); (· exact T0.out.blk)) | ((with_reducible refine cs_load ?_ ?_ (w.heap.size) ?_ x ?_ ?_); (· rfl); (· rfl); (· rfl); (· exact T0.out.blk)) | ((with_reducible refine cd_load ?_ ?_ (k5) ?_ c ?_ ?_); (· rfl); (· rfl); (· rfl); (· exact C5.out.blk)))
                refine (HW.out _ _ hm.out _).mono ?_; rintro e w1 ⟨rfl, rfl⟩
                go_wp2_with fail
                go_roundg g
                case measure => omega
                case rel => exact ⟨k + 1, by omega, by go_num, by rw [HS.out], T0.out, bel.out⟩
              · have gh3 : (c.role == 3) = false := by simp [h3]
                replace HS := Lib.hid (HS.out.trans (if_neg (by unfold ldB; simp [h, h0, h1, h2, h3])))
                clear h h0 h1 h2 h3
                go_wp2_with (first | ((with_reducible refine td_load ?_ ?_ (w.heap.size) ?_ x ?_ ?_); (· rfl); (· rfl); (· rfl); (· exact T0.out.blk)) | ((with_reducible refine cs_load ?_ ?_ (w.heap.size) ?_ x ?_ ?_); (· rfl); (· rfl); (· rfl); (· exact T0.out.blk)) | ((with_reducible refine cd_load ?_ ?_ (k5) ?_ c ?_ ?_); (· rfl); (· rfl); (· rfl); (· exact C5.out.blk)))
                go_roundg g
                case measure => omega
                case rel => exact ⟨k + 1, by omega, by go_num, by rw [HS.out], T0.out, bel.out⟩
        · rw [h0] at C5_0
          replace HS := Lib.hid (HS.out.trans (if_neg (by unfold ldB; simp [h, h0])))
          clear h h0
          go_wp2_with (first | ((with_reducible refine td_load ?_ ?_ (w.heap.size) ?_ x ?_ ?_); (· rfl); (· rfl); (· rfl); (· exact T0.out.blk)) | ((with_reducible refine cs_load ?_ ?_ (w.heap.size) ?_ x ?_ ?_); (· rfl); (· rfl); (· rfl); (· exact T0.out.blk)) | ((with_reducible refine cd_load ?_ ?_ (k5) ?_ c ?_ ?_); (· rfl); (· rfl); (· rfl); (· exact C5.out.blk)))
          go_roundg g
          case measure => omega
          case rel => exact ⟨k + 1, by omega, by go_num, by rw [HS.out], T0.out, bel.out⟩

end Chg
end Go.Proofs.Ytkjdnmlaehjmgaa
