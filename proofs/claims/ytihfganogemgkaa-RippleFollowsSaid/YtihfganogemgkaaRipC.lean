/-
  What Held, Open and Learning answer.
-/
import Derived.Test.YtihfganogemgkaaRipA
import Derived.Test.YtihfganogemgkaaPorA
import Derived.Deep.LoopGhost
import Derived.Deep.CutBlock
namespace Go.Proofs.Ytihfganogemgkaa
open Go.RowKit
namespace Rip
open Pre Crd Tre Elt

theorem heldN_next (x : Td) (but : Int) (n : Nat) : heldN x but (n + 1) = (heldN x but n && !(!decide ((n : Int) = but) && badB (x.cs n))) := rfl

theorem heldN_false (x : Td) (but : Int) (n : Nat) (h : heldN x but n = false) : ∀ m, heldN x but (n + m) = false
  | 0 => h
  | m + 1 => by rw [← Nat.add_assoc, heldN_next, heldN_false x but n h m, Bool.false_and]

theorem held_no (x : Td) (but : Int) (n : Nat) (hn : n < 8) (h : heldN x but (n + 1) = false) : heldB x but = false := by
  have := heldN_false x but (n + 1) h (8 - (n + 1))
  rwa [show n + 1 + (8 - (n + 1)) = 8 by omega] at this

set_option maxRecDepth 40000 in
set_option maxHeartbeats 8000000 in
theorem held_any (x : Td) (but : Int) (w : World) : Calls Try.prog 19 #[tdv x, .int .i64 but] w fun e w' => e = .returned (.bool (heldB x but)) ∧ Below w.heap.size w w' := by
  have HL := Lib.hid leads_any
  have T0 : Hid (Bx.Fre (w.alloc (tdo x)) w.heap.size (tdl x)) := Lib.hid (Bx.Fre.new w (tdl x) 31)
  have bel := Lib.hid (Bx.box_below w (tdo x))
  go_enter Try.func19, Try.ntmps19
  go_wp2_with (first | ((with_reducible refine td_load ?_ ?_ (w.heap.size) ?_ x ?_ ?_); (· rfl); (· rfl); (· rfl); (· exact T0.out.blk)) | ((with_reducible refine cs_load ?_ ?_ (w.heap.size) ?_ x ?_ ?_); (· rfl); (· rfl); (· rfl); (· exact T0.out.blk)))
  generalize (w.alloc (tdo x)) = W0 at *
  go_loopg [9] 8 (fun g s9 wr => ∃ k : Nat, k + g = 8 ∧ s9 = .int .i64 k ∧ Aside (heldN x but k = true) ∧ Aside (Bx.Fre wr w.heap.size (tdl x)) ∧ Aside (Below w.heap.size w wr))
  case atStart => exact ⟨0, by omega, rfl, rfl, T0.out, bel.out⟩
  case round =>
    clear T0 bel W0
    obtain ⟨k, hkg, rfl, HH, T0, bel⟩ := hrel
    cases gk with
    | zero =>
      have hkz : ¬ ((k : Int) < 8) := by omega
      obtain rfl : k = 8 := by omega
      go_wp2_with fail
      go_ret
      exact ⟨by rw [show heldB x but = true from HH.out]; rfl, bel.out⟩
    | succ g =>
      have hkz : (k : Int) < 8 := by omega
      have hk : k < 8 := by omega
      have hix := index_at x.cs k hk
      have HN := Lib.hid (heldN_next x but k)
      have HO := Lib.hid (fun h => held_no x but k hk h)
      rw [HH.out, Bool.true_and] at HN
      clear HH
      obtain ⟨c, hc⟩ : ∃ c, c = x.cs k := ⟨_, rfl⟩
      rw [← hc] at hix HN
      clear hc
      have h50 : w.heap.size < wr.heap.size := T0.out.2.1
      have HB : Hid (badB c = (ledB c && !(c.agd && c.syd) && !decide (c.st = 0))) := Lib.hid rfl
      replace T0 := Lib.hid (T0.out.more (cdo c))
      have C5 : Hid (Bx.Fre (wr.alloc (cdo c)) wr.heap.size (cdl c)) := Lib.hid (Bx.Fre.new wr (cdl c) 28)
      replace bel := Lib.hid (Bx.bel_box bel.out (cdo c))
      go_upto_region 4 with (first | ((with_reducible refine cd_fresh ?_ ?_ (wr.heap.size) c ?_ ?_ wr (cdl Cd.zero) ?_ ?_ ?_ ?_); (· rfl); (· rfl); (· rfl); (· rfl); (· rfl); (· rfl); (· first | rfl | (simp; done))))
      clear hix
      obtain ⟨k5, hk5⟩ : ∃ k, k = wr.heap.size := ⟨_, rfl⟩
      rw [← hk5] at C5 h50 ⊢
      generalize wr.alloc (cdo c) = w0 at *
      clear hk5 wr
      by_cases h : (k : Int) = but
      · have q1 : ((k : Int) != but) = false := by simp [h]
        replace h := Lib.hid h
        replace HN : Hid (heldN x but (k + 1) = true) := Lib.hid (HN.out.trans (by simp [h.out]))
        go_wp2_with (first | ((with_reducible refine cd_load ?_ ?_ (k5) ?_ c ?_ ?_); (· rfl); (· rfl); (· rfl); (· exact C5.out.blk)))
        go_roundg g
        case measure => omega
        case rel => exact ⟨k + 1, by omega, by go_num, HN.out, T0.out, bel.out⟩
      · have q1 : ((k : Int) != but) = true := by simp [h]
        replace h := Lib.hid h
        go_wp2_with (first | ((with_reducible refine cd_load ?_ ?_ (k5) ?_ c ?_ ?_); (· rfl); (· rfl); (· rfl); (· exact C5.out.blk)))
        refine (HL.out _ _).mono ?_; rintro e w1 ⟨rfl, hb⟩
        replace T0 := Lib.hid (T0.out.keep hb)
        replace C5 := Lib.hid (C5.out.keep hb)
        replace bel := Lib.hid (Bx.then_below bel.out hb)
        clear hb
        generalize ledB c = b at *
        cases b with
        | false =>
          replace HN : Hid (heldN x but (k + 1) = true) := Lib.hid (HN.out.trans (by rw [HB.out]; simp))
          go_wp2_with (first | ((with_reducible refine cd_load ?_ ?_ (k5) ?_ c ?_ ?_); (· rfl); (· rfl); (· rfl); (· exact C5.out.blk)))
          go_roundg g
          case measure => omega
          case rel => exact ⟨k + 1, by omega, by go_num, HN.out, T0.out, bel.out⟩
        | true =>
          rcases Bool.eq_false_or_eq_true c.agd with h3 | h3
          · have C5_15 := C5.out.at 15 rfl
            rw [h3] at C5_15
            rcases Bool.eq_false_or_eq_true c.syd with h4 | h4
            · have C5_20 := C5.out.at 20 rfl
              rw [h4] at C5_20
              replace h3 := Lib.hid h3
              replace h4 := Lib.hid h4
              replace HN : Hid (heldN x but (k + 1) = true) := Lib.hid (HN.out.trans (by rw [HB.out]; simp [h3.out, h4.out]))
              go_wp2_with (first | ((with_reducible refine cd_load ?_ ?_ (k5) ?_ c ?_ ?_); (· rfl); (· rfl); (· rfl); (· exact C5.out.blk)))
              go_roundg g
              case measure => omega
              case rel => exact ⟨k + 1, by omega, by go_num, HN.out, T0.out, bel.out⟩
            · have C5_20 := C5.out.at 20 rfl
              rw [h4] at C5_20
              replace h3 := Lib.hid h3
              replace h4 := Lib.hid h4
              by_cases h2 : c.st = 0
              · have g2 : (c.st != 0) = false := by simp [h2]
                have C5_14 := C5.out.at 14 rfl
                replace h2 := Lib.hid h2
                replace HN : Hid (heldN x but (k + 1) = true) := Lib.hid (HN.out.trans (by rw [HB.out]; simp [h2.out]))
                go_wp2_with (first | ((with_reducible refine cd_load ?_ ?_ (k5) ?_ c ?_ ?_); (· rfl); (· rfl); (· rfl); (· exact C5.out.blk)))
                go_roundg g
                case measure => omega
                case rel => exact ⟨k + 1, by omega, by go_num, HN.out, T0.out, bel.out⟩
              · have g2 : (c.st != 0) = true := by simp [h2]
                have C5_14 := C5.out.at 14 rfl
                replace h2 := Lib.hid h2
                replace HO : Hid (heldB x but = false) := Lib.hid (HO.out (HN.out.trans (by rw [HB.out]; simp [h.out, h2.out, h3.out, h4.out])))
                go_wp2_with (first | ((with_reducible refine cd_load ?_ ?_ (k5) ?_ c ?_ ?_); (· rfl); (· rfl); (· rfl); (· exact C5.out.blk)))
                go_ret
                exact ⟨by rw [HO.out]; rfl, bel.out⟩
          · have C5_15 := C5.out.at 15 rfl
            rw [h3] at C5_15
            replace h3 := Lib.hid h3
            by_cases h2 : c.st = 0
            · have g2 : (c.st != 0) = false := by simp [h2]
              have C5_14 := C5.out.at 14 rfl
              replace h2 := Lib.hid h2
              replace HN : Hid (heldN x but (k + 1) = true) := Lib.hid (HN.out.trans (by rw [HB.out]; simp [h2.out]))
              go_wp2_with (first | ((with_reducible refine cd_load ?_ ?_ (k5) ?_ c ?_ ?_); (· rfl); (· rfl); (· rfl); (· exact C5.out.blk)))
              go_roundg g
              case measure => omega
              case rel => exact ⟨k + 1, by omega, by go_num, HN.out, T0.out, bel.out⟩
            · have g2 : (c.st != 0) = true := by simp [h2]
              have C5_14 := C5.out.at 14 rfl
              replace h2 := Lib.hid h2
              replace HO : Hid (heldB x but = false) := Lib.hid (HO.out (HN.out.trans (by rw [HB.out]; simp [h.out, h2.out, h3.out])))
              go_wp2_with (first | ((with_reducible refine cd_load ?_ ?_ (k5) ?_ c ?_ ?_); (· rfl); (· rfl); (· rfl); (· exact C5.out.blk)))
              go_ret
              exact ⟨by rw [HO.out]; rfl, bel.out⟩

set_option maxRecDepth 40000 in
set_option maxHeartbeats 8000000 in
theorem open_any (x : Td) (w : World) : Calls Try.prog 6 #[tdv x] w fun e w' => e = .returned (.int .i64 (opeI x 8)) ∧ Below w.heap.size w w' := by
  have HW := Lib.hid (fun s p w => Por.with_any s p w)
  have T0 : Hid (Bx.Fre (w.alloc (tdo x)) w.heap.size (tdl x)) := Lib.hid (Bx.Fre.new w (tdl x) 31)
  have bel := Lib.hid (Bx.box_below w (tdo x))
  go_enter Try.func6, Try.ntmps6
  go_wp2_with (first | ((with_reducible refine td_load ?_ ?_ (w.heap.size) ?_ x ?_ ?_); (· rfl); (· rfl); (· rfl); (· exact T0.out.blk)) | ((with_reducible refine cs_load ?_ ?_ (w.heap.size) ?_ x ?_ ?_); (· rfl); (· rfl); (· rfl); (· exact T0.out.blk)))
  generalize (w.alloc (tdo x)) = W0 at *
  go_loopg [3, 8] 8 (fun g s3 s8 wr => ∃ k : Nat, k + g = 8 ∧ s8 = .int .i64 k ∧ s3 = .int .i64 (opeI x k) ∧ Aside (Bx.Fre wr w.heap.size (tdl x)) ∧ Aside (Below w.heap.size w wr))
  case atStart => exact ⟨0, by omega, rfl, rfl, T0.out, bel.out⟩
  case round =>
    clear T0 bel W0
    obtain ⟨k, hkg, rfl, rfl, T0, bel⟩ := hrel
    cases gk with
    | zero =>
      have hkz : ¬ ((k : Int) < 8) := by omega
      obtain rfl : k = 8 := by omega
      go_wp2_with fail
      go_ret
      exact ⟨rfl, bel.out⟩
    | succ g =>
      have hkz : (k : Int) < 8 := by omega
      have hk : k < 8 := by omega
      have hix := index_at x.cs k hk
      have HS := Lib.hid (show opeI x (k + 1) = if opeB (x.cs k) = true then Por.withI (opeI x k) k else opeI x k from rfl)
      generalize opeI x k = s at *
      obtain ⟨c, hc⟩ : ∃ c, c = x.cs k := ⟨_, rfl⟩
      rw [← hc] at hix HS
      clear hc
      have h50 : w.heap.size < wr.heap.size := T0.out.2.1
      replace T0 := Lib.hid (T0.out.more (cdo c))
      have C5 : Hid (Bx.Fre (wr.alloc (cdo c)) wr.heap.size (cdl c)) := Lib.hid (Bx.Fre.new wr (cdl c) 28)
      replace bel := Lib.hid (Bx.bel_box bel.out (cdo c))
      go_upto_region 5 with (first | ((with_reducible refine cd_fresh ?_ ?_ (wr.heap.size) c ?_ ?_ wr (cdl Cd.zero) ?_ ?_ ?_ ?_); (· rfl); (· rfl); (· rfl); (· rfl); (· rfl); (· rfl); (· first | rfl | (simp; done))))
      clear hix
      obtain ⟨k5, hk5⟩ : ∃ k, k = wr.heap.size := ⟨_, rfl⟩
      rw [← hk5] at C5 h50 ⊢
      generalize wr.alloc (cdo c) = w0 at *
      clear hk5 wr
      rcases Bool.eq_false_or_eq_true c.up with hu | hu
      · by_cases h2 : c.st = 2
        · replace HS := Lib.hid (HS.out.trans (if_pos (by unfold opeB; simp [hu, h2])))
          have C5_0 := C5.out.at 0 rfl
          have C5_14 := C5.out.at 14 rfl
          rw [hu] at C5_0
          have g2 : (c.st == 2) = true := by simpa using h2
          clear h2 hu
          go_wp2_with (first | ((with_reducible refine td_load ?_ ?_ (w.heap.size) ?_ x ?_ ?_); (· rfl); (· rfl); (· rfl); (· exact T0.out.blk)) | ((with_reducible refine cs_load ?_ ?_ (w.heap.size) ?_ x ?_ ?_); (· rfl); (· rfl); (· rfl); (· exact T0.out.blk)) | ((with_reducible refine cd_load ?_ ?_ (k5) ?_ c ?_ ?_); (· rfl); (· rfl); (· rfl); (· exact C5.out.blk)))
          refine (HW.out _ _ _).mono ?_; rintro e w1 ⟨rfl, rfl⟩
          go_wp2_with fail
          go_roundg g
          case measure => omega
          case rel => exact ⟨k + 1, by omega, by go_num, by rw [HS.out], T0.out, bel.out⟩
        · replace HS := Lib.hid (HS.out.trans (if_neg (by unfold opeB; simp [h2])))
          have C5_0 := C5.out.at 0 rfl
          have C5_14 := C5.out.at 14 rfl
          rw [hu] at C5_0
          have g2 : (c.st == 2) = false := by simpa using h2
          clear h2 hu
          go_wp2_with (first | ((with_reducible refine td_load ?_ ?_ (w.heap.size) ?_ x ?_ ?_); (· rfl); (· rfl); (· rfl); (· exact T0.out.blk)) | ((with_reducible refine cs_load ?_ ?_ (w.heap.size) ?_ x ?_ ?_); (· rfl); (· rfl); (· rfl); (· exact T0.out.blk)) | ((with_reducible refine cd_load ?_ ?_ (k5) ?_ c ?_ ?_); (· rfl); (· rfl); (· rfl); (· exact C5.out.blk)))
          go_roundg g
          case measure => omega
          case rel => exact ⟨k + 1, by omega, by go_num, by rw [HS.out], T0.out, bel.out⟩
      · replace HS := Lib.hid (HS.out.trans (if_neg (by unfold opeB; simp [hu])))
        have C5_0 := C5.out.at 0 rfl
        have C5_14 := C5.out.at 14 rfl
        rw [hu] at C5_0
        clear hu
        go_wp2_with (first | ((with_reducible refine td_load ?_ ?_ (w.heap.size) ?_ x ?_ ?_); (· rfl); (· rfl); (· rfl); (· exact T0.out.blk)) | ((with_reducible refine cs_load ?_ ?_ (w.heap.size) ?_ x ?_ ?_); (· rfl); (· rfl); (· rfl); (· exact T0.out.blk)) | ((with_reducible refine cd_load ?_ ?_ (k5) ?_ c ?_ ?_); (· rfl); (· rfl); (· rfl); (· exact C5.out.blk)))
        go_roundg g
        case measure => omega
        case rel => exact ⟨k + 1, by omega, by go_num, by rw [HS.out], T0.out, bel.out⟩

set_option maxRecDepth 40000 in
set_option maxHeartbeats 8000000 in
theorem learn_any (x : Td) (w : World) : Calls Try.prog 7 #[tdv x] w fun e w' => e = .returned (.int .i64 (leaI x 8)) ∧ Below w.heap.size w w' := by
  have HW := Lib.hid (fun s p w => Por.with_any s p w)
  have T0 : Hid (Bx.Fre (w.alloc (tdo x)) w.heap.size (tdl x)) := Lib.hid (Bx.Fre.new w (tdl x) 31)
  have bel := Lib.hid (Bx.box_below w (tdo x))
  go_enter Try.func7, Try.ntmps7
  go_wp2_with (first | ((with_reducible refine td_load ?_ ?_ (w.heap.size) ?_ x ?_ ?_); (· rfl); (· rfl); (· rfl); (· exact T0.out.blk)) | ((with_reducible refine cs_load ?_ ?_ (w.heap.size) ?_ x ?_ ?_); (· rfl); (· rfl); (· rfl); (· exact T0.out.blk)))
  generalize (w.alloc (tdo x)) = W0 at *
  go_loopg [3, 8] 8 (fun g s3 s8 wr => ∃ k : Nat, k + g = 8 ∧ s8 = .int .i64 k ∧ s3 = .int .i64 (leaI x k) ∧ Aside (Bx.Fre wr w.heap.size (tdl x)) ∧ Aside (Below w.heap.size w wr))
  case atStart => exact ⟨0, by omega, rfl, rfl, T0.out, bel.out⟩
  case round =>
    clear T0 bel W0
    obtain ⟨k, hkg, rfl, rfl, T0, bel⟩ := hrel
    cases gk with
    | zero =>
      have hkz : ¬ ((k : Int) < 8) := by omega
      obtain rfl : k = 8 := by omega
      go_wp2_with fail
      go_ret
      exact ⟨rfl, bel.out⟩
    | succ g =>
      have hkz : (k : Int) < 8 := by omega
      have hk : k < 8 := by omega
      have hix := index_at x.cs k hk
      have HS := Lib.hid (show leaI x (k + 1) = if leaB (x.cs k) = true then Por.withI (leaI x k) k else leaI x k from rfl)
      generalize leaI x k = s at *
      obtain ⟨c, hc⟩ : ∃ c, c = x.cs k := ⟨_, rfl⟩
      rw [← hc] at hix HS
      clear hc
      have h50 : w.heap.size < wr.heap.size := T0.out.2.1
      replace T0 := Lib.hid (T0.out.more (cdo c))
      have C5 : Hid (Bx.Fre (wr.alloc (cdo c)) wr.heap.size (cdl c)) := Lib.hid (Bx.Fre.new wr (cdl c) 28)
      replace bel := Lib.hid (Bx.bel_box bel.out (cdo c))
      go_upto_region 5 with (first | ((with_reducible refine cd_fresh ?_ ?_ (wr.heap.size) c ?_ ?_ wr (cdl Cd.zero) ?_ ?_ ?_ ?_); (· rfl); (· rfl); (· rfl); (· rfl); (· rfl); (· rfl); (· first | rfl | (simp; done))))
      clear hix
      obtain ⟨k5, hk5⟩ : ∃ k, k = wr.heap.size := ⟨_, rfl⟩
      rw [← hk5] at C5 h50 ⊢
      generalize wr.alloc (cdo c) = w0 at *
      clear hk5 wr
      rcases Bool.eq_false_or_eq_true c.up with hu | hu
      · by_cases h2 : 1 ≤ c.st
        · replace HS := Lib.hid (HS.out.trans (if_pos (by unfold leaB; simp [hu, h2])))
          have C5_0 := C5.out.at 0 rfl
          have C5_14 := C5.out.at 14 rfl
          rw [hu] at C5_0
          have g2 : 1 ≤ c.st := h2
          clear h2 hu
          go_wp2_with (first | ((with_reducible refine td_load ?_ ?_ (w.heap.size) ?_ x ?_ ?_); (· rfl); (· rfl); (· rfl); (· exact T0.out.blk)) | ((with_reducible refine cs_load ?_ ?_ (w.heap.size) ?_ x ?_ ?_); (· rfl); (· rfl); (· rfl); (· exact T0.out.blk)) | ((with_reducible refine cd_load ?_ ?_ (k5) ?_ c ?_ ?_); (· rfl); (· rfl); (· rfl); (· exact C5.out.blk)))
          refine (HW.out _ _ _).mono ?_; rintro e w1 ⟨rfl, rfl⟩
          go_wp2_with fail
          go_roundg g
          case measure => omega
          case rel => exact ⟨k + 1, by omega, by go_num, by rw [HS.out], T0.out, bel.out⟩
        · replace HS := Lib.hid (HS.out.trans (if_neg (by unfold leaB; simp [h2])))
          have C5_0 := C5.out.at 0 rfl
          have C5_14 := C5.out.at 14 rfl
          rw [hu] at C5_0
          have g2 : ¬ 1 ≤ c.st := h2
          clear h2 hu
          go_wp2_with (first | ((with_reducible refine td_load ?_ ?_ (w.heap.size) ?_ x ?_ ?_); (· rfl); (· rfl); (· rfl); (· exact T0.out.blk)) | ((with_reducible refine cs_load ?_ ?_ (w.heap.size) ?_ x ?_ ?_); (· rfl); (· rfl); (· rfl); (· exact T0.out.blk)) | ((with_reducible refine cd_load ?_ ?_ (k5) ?_ c ?_ ?_); (· rfl); (· rfl); (· rfl); (· exact C5.out.blk)))
          go_roundg g
          case measure => omega
          case rel => exact ⟨k + 1, by omega, by go_num, by rw [HS.out], T0.out, bel.out⟩
      · replace HS := Lib.hid (HS.out.trans (if_neg (by unfold leaB; simp [hu])))
        have C5_0 := C5.out.at 0 rfl
        have C5_14 := C5.out.at 14 rfl
        rw [hu] at C5_0
        clear hu
        go_wp2_with (first | ((with_reducible refine td_load ?_ ?_ (w.heap.size) ?_ x ?_ ?_); (· rfl); (· rfl); (· rfl); (· exact T0.out.blk)) | ((with_reducible refine cs_load ?_ ?_ (w.heap.size) ?_ x ?_ ?_); (· rfl); (· rfl); (· rfl); (· exact T0.out.blk)) | ((with_reducible refine cd_load ?_ ?_ (k5) ?_ c ?_ ?_); (· rfl); (· rfl); (· rfl); (· exact C5.out.blk)))
        go_roundg g
        case measure => omega
        case rel => exact ⟨k + 1, by omega, by go_num, by rw [HS.out], T0.out, bel.out⟩

end Rip
end Go.Proofs.Ytihfganogemgkaa
