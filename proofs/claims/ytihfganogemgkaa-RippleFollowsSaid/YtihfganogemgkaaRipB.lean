/-
  What synced and withoutRecent answer.
-/
import Derived.Test.YtihfganogemgkaaRipA
import Derived.Deep.LoopGhost
import Derived.Deep.CutBlock
namespace Go.Proofs.Ytihfganogemgkaa
open Go.RowKit
namespace Rip
open Pre Crd Tre Elt

theorem mix_skip (g f : Nat → Cd) (k : Nat) (h : g k = f k) : mixN g f k = mixN g f (k + 1) := by
  funext j
  unfold mixN
  by_cases e : j = k
  · subst e; rw [if_neg (by omega), if_pos (by omega), h]
  · by_cases q : j < k
    · rw [if_pos q, if_pos (by omega)]
    · rw [if_neg q, if_neg (by omega)]

set_option maxRecDepth 40000 in
set_option maxHeartbeats 8000000 in
theorem syn_any (x : Td) (w : World) : Calls Try.prog 35 #[tdv x] w fun e w' => e = .returned (tdv (synT x)) ∧ Below w.heap.size w w' := by
  have HL := Lib.hid leads_any
  have HD := Lib.hid discard_any
  have T0 : Hid (Bx.Fre (w.alloc (tdo x)) w.heap.size (tdl x)) := Lib.hid (Bx.Fre.new w (tdl x) 31)
  have bel := Lib.hid (Bx.box_below w (tdo x))
  replace T0 := Lib.hid (T0.out.more (tdo Td.zero))
  have R1 : Hid (Bx.Fre ((w.alloc (tdo x)).alloc (tdo Td.zero)) (w.heap.size + 1) (tdl Td.zero)) := Lib.hid (Bx.Fre.new_at (W := (w.alloc (tdo x))) (k := w.heap.size + 1) (tdl Td.zero) 31 (by simp))
  replace bel := Lib.hid (Bx.bel_box bel.out (tdo Td.zero))
  have hal := zero_at
  go_enter Try.func35, Try.ntmps35
  go_wp2_with (first | ((with_reducible refine td_load ?_ ?_ (w.heap.size) ?_ x ?_ ?_); (· rfl); (· rfl); (· rfl); (· exact T0.out.blk)) | ((with_reducible refine cs_load ?_ ?_ (w.heap.size) ?_ x ?_ ?_); (· rfl); (· rfl); (· rfl); (· exact T0.out.blk)))
  clear hal
  generalize ((w.alloc (tdo x)).alloc (tdo Td.zero)) = W0 at *
  replace T0 := Lib.hid (T0.out.of (m := tdl (Td.mk x.id x.own x.root x.times x.port (mixN (fun j => synC (x.cs j)) x.cs 0))) (by rw [mix_none]))
  go_loopg [7] 8 (fun g sk wr => ∃ k : Nat, k + g = 8 ∧ sk = .int .i64 k ∧ Aside (Bx.Fre wr w.heap.size (tdl (Td.mk x.id x.own x.root x.times x.port (mixN (fun j => synC (x.cs j)) x.cs k)))) ∧ Aside (Bx.Fre wr (w.heap.size + 1) (tdl Td.zero)) ∧ Aside (Below w.heap.size w wr))
  case atStart => exact ⟨0, by omega, rfl, T0.out, R1.out, bel.out⟩
  case round =>
    clear T0 R1 bel W0
    obtain ⟨k, hkg, rfl, T0, R1, bel⟩ := hrel
    cases gk with
    | zero =>
      have hkz : ¬ ((k : Int) < 8) := by omega
      obtain rfl : k = 8 := by omega
      replace T0 : Hid (Bx.Fre wr w.heap.size (tdl (synT x))) := T0
      go_wp2_with (first | ((with_reducible refine td_store ?_ ?_ (w.heap.size + 1) (synT x) ?_ ?_ (tdl Td.zero) ?_ ?_ ?_); (· rfl); (· rfl); (· rfl); (· rfl); (· exact tdl_len _); (· exact R1.out.own)) | ((with_reducible refine td_load ?_ ?_ (w.heap.size) ?_ (synT x) ?_ ?_); (· rfl); (· rfl); (· rfl); (· exact T0.out.blk)) | ((with_reducible refine cs_load ?_ ?_ (w.heap.size) ?_ (synT x) ?_ ?_); (· rfl); (· rfl); (· rfl); (· exact T0.out.blk)))
      replace T0 := Lib.hid (T0.out.apart_at (k' := w.heap.size + 1) (tdl (synT x)) 0 (by omega))
      replace bel := Lib.hid (Bx.bel_put_at (k := w.heap.size + 1) (tdl (synT x)) 0 (by omega) bel.out)
      replace R1 := Lib.hid (R1.out.full (m := (tdl (synT x))) (by rw [tdl_len, tdl_len]))
      exact bodyPost_ret (v := tdv (synT x)) (td_result Try.results35 rfl R1.out.blk) rfl ⟨rfl, bel.out⟩
    | succ g =>
      have hkz : (k : Int) < 8 := by omega
      have hk0 : (0 : Int) ≤ k := by omega
      have hk : k < 8 := by omega
      have hix := index_at x.cs k hk
      have HP := Lib.hid (fun c hc => set_port x.id x.own x.root x.times x.port (fun j => synC (x.cs j)) x.cs k hk c hc)
      have HK := Lib.hid (fun h => congrArg (fun f => tdl (Td.mk x.id x.own x.root x.times x.port f)) (mix_skip (fun j => synC (x.cs j)) x.cs k h))
      have HN : Hid ((fun j => synC (x.cs j)) k = synC (x.cs k)) := Lib.hid rfl
      obtain ⟨c, hc⟩ : ∃ c, c = x.cs k := ⟨_, rfl⟩
      rw [← hc] at hix HN HK
      clear hc
      have h51 : w.heap.size + 1 < wr.heap.size := R1.out.2.1
      replace T0 := Lib.hid (T0.out.more (cdo c))
      replace R1 := Lib.hid (R1.out.more (cdo c))
      have C5 : Hid (Bx.Fre (wr.alloc (cdo c)) wr.heap.size (cdl c)) := Lib.hid (Bx.Fre.new wr (cdl c) 28)
      replace bel := Lib.hid (Bx.bel_box bel.out (cdo c))
      go_upto_region 4 with (first | ((with_reducible refine cd_fresh ?_ ?_ (wr.heap.size) c ?_ ?_ wr (cdl Cd.zero) ?_ ?_ ?_ ?_); (· rfl); (· rfl); (· rfl); (· rfl); (· rfl); (· rfl); (· first | rfl | (simp; done))))
      clear hix
      obtain ⟨k5, hk5⟩ : ∃ k, k = wr.heap.size := ⟨_, rfl⟩
      rw [← hk5] at C5 h51 ⊢
      generalize wr.alloc (cdo c) = w0 at *
      clear hk5 wr
      go_wp2_with (first | ((with_reducible refine cd_load ?_ ?_ (k5) ?_ c ?_ ?_); (· rfl); (· rfl); (· rfl); (· exact C5.out.blk)))
      refine (HL.out _ _).mono ?_; rintro e w1 ⟨rfl, hb⟩
      replace T0 := Lib.hid (T0.out.keep hb)
      replace R1 := Lib.hid (R1.out.keep hb)
      replace C5 := Lib.hid (C5.out.keep hb)
      replace bel := Lib.hid (Bx.then_below bel.out hb)
      clear hb
      have HE : synC c = if ledB c = true then { synD c with syd := true } else c := rfl
      replace HE := Lib.hid HE
      generalize ledB c = b at *
      cases b with
      | false =>
        replace T0 := Lib.hid (T0.out.of (HK.out (HE.out.trans (if_neg (by decide)))))
        go_wp2_with (first | ((with_reducible refine cd_load ?_ ?_ (k5) ?_ c ?_ ?_); (· rfl); (· rfl); (· rfl); (· exact C5.out.blk)))
        go_roundg g
        case measure => omega
        case rel => exact ⟨k + 1, by omega, by go_num, T0.out, R1.out, bel.out⟩
      | true =>
        replace HE := Lib.hid (HE.out.trans (if_pos rfl))
        go_upto_region 5 with fail
        rcases Bool.eq_false_or_eq_true c.agd with h | h
        · rw [show synD c = c by unfold synD; rw [if_neg (by simp [h])]] at HE
          have C5_15 := C5.out.at 15 rfl
          rw [h] at C5_15
          clear h
          go_upto_region 7 with fail
          clear C5_15
          have C5_20 := C5.out.at 20 rfl
          have C5f20 := C5.out.2.2 20
          replace T0 := Lib.hid (T0.out.other (k' := k5) (o := 20) (x := .bool true) (by omega))
          replace R1 := Lib.hid (R1.out.other (k' := k5) (o := 20) (x := .bool true) (by omega))
          replace bel := Lib.hid (Bx.bel_set (k := k5) (o := 20) (x := .bool true) (by omega) bel.out)
          replace C5 := Lib.hid ((C5.out.set (20) (.bool true)).of (m := (cdl { c with syd := true })) (by first | rfl | simp [enc, tenc]))
          go_upto_region 8 with fail
          clear C5_20 C5f20
          generalize (w1.setCell ⟨k5, 20, none⟩ (.bool true)) = W7 at *
          have T9 := T0
          have C9 := C5
          replace R1 := Lib.hid (R1.out.apart_at (k' := w.heap.size) (cdl { c with syd := true }) (14 + k * 31) (by omega))
          replace C5 := Lib.hid (C5.out.apart_at (k' := w.heap.size) (cdl { c with syd := true }) (14 + k * 31) (by omega))
          replace bel := Lib.hid (Bx.bel_put_at (k := w.heap.size) (cdl { c with syd := true }) (14 + k * 31) (by omega) bel.out)
          replace T0 := Lib.hid ((Bx.Fre.put_at (cdl { c with syd := true }) (14 + k * 31) T0.out).of (m := (tdl (Td.mk x.id x.own x.root x.times x.port (mixN (fun j => synC (x.cs j)) x.cs (k + 1))))) (HP.out { c with syd := true } (HN.out.trans (HE.out))))
          go_wp2_with (first | ((with_reducible refine cc_store ?_ ?_ (w.heap.size) k hk ?_ { c with syd := true } ?_ (Td.mk x.id x.own x.root x.times x.port (mixN (fun j => synC (x.cs j)) x.cs k)) ?_ ?_); (· rfl); (· rfl); (· rfl); (· rfl); (· exact T9.out)) | ((with_reducible refine cd_load ?_ ?_ (k5) ?_ { c with syd := true } ?_ ?_); (· rfl); (· rfl); (· rfl); (· exact C9.out.blk)) | ((with_reducible refine td_load ?_ ?_ (w.heap.size) ?_ (Td.mk x.id x.own x.root x.times x.port (mixN (fun j => synC (x.cs j)) x.cs (k + 1))) ?_ ?_); (· rfl); (· rfl); (· rfl); (· exact T0.out.blk)) | ((with_reducible refine cs_load ?_ ?_ (w.heap.size) ?_ (Td.mk x.id x.own x.root x.times x.port (mixN (fun j => synC (x.cs j)) x.cs (k + 1))) ?_ ?_); (· rfl); (· rfl); (· rfl); (· exact T0.out.blk)) | ((with_reducible refine td_load ?_ ?_ (w.heap.size + 1) ?_ Td.zero ?_ ?_); (· rfl); (· rfl); (· rfl); (· exact R1.out.blk)) | ((with_reducible refine cs_load ?_ ?_ (w.heap.size + 1) ?_ Td.zero ?_ ?_); (· rfl); (· rfl); (· rfl); (· exact R1.out.blk)) | ((with_reducible refine cd_load ?_ ?_ (k5) ?_ { c with syd := true } ?_ ?_); (· rfl); (· rfl); (· rfl); (· exact C5.out.blk)))
          go_roundg g
          case measure => omega
          case rel => exact ⟨k + 1, by omega, by go_num, T0.out, R1.out, bel.out⟩
        · by_cases h2 : c.st = 0
          · rw [show synD c = c by unfold synD; rw [if_neg (by simp [h, h2])]] at HE
            have q1 : (c.st != 0) = false := by simp [h2]
            have C5_15 := C5.out.at 15 rfl
            have C5_14 := C5.out.at 14 rfl
            rw [h] at C5_15
            clear h h2
            go_upto_region 7 with fail
            clear C5_15 C5_14
            have C5_20 := C5.out.at 20 rfl
            have C5f20 := C5.out.2.2 20
            replace T0 := Lib.hid (T0.out.other (k' := k5) (o := 20) (x := .bool true) (by omega))
            replace R1 := Lib.hid (R1.out.other (k' := k5) (o := 20) (x := .bool true) (by omega))
            replace bel := Lib.hid (Bx.bel_set (k := k5) (o := 20) (x := .bool true) (by omega) bel.out)
            replace C5 := Lib.hid ((C5.out.set (20) (.bool true)).of (m := (cdl { c with syd := true })) (by first | rfl | simp [enc, tenc]))
            go_upto_region 8 with fail
            clear C5_20 C5f20
            generalize (w1.setCell ⟨k5, 20, none⟩ (.bool true)) = W7 at *
            have T9 := T0
            have C9 := C5
            replace R1 := Lib.hid (R1.out.apart_at (k' := w.heap.size) (cdl { c with syd := true }) (14 + k * 31) (by omega))
            replace C5 := Lib.hid (C5.out.apart_at (k' := w.heap.size) (cdl { c with syd := true }) (14 + k * 31) (by omega))
            replace bel := Lib.hid (Bx.bel_put_at (k := w.heap.size) (cdl { c with syd := true }) (14 + k * 31) (by omega) bel.out)
            replace T0 := Lib.hid ((Bx.Fre.put_at (cdl { c with syd := true }) (14 + k * 31) T0.out).of (m := (tdl (Td.mk x.id x.own x.root x.times x.port (mixN (fun j => synC (x.cs j)) x.cs (k + 1))))) (HP.out { c with syd := true } (HN.out.trans (HE.out))))
            go_wp2_with (first | ((with_reducible refine cc_store ?_ ?_ (w.heap.size) k hk ?_ { c with syd := true } ?_ (Td.mk x.id x.own x.root x.times x.port (mixN (fun j => synC (x.cs j)) x.cs k)) ?_ ?_); (· rfl); (· rfl); (· rfl); (· rfl); (· exact T9.out)) | ((with_reducible refine cd_load ?_ ?_ (k5) ?_ { c with syd := true } ?_ ?_); (· rfl); (· rfl); (· rfl); (· exact C9.out.blk)) | ((with_reducible refine td_load ?_ ?_ (w.heap.size) ?_ (Td.mk x.id x.own x.root x.times x.port (mixN (fun j => synC (x.cs j)) x.cs (k + 1))) ?_ ?_); (· rfl); (· rfl); (· rfl); (· exact T0.out.blk)) | ((with_reducible refine cs_load ?_ ?_ (w.heap.size) ?_ (Td.mk x.id x.own x.root x.times x.port (mixN (fun j => synC (x.cs j)) x.cs (k + 1))) ?_ ?_); (· rfl); (· rfl); (· rfl); (· exact T0.out.blk)) | ((with_reducible refine td_load ?_ ?_ (w.heap.size + 1) ?_ Td.zero ?_ ?_); (· rfl); (· rfl); (· rfl); (· exact R1.out.blk)) | ((with_reducible refine cs_load ?_ ?_ (w.heap.size + 1) ?_ Td.zero ?_ ?_); (· rfl); (· rfl); (· rfl); (· exact R1.out.blk)) | ((with_reducible refine cd_load ?_ ?_ (k5) ?_ { c with syd := true } ?_ ?_); (· rfl); (· rfl); (· rfl); (· exact C5.out.blk)))
            go_roundg g
            case measure => omega
            case rel => exact ⟨k + 1, by omega, by go_num, T0.out, R1.out, bel.out⟩
          · rw [show synD c = disC c by unfold synD; rw [if_pos (by simp [h, h2])]] at HE
            have q1 : (c.st != 0) = true := by simp [h2]
            replace HD := Lib.hid (HD.out c)
            generalize disC c = d at *
            have C5_15 := C5.out.at 15 rfl
            have C5_14 := C5.out.at 14 rfl
            rw [h] at C5_15
            clear h h2
            go_upto_region 6 with fail
            clear C5_15 C5_14
            go_wp2_with (first | ((with_reducible refine cd_load ?_ ?_ (k5) ?_ c ?_ ?_); (· rfl); (· rfl); (· rfl); (· exact C5.out.blk)))
            refine (HD.out _).mono ?_; rintro e w2 ⟨rfl, hb⟩
            replace T0 := Lib.hid (T0.out.keep hb)
            replace R1 := Lib.hid (R1.out.keep hb)
            replace C5 := Lib.hid (C5.out.keep hb)
            replace bel := Lib.hid (Bx.then_below bel.out hb)
            clear hb
            go_upto_region 7 with (first | ((with_reducible refine cd_store ?_ ?_ (k5) d ?_ ?_ (cdl c) ?_ ?_ ?_); (· rfl); (· rfl); (· rfl); (· rfl); (· rfl); (· exact C5.out.own)))
            replace T0 := Lib.hid (T0.out.apart_at (k' := k5) (cdl d) 0 (by omega))
            replace R1 := Lib.hid (R1.out.apart_at (k' := k5) (cdl d) 0 (by omega))
            replace bel := Lib.hid (Bx.bel_put_at (k := k5) (cdl d) 0 (by omega) bel.out)
            replace C5 := Lib.hid (C5.out.full (m := (cdl d)) (rfl))
            generalize (w2.setCells (k5) 0 (cdl d)) = W6 at *
            have C5_20 := C5.out.at 20 rfl
            have C5f20 := C5.out.2.2 20
            replace T0 := Lib.hid (T0.out.other (k' := k5) (o := 20) (x := .bool true) (by omega))
            replace R1 := Lib.hid (R1.out.other (k' := k5) (o := 20) (x := .bool true) (by omega))
            replace bel := Lib.hid (Bx.bel_set (k := k5) (o := 20) (x := .bool true) (by omega) bel.out)
            replace C5 := Lib.hid ((C5.out.set (20) (.bool true)).of (m := (cdl { d with syd := true })) (by first | rfl | simp [enc, tenc]))
            go_upto_region 8 with fail
            clear C5_20 C5f20
            generalize (W6.setCell ⟨k5, 20, none⟩ (.bool true)) = W7 at *
            have T9 := T0
            have C9 := C5
            replace R1 := Lib.hid (R1.out.apart_at (k' := w.heap.size) (cdl { d with syd := true }) (14 + k * 31) (by omega))
            replace C5 := Lib.hid (C5.out.apart_at (k' := w.heap.size) (cdl { d with syd := true }) (14 + k * 31) (by omega))
            replace bel := Lib.hid (Bx.bel_put_at (k := w.heap.size) (cdl { d with syd := true }) (14 + k * 31) (by omega) bel.out)
            replace T0 := Lib.hid ((Bx.Fre.put_at (cdl { d with syd := true }) (14 + k * 31) T0.out).of (m := (tdl (Td.mk x.id x.own x.root x.times x.port (mixN (fun j => synC (x.cs j)) x.cs (k + 1))))) (HP.out { d with syd := true } (HN.out.trans (HE.out))))
            go_wp2_with (first | ((with_reducible refine cc_store ?_ ?_ (w.heap.size) k hk ?_ { d with syd := true } ?_ (Td.mk x.id x.own x.root x.times x.port (mixN (fun j => synC (x.cs j)) x.cs k)) ?_ ?_); (· rfl); (· rfl); (· rfl); (· rfl); (· exact T9.out)) | ((with_reducible refine cd_load ?_ ?_ (k5) ?_ { d with syd := true } ?_ ?_); (· rfl); (· rfl); (· rfl); (· exact C9.out.blk)) | ((with_reducible refine td_load ?_ ?_ (w.heap.size) ?_ (Td.mk x.id x.own x.root x.times x.port (mixN (fun j => synC (x.cs j)) x.cs (k + 1))) ?_ ?_); (· rfl); (· rfl); (· rfl); (· exact T0.out.blk)) | ((with_reducible refine cs_load ?_ ?_ (w.heap.size) ?_ (Td.mk x.id x.own x.root x.times x.port (mixN (fun j => synC (x.cs j)) x.cs (k + 1))) ?_ ?_); (· rfl); (· rfl); (· rfl); (· exact T0.out.blk)) | ((with_reducible refine td_load ?_ ?_ (w.heap.size + 1) ?_ Td.zero ?_ ?_); (· rfl); (· rfl); (· rfl); (· exact R1.out.blk)) | ((with_reducible refine cs_load ?_ ?_ (w.heap.size + 1) ?_ Td.zero ?_ ?_); (· rfl); (· rfl); (· rfl); (· exact R1.out.blk)) | ((with_reducible refine cd_load ?_ ?_ (k5) ?_ { d with syd := true } ?_ ?_); (· rfl); (· rfl); (· rfl); (· exact C5.out.blk)))
            go_roundg g
            case measure => omega
            case rel => exact ⟨k + 1, by omega, by go_num, T0.out, R1.out, bel.out⟩

set_option maxRecDepth 40000 in
set_option maxHeartbeats 8000000 in
theorem rec_any (x : Td) (w : World) : Calls Try.prog 37 #[tdv x] w fun e w' => e = .returned (tdv (recT x)) ∧ Below w.heap.size w w' := by
  have HL := Lib.hid leads_any
  have HD := Lib.hid discard_any
  have T0 : Hid (Bx.Fre (w.alloc (tdo x)) w.heap.size (tdl x)) := Lib.hid (Bx.Fre.new w (tdl x) 31)
  have bel := Lib.hid (Bx.box_below w (tdo x))
  replace T0 := Lib.hid (T0.out.more (tdo Td.zero))
  have R1 : Hid (Bx.Fre ((w.alloc (tdo x)).alloc (tdo Td.zero)) (w.heap.size + 1) (tdl Td.zero)) := Lib.hid (Bx.Fre.new_at (W := (w.alloc (tdo x))) (k := w.heap.size + 1) (tdl Td.zero) 31 (by simp))
  replace bel := Lib.hid (Bx.bel_box bel.out (tdo Td.zero))
  have hal := zero_at
  go_enter Try.func37, Try.ntmps37
  go_wp2_with (first | ((with_reducible refine td_load ?_ ?_ (w.heap.size) ?_ x ?_ ?_); (· rfl); (· rfl); (· rfl); (· exact T0.out.blk)) | ((with_reducible refine cs_load ?_ ?_ (w.heap.size) ?_ x ?_ ?_); (· rfl); (· rfl); (· rfl); (· exact T0.out.blk)))
  clear hal
  generalize ((w.alloc (tdo x)).alloc (tdo Td.zero)) = W0 at *
  replace T0 := Lib.hid (T0.out.of (m := tdl (Td.mk x.id x.own x.root x.times x.port (mixN (fun j => recC (x.cs j)) x.cs 0))) (by rw [mix_none]))
  go_loopg [7] 8 (fun g sk wr => ∃ k : Nat, k + g = 8 ∧ sk = .int .i64 k ∧ Aside (Bx.Fre wr w.heap.size (tdl (Td.mk x.id x.own x.root x.times x.port (mixN (fun j => recC (x.cs j)) x.cs k)))) ∧ Aside (Bx.Fre wr (w.heap.size + 1) (tdl Td.zero)) ∧ Aside (Below w.heap.size w wr))
  case atStart => exact ⟨0, by omega, rfl, T0.out, R1.out, bel.out⟩
  case round =>
    clear T0 R1 bel W0
    obtain ⟨k, hkg, rfl, T0, R1, bel⟩ := hrel
    cases gk with
    | zero =>
      have hkz : ¬ ((k : Int) < 8) := by omega
      obtain rfl : k = 8 := by omega
      replace T0 : Hid (Bx.Fre wr w.heap.size (tdl (recT x))) := T0
      go_wp2_with (first | ((with_reducible refine td_store ?_ ?_ (w.heap.size + 1) (recT x) ?_ ?_ (tdl Td.zero) ?_ ?_ ?_); (· rfl); (· rfl); (· rfl); (· rfl); (· exact tdl_len _); (· exact R1.out.own)) | ((with_reducible refine td_load ?_ ?_ (w.heap.size) ?_ (recT x) ?_ ?_); (· rfl); (· rfl); (· rfl); (· exact T0.out.blk)) | ((with_reducible refine cs_load ?_ ?_ (w.heap.size) ?_ (recT x) ?_ ?_); (· rfl); (· rfl); (· rfl); (· exact T0.out.blk)))
      replace T0 := Lib.hid (T0.out.apart_at (k' := w.heap.size + 1) (tdl (recT x)) 0 (by omega))
      replace bel := Lib.hid (Bx.bel_put_at (k := w.heap.size + 1) (tdl (recT x)) 0 (by omega) bel.out)
      replace R1 := Lib.hid (R1.out.full (m := (tdl (recT x))) (by rw [tdl_len, tdl_len]))
      exact bodyPost_ret (v := tdv (recT x)) (td_result Try.results37 rfl R1.out.blk) rfl ⟨rfl, bel.out⟩
    | succ g =>
      have hkz : (k : Int) < 8 := by omega
      have hk0 : (0 : Int) ≤ k := by omega
      have hk : k < 8 := by omega
      have hix := index_at x.cs k hk
      have HP := Lib.hid (fun c hc => set_port x.id x.own x.root x.times x.port (fun j => recC (x.cs j)) x.cs k hk c hc)
      have HK := Lib.hid (fun h => congrArg (fun f => tdl (Td.mk x.id x.own x.root x.times x.port f)) (mix_skip (fun j => recC (x.cs j)) x.cs k h))
      have HN : Hid ((fun j => recC (x.cs j)) k = recC (x.cs k)) := Lib.hid rfl
      obtain ⟨c, hc⟩ : ∃ c, c = x.cs k := ⟨_, rfl⟩
      rw [← hc] at hix HN HK
      clear hc
      have h51 : w.heap.size + 1 < wr.heap.size := R1.out.2.1
      replace T0 := Lib.hid (T0.out.more (cdo c))
      replace R1 := Lib.hid (R1.out.more (cdo c))
      have C5 : Hid (Bx.Fre (wr.alloc (cdo c)) wr.heap.size (cdl c)) := Lib.hid (Bx.Fre.new wr (cdl c) 28)
      replace bel := Lib.hid (Bx.bel_box bel.out (cdo c))
      go_upto_region 4 with (first | ((with_reducible refine cd_fresh ?_ ?_ (wr.heap.size) c ?_ ?_ wr (cdl Cd.zero) ?_ ?_ ?_ ?_); (· rfl); (· rfl); (· rfl); (· rfl); (· rfl); (· rfl); (· first | rfl | (simp; done))))
      clear hix
      obtain ⟨k5, hk5⟩ : ∃ k, k = wr.heap.size := ⟨_, rfl⟩
      rw [← hk5] at C5 h51 ⊢
      generalize wr.alloc (cdo c) = w0 at *
      clear hk5 wr
      go_wp2_with (first | ((with_reducible refine cd_load ?_ ?_ (k5) ?_ c ?_ ?_); (· rfl); (· rfl); (· rfl); (· exact C5.out.blk)))
      refine (HL.out _ _).mono ?_; rintro e w1 ⟨rfl, hb⟩
      replace T0 := Lib.hid (T0.out.keep hb)
      replace R1 := Lib.hid (R1.out.keep hb)
      replace C5 := Lib.hid (C5.out.keep hb)
      replace bel := Lib.hid (Bx.then_below bel.out hb)
      clear hb
      have HE : recC c = if (!ledB c || c.agd || decide (c.rcn ≤ 0)) = true then c else { disC c with rcn := 0 } := rfl
      replace HE := Lib.hid HE
      generalize ledB c = b at *
      cases b with
      | false =>
        replace T0 := Lib.hid (T0.out.of (HK.out (HE.out.trans (if_pos (by simp)))))
        go_wp2_with (first | ((with_reducible refine cd_load ?_ ?_ (k5) ?_ c ?_ ?_); (· rfl); (· rfl); (· rfl); (· exact C5.out.blk)))
        go_roundg g
        case measure => omega
        case rel => exact ⟨k + 1, by omega, by go_num, T0.out, R1.out, bel.out⟩
      | true =>
        rcases Bool.eq_false_or_eq_true c.agd with h | h
        · replace HE := Lib.hid (HE.out.trans (if_pos (by simp [h])))
          have C5_15 := C5.out.at 15 rfl
          rw [h] at C5_15
          clear h
          replace T0 := Lib.hid (T0.out.of (HK.out (HE.out)))
          go_wp2_with (first | ((with_reducible refine cd_load ?_ ?_ (k5) ?_ c ?_ ?_); (· rfl); (· rfl); (· rfl); (· exact C5.out.blk)))
          go_roundg g
          case measure => omega
          case rel => exact ⟨k + 1, by omega, by go_num, T0.out, R1.out, bel.out⟩
        · by_cases h2 : c.rcn ≤ 0
          · replace HE := Lib.hid (HE.out.trans (if_pos (by simp [h2])))
            have C5_15 := C5.out.at 15 rfl
            have C5_26 := C5.out.at 26 rfl
            rw [h] at C5_15
            clear h
            replace T0 := Lib.hid (T0.out.of (HK.out (HE.out)))
            go_wp2_with (first | ((with_reducible refine cd_load ?_ ?_ (k5) ?_ c ?_ ?_); (· rfl); (· rfl); (· rfl); (· exact C5.out.blk)))
            go_roundg g
            case measure => omega
            case rel => exact ⟨k + 1, by omega, by go_num, T0.out, R1.out, bel.out⟩
          · replace HE := Lib.hid (HE.out.trans (if_neg (by simp [h]; omega)))
            replace HD := Lib.hid (HD.out c)
            generalize disC c = d at *
            have C5_15 := C5.out.at 15 rfl
            have C5_26 := C5.out.at 26 rfl
            rw [h] at C5_15
            clear h
            go_upto_region 5 with fail
            clear h2
            clear C5_15 C5_26
            go_wp2_with (first | ((with_reducible refine cd_load ?_ ?_ (k5) ?_ c ?_ ?_); (· rfl); (· rfl); (· rfl); (· exact C5.out.blk)))
            refine (HD.out _).mono ?_; rintro e w2 ⟨rfl, hb⟩
            replace T0 := Lib.hid (T0.out.keep hb)
            replace R1 := Lib.hid (R1.out.keep hb)
            replace C5 := Lib.hid (C5.out.keep hb)
            replace bel := Lib.hid (Bx.then_below bel.out hb)
            clear hb
            go_upto_region 6 with (first | ((with_reducible refine cd_store ?_ ?_ (k5) d ?_ ?_ (cdl c) ?_ ?_ ?_); (· rfl); (· rfl); (· rfl); (· rfl); (· rfl); (· exact C5.out.own)))
            replace T0 := Lib.hid (T0.out.apart_at (k' := k5) (cdl d) 0 (by omega))
            replace R1 := Lib.hid (R1.out.apart_at (k' := k5) (cdl d) 0 (by omega))
            replace bel := Lib.hid (Bx.bel_put_at (k := k5) (cdl d) 0 (by omega) bel.out)
            replace C5 := Lib.hid (C5.out.full (m := (cdl d)) (rfl))
            generalize (w2.setCells (k5) 0 (cdl d)) = W5 at *
            have C5_26 := C5.out.at 26 rfl
            have C5f26 := C5.out.2.2 26
            replace T0 := Lib.hid (T0.out.other (k' := k5) (o := 26) (x := .int .i64 0) (by omega))
            replace R1 := Lib.hid (R1.out.other (k' := k5) (o := 26) (x := .int .i64 0) (by omega))
            replace bel := Lib.hid (Bx.bel_set (k := k5) (o := 26) (x := .int .i64 0) (by omega) bel.out)
            replace C5 := Lib.hid ((C5.out.set (26) (.int .i64 0)).of (m := (cdl { d with rcn := 0 })) (by first | rfl | simp [enc, tenc]))
            go_upto_region 7 with fail
            clear C5_26 C5f26
            generalize (W5.setCell ⟨k5, 26, none⟩ (.int .i64 0)) = W6 at *
            have T9 := T0
            have C9 := C5
            replace R1 := Lib.hid (R1.out.apart_at (k' := w.heap.size) (cdl { d with rcn := 0 }) (14 + k * 31) (by omega))
            replace C5 := Lib.hid (C5.out.apart_at (k' := w.heap.size) (cdl { d with rcn := 0 }) (14 + k * 31) (by omega))
            replace bel := Lib.hid (Bx.bel_put_at (k := w.heap.size) (cdl { d with rcn := 0 }) (14 + k * 31) (by omega) bel.out)
            replace T0 := Lib.hid ((Bx.Fre.put_at (cdl { d with rcn := 0 }) (14 + k * 31) T0.out).of (m := (tdl (Td.mk x.id x.own x.root x.times x.port (mixN (fun j => recC (x.cs j)) x.cs (k + 1))))) (HP.out { d with rcn := 0 } (HN.out.trans (HE.out))))
            go_wp2_with (first | ((with_reducible refine cc_store ?_ ?_ (w.heap.size) k hk ?_ { d with rcn := 0 } ?_ (Td.mk x.id x.own x.root x.times x.port (mixN (fun j => recC (x.cs j)) x.cs k)) ?_ ?_); (· rfl); (· rfl); (· rfl); (· rfl); (· exact T9.out)) | ((with_reducible refine cd_load ?_ ?_ (k5) ?_ { d with rcn := 0 } ?_ ?_); (· rfl); (· rfl); (· rfl); (· exact C9.out.blk)) | ((with_reducible refine td_load ?_ ?_ (w.heap.size) ?_ (Td.mk x.id x.own x.root x.times x.port (mixN (fun j => recC (x.cs j)) x.cs (k + 1))) ?_ ?_); (· rfl); (· rfl); (· rfl); (· exact T0.out.blk)) | ((with_reducible refine cs_load ?_ ?_ (w.heap.size) ?_ (Td.mk x.id x.own x.root x.times x.port (mixN (fun j => recC (x.cs j)) x.cs (k + 1))) ?_ ?_); (· rfl); (· rfl); (· rfl); (· exact T0.out.blk)) | ((with_reducible refine td_load ?_ ?_ (w.heap.size + 1) ?_ Td.zero ?_ ?_); (· rfl); (· rfl); (· rfl); (· exact R1.out.blk)) | ((with_reducible refine cs_load ?_ ?_ (w.heap.size + 1) ?_ Td.zero ?_ ?_); (· rfl); (· rfl); (· rfl); (· exact R1.out.blk)) | ((with_reducible refine cd_load ?_ ?_ (k5) ?_ { d with rcn := 0 } ?_ ?_); (· rfl); (· rfl); (· rfl); (· exact C5.out.blk)))
            go_roundg g
            case measure => omega
            case rel => exact ⟨k + 1, by omega, by go_num, T0.out, R1.out, bel.out⟩

end Rip
end Go.Proofs.Ytihfganogemgkaa
