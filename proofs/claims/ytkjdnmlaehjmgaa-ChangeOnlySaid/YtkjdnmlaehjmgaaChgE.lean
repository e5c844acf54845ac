/-
  What Flush answers, and the document's.
-/
import Derived.Test.YtkjdnmlaehjmgaaChgB
import Derived.Test.YtkjdnmlaehjmgaaChgC
import Derived.Test.YtkjdnmlaehjmgaaRipE
import Derived.Test.YtkjdnmlaehjmgaaGate
import Derived.Deep.CutBlock
namespace Go.Proofs.Ytkjdnmlaehjmgaa
open Go.RowKit
namespace Chg
open Pre Crd Tre Elt Rip

set_option maxRecDepth 40000 in
theorem ceql10 (c d : Cd) (w : World) : (Op.equalIn 10000 28 (cdv c) (cdv d)).run Try.prog w = .ok (decide (c = d)) w := by
  simp [go_sem]
  by_cases e : c = d
  · subst e; simp
  · rw [decide_eq_false e]
    exact Rip.ite_no fun h0 => ite_no fun h1 => ite_no fun h2 => ite_no fun h3 => ite_no fun h4 => ite_no fun h5 => ite_no fun h6 => ite_no fun h7 => ite_no fun h8 => ite_no fun h9 => ite_no fun h10 => ite_no fun h11 => ite_no fun h12 => ite_no fun h13 => ite_no fun h14 => ite_no fun h15 => ite_no fun h16 => ite_no fun h17 => ite_no fun h18 => ite_no fun h19 => ite_no fun h20 => ite_no fun h21 => ite_no fun h22 => ite_no fun h23 => ite_no fun h24 => ite_no fun h25 => ite_no fun h26 => ite_no fun h27 => ite_no fun h28 => ite_no fun h29 => ite_no fun h30 => absurd (cd_ext c d h0 h1 h2 (by have := h3; omega) h4 (vc_ext _ _ (by have := h5; omega) (by have := h6; omega) (by have := h7; omega) h8) (tm_ext _ _ h9 h10 h11 h12) h13 h14 h15 h16 h17 h18 h19 h20 h21 h22 h23 h24 h25 h26 h27 h28 h29 h30) e

theorem ceql_any (c d : Cd) (w : World) : (binOp .eql 28 (cdv c) (cdv d)).run Try.prog w = .ok (.bool (decide (c = d))) w := by
  rw [run_eql_struct, ceql10]
  rfl

/-- The step over a store of a whole bridge. -/
theorem tdw_wp {op : Oper} {a : Act} {W : World} {Q : Exit → Act → World → Prop} {K : Act → World → Prop} (ho : op.op = .store 31 (opA op.op) (opB op.op)) (k : Nat) (hx : a.eval (opA op.op) = .pointer (some ⟨k, 0, none⟩)) (x : Td) (hy : a.eval (opB op.op) = tdv x) (zs : List Value) (hz : zs.length = 262) (hF : Bx.Fre W k zs)
    (h : K (a.put op.dst undef) (W.setCells k 0 (tdl x))) : op.wp Try.prog a W K Q :=
  Bx.wp_store_at _ _ _ ho k 0 zs (tdl x) hx hy (td_info x) (tdl_one x) (by rw [hz, tdl_len]; exact Nat.le_refl _) hF h

theorem with_bel (m : Nat) (p : Int) (hm : m < 256) (w : World) : Calls Try.prog 16 #[.int .i64 (m : Int), .int .i64 p] w fun e w' => e = .returned (.int .i64 ((Por.withN m p : Nat) : Int)) ∧ Below w.heap.size w w' := by
  refine (Por.with_nat m p hm w).mono ?_
  rintro e w' ⟨rfl, rfl⟩
  exact ⟨rfl, Below.refl _ _⟩

theorem rwith_bel (m : Nat) (p : Int) (hm : m < 256) (w : World) : Calls Try.prog 18 #[.int .i64 (m : Int), .int .i64 p] w fun e w' => e = .returned (.int .i64 ((Por.withN m p : Nat) : Int)) ∧ Below w.heap.size w w' := by
  refine (Por.rwith_nat m p hm w).mono ?_
  rintro e w' ⟨rfl, rfl⟩
  exact ⟨rfl, Below.refl _ _⟩

set_option maxRecDepth 40000 in
set_option maxHeartbeats 8000000 in
theorem flush_any (a y : Td) (w : World) : Calls Try.prog 5 #[tdv a, tdv y] w fun e w' => e = .returned (.tuple #[tdv (flN a y 8).1, .int .i64 (((flN a y 8).2 : Nat) : Int)]) ∧ Below w.heap.size w w' := by
  have HW := Lib.hid (fun (m : Nat) (p : Int) (hm : m < 256) w => Por.with_nat m p hm w)
  have HS := Lib.hid start_any
  have HP := Lib.hid ports_any
  have hal := zero_at
  have T0 : Hid (Bx.Fre (w.alloc (tdo a)) w.heap.size (tdl a)) := Lib.hid (Bx.Fre.new w (tdl a) 31)
  have bel := Lib.hid (Bx.box_below w (tdo a))
  replace T0 := Lib.hid (T0.out.more (tdo y))
  have T1 : Hid (Bx.Fre ((w.alloc (tdo a)).alloc (tdo y)) (w.heap.size + 1) (tdl y)) := Lib.hid (Bx.Fre.new_at (W := (w.alloc (tdo a))) (k := w.heap.size + 1) (tdl y) 31 (by simp))
  replace bel := Lib.hid (Bx.bel_box bel.out (tdo y))
  replace T0 := Lib.hid (T0.out.more (tdo Td.zero))
  replace T1 := Lib.hid (T1.out.more (tdo Td.zero))
  have R2 : Hid (Bx.Fre (((w.alloc (tdo a)).alloc (tdo y)).alloc (tdo Td.zero)) (w.heap.size + 1 + 1) (tdl Td.zero)) := Lib.hid (Bx.Fre.new_at (W := ((w.alloc (tdo a)).alloc (tdo y))) (k := w.heap.size + 1 + 1) (tdl Td.zero) 31 (by simp))
  replace bel := Lib.hid (Bx.bel_box bel.out (tdo Td.zero))
  go_enter Try.func5, Try.ntmps5
  go_wp2_with (first | ((with_reducible refine td_load ?_ ?_ (w.heap.size + 1) ?_ y ?_ ?_); (· rfl); (· rfl); (· rfl); (· exact T1.out.blk)) | ((with_reducible refine cs_load ?_ ?_ (w.heap.size + 1) ?_ y ?_ ?_); (· rfl); (· rfl); (· rfl); (· exact T1.out.blk)))
  clear hal
  generalize (((w.alloc (tdo a)).alloc (tdo y)).alloc (tdo Td.zero)) = W0 at *
  replace T1 : Hid (Bx.Fre W0 (w.heap.size + 1) (tdl (flN a y 0).1)) := T1
  go_loopg [6, 13] 8 (fun g s6 s13 wr => ∃ k : Nat, k + g = 8 ∧ s13 = .int .i64 k ∧ s6 = .int .i64 (((flN a y k).2 : Nat) : Int) ∧ Aside (Bx.Fre wr w.heap.size (tdl a)) ∧ Aside (Bx.Fre wr (w.heap.size + 1) (tdl (flN a y k).1)) ∧ Aside (Bx.Fre wr (w.heap.size + 1 + 1) (tdl Td.zero)) ∧ Aside (Below w.heap.size w wr))
  case atStart => exact ⟨0, by omega, rfl, rfl, T0.out, T1.out, R2.out, bel.out⟩
  case round =>
    clear T0 T1 R2 bel W0
    obtain ⟨k, hkg, rfl, rfl, T0, T1, R2, bel⟩ := hrel
    cases gk with
    | zero =>
      have hkz : ¬ ((k : Int) < 8) := by omega
      obtain rfl : k = 8 := by omega
      obtain ⟨v, hv⟩ : ∃ v, v = (flN a y 8).1 := ⟨_, rfl⟩
      rw [← hv] at T1
      replace hv := Lib.hid hv
      go_wp2_with (first | ((with_reducible refine td_store ?_ ?_ (w.heap.size + 1 + 1) v ?_ ?_ (tdl Td.zero) ?_ ?_ ?_); (· rfl); (· rfl); (· rfl); (· rfl); (· exact tdl_len _); (· exact R2.out.own)) | ((with_reducible refine td_load ?_ ?_ (w.heap.size + 1) ?_ v ?_ ?_); (· rfl); (· rfl); (· rfl); (· exact T1.out.blk)) | ((with_reducible refine cs_load ?_ ?_ (w.heap.size + 1) ?_ v ?_ ?_); (· rfl); (· rfl); (· rfl); (· exact T1.out.blk)))
      replace T0 := Lib.hid (T0.out.apart_at (k' := w.heap.size + 1 + 1) (tdl v) 0 (by omega))
      replace T1 := Lib.hid (T1.out.apart_at (k' := w.heap.size + 1 + 1) (tdl v) 0 (by omega))
      replace bel := Lib.hid (Bx.bel_put_at (k := w.heap.size + 1 + 1) (tdl v) 0 (by omega) bel.out)
      replace R2 := Lib.hid (R2.out.full (m := (tdl v)) (by rw [tdl_len, tdl_len]))
      exact bodyPost_ret (v := .tuple #[tdv v, .int .i64 (((flN a y 8).2 : Nat) : Int)]) (td_result2 Try.results5 rfl rfl R2.out.blk) rfl ⟨by rw [hv.out], bel.out⟩
    | succ g =>
      have hkz : (k : Int) < 8 := by omega
      have hk0 : (0 : Int) ≤ k := by omega
      have hk : k < 8 := by omega
      have hix := index_at y.cs k hk
      have HN : Hid (flN a y (k + 1) = flS (a.cs k) (y.cs k) k (flN a y k)) := Lib.hid rfl
      have hm := Lib.hid (flN_lt a y k)
      generalize flN a y k = s at *
      obtain ⟨v, m⟩ := s
      replace T1 : Hid (Bx.Fre wr (w.heap.size + 1) (tdl v)) := T1
      replace hm : Hid (m < 256) := hm
      skip
      obtain ⟨c, hc⟩ : ∃ c, c = y.cs k := ⟨_, rfl⟩
      rw [← hc] at hix HN
      clear hc
      have h28 : w.heap.size + 1 + 1 < wr.heap.size := R2.out.2.1
      replace T0 := Lib.hid (T0.out.more (cdo c))
      replace T1 := Lib.hid (T1.out.more (cdo c))
      replace R2 := Lib.hid (R2.out.more (cdo c))
      have C8 : Hid (Bx.Fre (wr.alloc (cdo c)) wr.heap.size (cdl c)) := Lib.hid (Bx.Fre.new wr (cdl c) 28)
      replace bel := Lib.hid (Bx.bel_box bel.out (cdo c))
      go_upto_region 5 with (first | ((with_reducible refine cd_fresh ?_ ?_ (wr.heap.size) c ?_ ?_ wr (cdl Cd.zero) ?_ ?_ ?_ ?_); (· rfl); (· rfl); (· rfl); (· rfl); (· rfl); (· rfl); (· first | rfl | (simp; done))))
      clear hix
      obtain ⟨k8, hk8⟩ : ∃ k, k = wr.heap.size := ⟨_, rfl⟩
      rw [← hk8] at C8 h28 ⊢
      generalize wr.alloc (cdo c) = w0 at *
      clear hk8 wr
      have h89 : k8 < w0.heap.size := C8.out.2.1
      have U0 := T0
      replace T0 := Lib.hid (T0.out.more (cdo (a.cs k)))
      replace T1 := Lib.hid (T1.out.more (cdo (a.cs k)))
      replace R2 := Lib.hid (R2.out.more (cdo (a.cs k)))
      replace C8 := Lib.hid (C8.out.more (cdo (a.cs k)))
      have C9 : Hid (Bx.Fre (w0.alloc (cdo (a.cs k))) w0.heap.size (cdl (a.cs k))) := Lib.hid (Bx.Fre.new w0 (cdl (a.cs k)) 28)
      replace bel := Lib.hid (Bx.bel_box bel.out (cdo (a.cs k)))
      go_upto_region 6 with (first | ((with_reducible refine cc_load ?_ ?_ (w.heap.size) k hk ?_ a ?_ ?_); (· rfl); (· rfl); (· rfl); (· first | exact U0.out.blk | exact (U0.out.more (.cells (cdl Cd.zero).toArray 28)).blk)) | ((with_reducible refine cd_fresh ?_ ?_ (w0.heap.size) (a.cs k) ?_ ?_ w0 (cdl Cd.zero) ?_ ?_ ?_ ?_); (· rfl); (· rfl); (· rfl); (· rfl); (· rfl); (· rfl); (· first | rfl | (simp; done))))
      clear U0
      obtain ⟨d, hd⟩ : ∃ d, d = a.cs k := ⟨_, rfl⟩
      rw [← hd] at C9 T0 T1 R2 C8 bel HN ⊢
      clear hd
      obtain ⟨k9, hk9⟩ : ∃ k, k = w0.heap.size := ⟨_, rfl⟩
      rw [← hk9] at C9 h89 ⊢
      generalize w0.alloc (cdo d) = w1 at *
      clear hk9 w0
      have HC := Lib.hid (fun w => closes_any d c w)
      have HO := Lib.hid (fun w => opens_any d c w)
      have HQ := Lib.hid (fun w => ceql_any c d w)
      have HG := Lib.hid (fun op a b w => cguard_at op a b c d w)
      have hsame : Hid (c = d → flS d c k (v, m) = (v, m)) := Lib.hid (fun h => by rw [h, flS_same])
      obtain ⟨q, hq⟩ : ∃ q, q = decide (c = d) := ⟨_, rfl⟩
      rw [← hq] at HQ
      replace hq := Lib.hid hq
      have hv := HQ.out
      have hvg := HG.out
      clear HQ HG
      cases q with
      | true =>
        have he : c = d := of_decide_eq_true hq.out.symm
        replace HN := Lib.hid (HN.out.trans (hsame.out he))
        clear he
        go_wp2_with (first | ((with_reducible refine cd_load ?_ ?_ (k8) ?_ c ?_ ?_); (· rfl); (· rfl); (· rfl); (· exact C8.out.blk)) | ((with_reducible refine cd_load ?_ ?_ (k9) ?_ d ?_ ?_); (· rfl); (· rfl); (· rfl); (· exact C9.out.blk)))
        go_roundg g
        case measure => omega
        case rel => exact ⟨k + 1, by omega, by go_num, by rw [HN.out], T0.out, by rw [HN.out]; exact T1.out, R2.out, bel.out⟩
      | false =>
        clear hsame hq
        have HF : Hid (flS d c k (v, m) = if clsB d c = true then (v, Por.withN m k) else if opnB d c = true then (strT v ((Por.withN (prtI v k) k : Nat) : Int), m ||| prtI v k) else (v, m)) := Lib.hid rfl
        replace HN := Lib.hid (HN.out.trans HF.out)
        clear HF
        generalize clsB d c = p at *
        generalize opnB d c = o at *
        go_upto_region 7 with (first | ((with_reducible refine cd_load ?_ ?_ (k8) ?_ c ?_ ?_); (· rfl); (· rfl); (· rfl); (· exact C8.out.blk)) | ((with_reducible refine cd_load ?_ ?_ (k9) ?_ d ?_ ?_); (· rfl); (· rfl); (· rfl); (· exact C9.out.blk)))
        clear hv hvg
        go_wp2_with (first | ((with_reducible refine cd_load ?_ ?_ (k8) ?_ c ?_ ?_); (· rfl); (· rfl); (· rfl); (· exact C8.out.blk)) | ((with_reducible refine cd_load ?_ ?_ (k9) ?_ d ?_ ?_); (· rfl); (· rfl); (· rfl); (· exact C9.out.blk)))
        refine (HC.out _).mono ?_; rintro e w2 ⟨rfl, hb⟩
        replace T0 := Lib.hid (T0.out.keep hb)
        replace T1 := Lib.hid (T1.out.keep hb)
        replace R2 := Lib.hid (R2.out.keep hb)
        replace C8 := Lib.hid (C8.out.keep hb)
        replace C9 := Lib.hid (C9.out.keep hb)
        replace bel := Lib.hid (Bx.then_below bel.out hb)
        clear hb
        cases p with
        | true =>
          replace HN := Lib.hid (HN.out.trans (if_pos rfl))
          go_wp2_with (first | ((with_reducible refine td_load ?_ ?_ (w.heap.size) ?_ a ?_ ?_); (· rfl); (· rfl); (· rfl); (· exact T0.out.blk)) | ((with_reducible refine cs_load ?_ ?_ (w.heap.size) ?_ a ?_ ?_); (· rfl); (· rfl); (· rfl); (· exact T0.out.blk)) | ((with_reducible refine td_load ?_ ?_ (w.heap.size + 1) ?_ v ?_ ?_); (· rfl); (· rfl); (· rfl); (· exact T1.out.blk)) | ((with_reducible refine cs_load ?_ ?_ (w.heap.size + 1) ?_ v ?_ ?_); (· rfl); (· rfl); (· rfl); (· exact T1.out.blk)) | ((with_reducible refine td_load ?_ ?_ (w.heap.size + 1 + 1) ?_ Td.zero ?_ ?_); (· rfl); (· rfl); (· rfl); (· exact R2.out.blk)) | ((with_reducible refine cs_load ?_ ?_ (w.heap.size + 1 + 1) ?_ Td.zero ?_ ?_); (· rfl); (· rfl); (· rfl); (· exact R2.out.blk)) | ((with_reducible refine cd_load ?_ ?_ (k8) ?_ c ?_ ?_); (· rfl); (· rfl); (· rfl); (· exact C8.out.blk)) | ((with_reducible refine cd_load ?_ ?_ (k9) ?_ d ?_ ?_); (· rfl); (· rfl); (· rfl); (· exact C9.out.blk)))
          refine (HW.out _ _ hm.out _).mono ?_; rintro e w2 ⟨rfl, rfl⟩
          go_wp2_with fail
          go_roundg g
          case measure => omega
          case rel => exact ⟨k + 1, by omega, by go_num, by rw [HN.out], T0.out, by rw [HN.out]; exact T1.out, R2.out, bel.out⟩
        | false =>
          replace HN := Lib.hid (HN.out.trans (if_neg (by decide)))
          go_wp2_with (first | ((with_reducible refine cd_load ?_ ?_ (k8) ?_ c ?_ ?_); (· rfl); (· rfl); (· rfl); (· exact C8.out.blk)) | ((with_reducible refine cd_load ?_ ?_ (k9) ?_ d ?_ ?_); (· rfl); (· rfl); (· rfl); (· exact C9.out.blk)))
          refine (HO.out _).mono ?_; rintro e w3 ⟨rfl, hb⟩
          replace T0 := Lib.hid (T0.out.keep hb)
          replace T1 := Lib.hid (T1.out.keep hb)
          replace R2 := Lib.hid (R2.out.keep hb)
          replace C8 := Lib.hid (C8.out.keep hb)
          replace C9 := Lib.hid (C9.out.keep hb)
          replace bel := Lib.hid (Bx.then_below bel.out hb)
          clear hb
          cases o with
          | true =>
            replace HN := Lib.hid (HN.out.trans (if_pos rfl))
            have hn := Lib.hid (prtI_lt v (k : Int))
            have HP2 := Lib.hid (HP.out v (k : Int))
            have HS2 := Lib.hid (fun n : Nat => HS.out v ((n : Nat) : Int))
            generalize prtI v (k : Int) = n at *
            have hor := Por.or_nat m n hm.out hn.out
            have HW2 := Lib.hid (with_bel n (k : Int) hn.out)
            obtain ⟨r, hr⟩ : ∃ r, r = Por.withN n (k : Int) := ⟨_, rfl⟩
            rw [← hr] at HW2 HN
            clear hr
            replace HS2 := Lib.hid (HS2.out r)
            obtain ⟨u, hu⟩ : ∃ u, u = strT v (r : Int) := ⟨_, rfl⟩
            rw [← hu] at HS2 HN
            clear hu
            go_wp2_with (first | ((with_reducible refine td_load ?_ ?_ (w.heap.size + 1) ?_ v ?_ ?_); (· rfl); (· rfl); (· rfl); (· exact T1.out.blk)) | ((with_reducible refine cs_load ?_ ?_ (w.heap.size + 1) ?_ v ?_ ?_); (· rfl); (· rfl); (· rfl); (· exact T1.out.blk)))
            refine (HP2.out _).mono ?_; rintro e w4 ⟨rfl, hb⟩
            replace T0 := Lib.hid (T0.out.keep hb)
            replace T1 := Lib.hid (T1.out.keep hb)
            replace R2 := Lib.hid (R2.out.keep hb)
            replace C8 := Lib.hid (C8.out.keep hb)
            replace C9 := Lib.hid (C9.out.keep hb)
            replace bel := Lib.hid (Bx.then_below bel.out hb)
            clear hb
            go_upto_region 11 with fail
            skip
            refine wp_region_noPanic ?_
            refine Gt.region_gate (g := 5) (S := fun w' => Bx.Blk w' (w.heap.size + 1) (tdl v)) (by kernel_rfl) (by exact T1.out.blk) (fun hHeld => ?_)
            replace bel := Lib.hid (Bx.bel_drewn bel.out)
            replace T0 := Lib.hid (T0.out.drew)
            replace T1 := Lib.hid (T1.out.drew)
            replace R2 := Lib.hid (R2.out.drew)
            replace C8 := Lib.hid (C8.out.drew)
            replace C9 := Lib.hid (C9.out.drew)
            generalize w4.drew = wd11 at *
            refine Gt.gate_take (i := 0) (oi := ?oz1x0) (v := tdv v) ?hiz1x0 (by kernel_rfl) (by kernel_rfl) (by kernel_rfl) (by kernel_rfl) (fun _ _ _ h => h) ?yz1x0 hHeld ?rz1x0
            case hiz1x0 => (simp only [List.getElem?_toArray, List.getElem?_cons_zero]; rfl)
            case yz1x0 => (refine td_yields rfl rfl (w.heap.size + 1) rfl v ?_; intro w' hS; exact hS)
            try simp only [Act.put, List.setIfInBounds_toArray, List.set_cons_zero, List.set_cons_succ]
            refine Gt.gate_take (i := 1) (oi := ?oz1x1) (v := ?vz1x1) ?hiz1x1 (by kernel_rfl) (by kernel_rfl) (by kernel_rfl) (by kernel_rfl) (fun _ _ _ h => h) ?yz1x1 hHeld ?rz1x1
            case hiz1x1 => (simp only [List.getElem?_toArray, List.getElem?_cons_succ, List.getElem?_cons_zero]; rfl)
            case yz1x1 => (refine Or.inl ⟨by rfl, ?_⟩; intro w' hSw; (try dsimp only at hSw); go_simp; (try with_reducible rfl))
            try simp only [Act.put, List.setIfInBounds_toArray, List.set_cons_zero, List.set_cons_succ]
            refine Gt.gate_take (i := 2) (oi := ?oz1x2) (v := ?vz1x2) ?hiz1x2 (by kernel_rfl) (by kernel_rfl) (by kernel_rfl) (by kernel_rfl) (fun _ _ _ h => h) ?yz1x2 hHeld ?rz1x2
            case hiz1x2 => (simp only [List.getElem?_toArray, List.getElem?_cons_succ, List.getElem?_cons_zero]; rfl)
            case yz1x2 => (refine Or.inl ⟨by rfl, ?_⟩; intro w' hSw; (try dsimp only at hSw); go_simp; (try with_reducible rfl))
            try simp only [Act.put, List.setIfInBounds_toArray, List.set_cons_zero, List.set_cons_succ]
            refine Gt.gate_step (i := 3) (o := ?oz1x3) (by kernel_rfl) (by decide) ?hiz1x3 ?hstz1x3
            case hiz1x3 => (simp only [List.getElem?_toArray, List.getElem?_cons_succ, List.getElem?_cons_zero]; rfl)
            intro K hK
            go_simp
            (go_at_call 16; (with_reducible refine (HW2.out _).mono ?_); rintro e w5 ⟨rfl, hb⟩)
            go_wp2_with fail
            refine hK.out _ _ (by exact Bx.Blk.keep hHeld hb) (fun hNew => ?_)
            clear hHeld
            have hHeld := hNew
            clear hNew hK K
            replace bel := Lib.hid (Bx.then_below bel.out hb)
            replace T0 := Lib.hid (T0.out.keep hb)
            replace T1 := Lib.hid (T1.out.keep hb)
            replace R2 := Lib.hid (R2.out.keep hb)
            replace C8 := Lib.hid (C8.out.keep hb)
            replace C9 := Lib.hid (C9.out.keep hb)
            clear hb
            refine Gt.gate_step (i := 4) (o := ?oz1x4) (by kernel_rfl) (by decide) ?hiz1x4 ?hstz1x4
            case hiz1x4 => (simp only [List.getElem?_toArray, List.getElem?_cons_succ, List.getElem?_cons_zero]; rfl)
            intro K hK
            go_simp
            (go_at_call 11; (with_reducible refine (HS2.out _).mono ?_); rintro e w6 ⟨rfl, hb⟩)
            go_wp2_with fail
            refine hK.out _ _ (by exact Bx.Blk.keep hHeld hb) (fun hNew => ?_)
            clear hHeld
            have hHeld := hNew
            clear hNew hK K
            replace bel := Lib.hid (Bx.then_below bel.out hb)
            replace T0 := Lib.hid (T0.out.keep hb)
            replace T1 := Lib.hid (T1.out.keep hb)
            replace R2 := Lib.hid (R2.out.keep hb)
            replace C8 := Lib.hid (C8.out.keep hb)
            replace C9 := Lib.hid (C9.out.keep hb)
            clear hb
            refine Gt.gate_gate (o := ?oz1x5) (by kernel_rfl) ?hiz1x5 ?hstz1x5
            case hiz1x5 => (simp only [List.getElem?_toArray, List.getElem?_cons_succ, List.getElem?_cons_zero]; rfl)
            intro K hK
            rw [if_pos (by rfl)]
            refine tdw_wp rfl (w.heap.size + 1) rfl u rfl (tdl v) (tdl_len _) T1.out ?_
            refine hK.out _ _ ?_
            clear hK K hHeld
            replace T0 := Lib.hid (T0.out.apart_at (k' := w.heap.size + 1) (tdl u) 0 (by omega))
            replace R2 := Lib.hid (R2.out.apart_at (k' := w.heap.size + 1) (tdl u) 0 (by omega))
            replace C8 := Lib.hid (C8.out.apart_at (k' := w.heap.size + 1) (tdl u) 0 (by omega))
            replace C9 := Lib.hid (C9.out.apart_at (k' := w.heap.size + 1) (tdl u) 0 (by omega))
            replace bel := Lib.hid (Bx.bel_put_at (k := w.heap.size + 1) (tdl u) 0 (by omega) bel.out)
            replace T1 := Lib.hid (T1.out.full (m := (tdl u)) (by rw [tdl_len, tdl_len]))
            refine wpAnyH_done (by kernel_rfl) ?_ _
            refine NoPanic.normal ?_
            go_wp2_with fail
            go_roundg g
            case measure => omega
            case rel => exact ⟨k + 1, by omega, by go_num, by rw [HN.out], T0.out, by rw [HN.out]; exact T1.out, R2.out, bel.out⟩
          | false =>
            replace HN := Lib.hid (HN.out.trans (if_neg (by decide)))
            go_wp2_with (first | ((with_reducible refine td_load ?_ ?_ (w.heap.size) ?_ a ?_ ?_); (· rfl); (· rfl); (· rfl); (· exact T0.out.blk)) | ((with_reducible refine cs_load ?_ ?_ (w.heap.size) ?_ a ?_ ?_); (· rfl); (· rfl); (· rfl); (· exact T0.out.blk)) | ((with_reducible refine td_load ?_ ?_ (w.heap.size + 1) ?_ v ?_ ?_); (· rfl); (· rfl); (· rfl); (· exact T1.out.blk)) | ((with_reducible refine cs_load ?_ ?_ (w.heap.size + 1) ?_ v ?_ ?_); (· rfl); (· rfl); (· rfl); (· exact T1.out.blk)) | ((with_reducible refine td_load ?_ ?_ (w.heap.size + 1 + 1) ?_ Td.zero ?_ ?_); (· rfl); (· rfl); (· rfl); (· exact R2.out.blk)) | ((with_reducible refine cs_load ?_ ?_ (w.heap.size + 1 + 1) ?_ Td.zero ?_ ?_); (· rfl); (· rfl); (· rfl); (· exact R2.out.blk)) | ((with_reducible refine cd_load ?_ ?_ (k8) ?_ c ?_ ?_); (· rfl); (· rfl); (· rfl); (· exact C8.out.blk)) | ((with_reducible refine cd_load ?_ ?_ (k9) ?_ d ?_ ?_); (· rfl); (· rfl); (· rfl); (· exact C9.out.blk)))
            go_roundg g
            case measure => omega
            case rel => exact ⟨k + 1, by omega, by go_num, by rw [HN.out], T0.out, by rw [HN.out]; exact T1.out, R2.out, bel.out⟩

set_option maxRecDepth 40000 in
set_option maxHeartbeats 8000000 in
theorem rflush_any (a y : Td) (w : World) : Calls Try.prog 6 #[tdv a, tdv y] w fun e w' => e = .returned (.tuple #[tdv (flN a y 8).1, .int .i64 (((flN a y 8).2 : Nat) : Int)]) ∧ Below w.heap.size w w' := by
  have HW := Lib.hid (fun (m : Nat) (p : Int) (hm : m < 256) w => Por.rwith_nat m p hm w)
  have HS := Lib.hid rstart_any
  have HP := Lib.hid rports_any
  have hal := zero_at
  have T0 : Hid (Bx.Fre (w.alloc (tdo a)) w.heap.size (tdl a)) := Lib.hid (Bx.Fre.new w (tdl a) 31)
  have bel := Lib.hid (Bx.box_below w (tdo a))
  replace T0 := Lib.hid (T0.out.more (tdo y))
  have T1 : Hid (Bx.Fre ((w.alloc (tdo a)).alloc (tdo y)) (w.heap.size + 1) (tdl y)) := Lib.hid (Bx.Fre.new_at (W := (w.alloc (tdo a))) (k := w.heap.size + 1) (tdl y) 31 (by simp))
  replace bel := Lib.hid (Bx.bel_box bel.out (tdo y))
  replace T0 := Lib.hid (T0.out.more (tdo Td.zero))
  replace T1 := Lib.hid (T1.out.more (tdo Td.zero))
  have R2 : Hid (Bx.Fre (((w.alloc (tdo a)).alloc (tdo y)).alloc (tdo Td.zero)) (w.heap.size + 1 + 1) (tdl Td.zero)) := Lib.hid (Bx.Fre.new_at (W := ((w.alloc (tdo a)).alloc (tdo y))) (k := w.heap.size + 1 + 1) (tdl Td.zero) 31 (by simp))
  replace bel := Lib.hid (Bx.bel_box bel.out (tdo Td.zero))
  go_enter Try.func6, Try.ntmps6
  go_wp2_with (first | ((with_reducible refine td_load ?_ ?_ (w.heap.size + 1) ?_ y ?_ ?_); (· rfl); (· rfl); (· rfl); (· exact T1.out.blk)) | ((with_reducible refine cs_load ?_ ?_ (w.heap.size + 1) ?_ y ?_ ?_); (· rfl); (· rfl); (· rfl); (· exact T1.out.blk)))
  clear hal
  generalize (((w.alloc (tdo a)).alloc (tdo y)).alloc (tdo Td.zero)) = W0 at *
  replace T1 : Hid (Bx.Fre W0 (w.heap.size + 1) (tdl (flN a y 0).1)) := T1
  go_loopg [6, 13] 8 (fun g s6 s13 wr => ∃ k : Nat, k + g = 8 ∧ s13 = .int .i64 k ∧ s6 = .int .i64 (((flN a y k).2 : Nat) : Int) ∧ Aside (Bx.Fre wr w.heap.size (tdl a)) ∧ Aside (Bx.Fre wr (w.heap.size + 1) (tdl (flN a y k).1)) ∧ Aside (Bx.Fre wr (w.heap.size + 1 + 1) (tdl Td.zero)) ∧ Aside (Below w.heap.size w wr))
  case atStart => exact ⟨0, by omega, rfl, rfl, T0.out, T1.out, R2.out, bel.out⟩
  case round =>
    clear T0 T1 R2 bel W0
    obtain ⟨k, hkg, rfl, rfl, T0, T1, R2, bel⟩ := hrel
    cases gk with
    | zero =>
      have hkz : ¬ ((k : Int) < 8) := by omega
      obtain rfl : k = 8 := by omega
      obtain ⟨v, hv⟩ : ∃ v, v = (flN a y 8).1 := ⟨_, rfl⟩
      rw [← hv] at T1
      replace hv := Lib.hid hv
      go_wp2_with (first | ((with_reducible refine td_store ?_ ?_ (w.heap.size + 1 + 1) v ?_ ?_ (tdl Td.zero) ?_ ?_ ?_); (· rfl); (· rfl); (· rfl); (· rfl); (· exact tdl_len _); (· exact R2.out.own)) | ((with_reducible refine td_load ?_ ?_ (w.heap.size + 1) ?_ v ?_ ?_); (· rfl); (· rfl); (· rfl); (· exact T1.out.blk)) | ((with_reducible refine cs_load ?_ ?_ (w.heap.size + 1) ?_ v ?_ ?_); (· rfl); (· rfl); (· rfl); (· exact T1.out.blk)))
      replace T0 := Lib.hid (T0.out.apart_at (k' := w.heap.size + 1 + 1) (tdl v) 0 (by omega))
      replace T1 := Lib.hid (T1.out.apart_at (k' := w.heap.size + 1 + 1) (tdl v) 0 (by omega))
      replace bel := Lib.hid (Bx.bel_put_at (k := w.heap.size + 1 + 1) (tdl v) 0 (by omega) bel.out)
      replace R2 := Lib.hid (R2.out.full (m := (tdl v)) (by rw [tdl_len, tdl_len]))
      exact bodyPost_ret (v := .tuple #[tdv v, .int .i64 (((flN a y 8).2 : Nat) : Int)]) (td_result2 Try.results6 rfl rfl R2.out.blk) rfl ⟨by rw [hv.out], bel.out⟩
    | succ g =>
      have hkz : (k : Int) < 8 := by omega
      have hk0 : (0 : Int) ≤ k := by omega
      have hk : k < 8 := by omega
      have hix := index_at y.cs k hk
      have HN : Hid (flN a y (k + 1) = flS (a.cs k) (y.cs k) k (flN a y k)) := Lib.hid rfl
      have hm := Lib.hid (flN_lt a y k)
      generalize flN a y k = s at *
      obtain ⟨v, m⟩ := s
      replace T1 : Hid (Bx.Fre wr (w.heap.size + 1) (tdl v)) := T1
      replace hm : Hid (m < 256) := hm
      skip
      obtain ⟨c, hc⟩ : ∃ c, c = y.cs k := ⟨_, rfl⟩
      rw [← hc] at hix HN
      clear hc
      have h28 : w.heap.size + 1 + 1 < wr.heap.size := R2.out.2.1
      replace T0 := Lib.hid (T0.out.more (cdo c))
      replace T1 := Lib.hid (T1.out.more (cdo c))
      replace R2 := Lib.hid (R2.out.more (cdo c))
      have C8 : Hid (Bx.Fre (wr.alloc (cdo c)) wr.heap.size (cdl c)) := Lib.hid (Bx.Fre.new wr (cdl c) 28)
      replace bel := Lib.hid (Bx.bel_box bel.out (cdo c))
      go_upto_region 5 with (first | ((with_reducible refine cd_fresh ?_ ?_ (wr.heap.size) c ?_ ?_ wr (cdl Cd.zero) ?_ ?_ ?_ ?_); (· rfl); (· rfl); (· rfl); (· rfl); (· rfl); (· rfl); (· first | rfl | (simp; done))))
      clear hix
      obtain ⟨k8, hk8⟩ : ∃ k, k = wr.heap.size := ⟨_, rfl⟩
      rw [← hk8] at C8 h28 ⊢
      generalize wr.alloc (cdo c) = w0 at *
      clear hk8 wr
      have h89 : k8 < w0.heap.size := C8.out.2.1
      have U0 := T0
      replace T0 := Lib.hid (T0.out.more (cdo (a.cs k)))
      replace T1 := Lib.hid (T1.out.more (cdo (a.cs k)))
      replace R2 := Lib.hid (R2.out.more (cdo (a.cs k)))
      replace C8 := Lib.hid (C8.out.more (cdo (a.cs k)))
      have C9 : Hid (Bx.Fre (w0.alloc (cdo (a.cs k))) w0.heap.size (cdl (a.cs k))) := Lib.hid (Bx.Fre.new w0 (cdl (a.cs k)) 28)
      replace bel := Lib.hid (Bx.bel_box bel.out (cdo (a.cs k)))
      go_upto_region 6 with (first | ((with_reducible refine cc_load ?_ ?_ (w.heap.size) k hk ?_ a ?_ ?_); (· rfl); (· rfl); (· rfl); (· first | exact U0.out.blk | exact (U0.out.more (.cells (cdl Cd.zero).toArray 28)).blk)) | ((with_reducible refine cd_fresh ?_ ?_ (w0.heap.size) (a.cs k) ?_ ?_ w0 (cdl Cd.zero) ?_ ?_ ?_ ?_); (· rfl); (· rfl); (· rfl); (· rfl); (· rfl); (· rfl); (· first | rfl | (simp; done))))
      clear U0
      obtain ⟨d, hd⟩ : ∃ d, d = a.cs k := ⟨_, rfl⟩
      rw [← hd] at C9 T0 T1 R2 C8 bel HN ⊢
      clear hd
      obtain ⟨k9, hk9⟩ : ∃ k, k = w0.heap.size := ⟨_, rfl⟩
      rw [← hk9] at C9 h89 ⊢
      generalize w0.alloc (cdo d) = w1 at *
      clear hk9 w0
      have HF : Hid (flS d c k (v, m) = if clsB d c = true then (v, Por.withN m k) else if opnB d c = true then (strT v ((Por.withN (prtI v k) k : Nat) : Int), m ||| prtI v k) else (v, m)) := Lib.hid rfl
      replace HN := Lib.hid (HN.out.trans HF.out)
      clear HF
      have C8_0 := C8.out.at 0 rfl
      have C8_14 := C8.out.at 14 rfl
      have C8_2 := C8.out.at 2 rfl
      have C9_0 := C9.out.at 0 rfl
      have C9_14 := C9.out.at 14 rfl
      rcases Bool.eq_false_or_eq_true d.up with p0 | p0
      · rw [p0] at C9_0
        rcases Bool.eq_false_or_eq_true c.up with p1 | p1
        · rw [p1] at C8_0
          by_cases s0 : d.st = 0
          · have q1 : (d.st != 0) = false := by simp [s0]
            go_upto_region 9 with fail
            by_cases o0 : d.st = 2
            · have r1 : (d.st != 2) = false := by simp [o0]
              replace HN := Lib.hid (HN.out.trans (if_neg (by unfold clsB; simp [p0, p1, s0])))
              replace HN := Lib.hid (HN.out.trans (if_neg (by unfold opnB; simp [o0])))
              clear p0 p1 s0 o0
              go_wp2_with (first | ((with_reducible refine td_load ?_ ?_ (w.heap.size) ?_ a ?_ ?_); (· rfl); (· rfl); (· rfl); (· exact T0.out.blk)) | ((with_reducible refine cs_load ?_ ?_ (w.heap.size) ?_ a ?_ ?_); (· rfl); (· rfl); (· rfl); (· exact T0.out.blk)) | ((with_reducible refine td_load ?_ ?_ (w.heap.size + 1) ?_ v ?_ ?_); (· rfl); (· rfl); (· rfl); (· exact T1.out.blk)) | ((with_reducible refine cs_load ?_ ?_ (w.heap.size + 1) ?_ v ?_ ?_); (· rfl); (· rfl); (· rfl); (· exact T1.out.blk)) | ((with_reducible refine td_load ?_ ?_ (w.heap.size + 1 + 1) ?_ Td.zero ?_ ?_); (· rfl); (· rfl); (· rfl); (· exact R2.out.blk)) | ((with_reducible refine cs_load ?_ ?_ (w.heap.size + 1 + 1) ?_ Td.zero ?_ ?_); (· rfl); (· rfl); (· rfl); (· exact R2.out.blk)) | ((with_reducible refine cd_load ?_ ?_ (k8) ?_ c ?_ ?_); (· rfl); (· rfl); (· rfl); (· exact C8.out.blk)) | ((with_reducible refine cd_load ?_ ?_ (k9) ?_ d ?_ ?_); (· rfl); (· rfl); (· rfl); (· exact C9.out.blk)))
              go_roundg g
              case measure => omega
              case rel => exact ⟨k + 1, by omega, by go_num, by rw [HN.out], T0.out, by rw [HN.out]; exact T1.out, R2.out, bel.out⟩
            · have r1 : (d.st != 2) = true := by simp [o0]
              by_cases o1 : c.st = 2
              · have r2 : (c.st == 2) = true := by simp [o1]
                rcases Bool.eq_false_or_eq_true c.edge with o2 | o2
                · rw [o2] at C8_2
                  replace HN := Lib.hid (HN.out.trans (if_neg (by unfold clsB; simp [p0, p1, s0])))
                  replace HN := Lib.hid (HN.out.trans (if_neg (by unfold opnB; simp [o2])))
                  clear p0 p1 s0 o0 o1 o2
                  go_wp2_with (first | ((with_reducible refine td_load ?_ ?_ (w.heap.size) ?_ a ?_ ?_); (· rfl); (· rfl); (· rfl); (· exact T0.out.blk)) | ((with_reducible refine cs_load ?_ ?_ (w.heap.size) ?_ a ?_ ?_); (· rfl); (· rfl); (· rfl); (· exact T0.out.blk)) | ((with_reducible refine td_load ?_ ?_ (w.heap.size + 1) ?_ v ?_ ?_); (· rfl); (· rfl); (· rfl); (· exact T1.out.blk)) | ((with_reducible refine cs_load ?_ ?_ (w.heap.size + 1) ?_ v ?_ ?_); (· rfl); (· rfl); (· rfl); (· exact T1.out.blk)) | ((with_reducible refine td_load ?_ ?_ (w.heap.size + 1 + 1) ?_ Td.zero ?_ ?_); (· rfl); (· rfl); (· rfl); (· exact R2.out.blk)) | ((with_reducible refine cs_load ?_ ?_ (w.heap.size + 1 + 1) ?_ Td.zero ?_ ?_); (· rfl); (· rfl); (· rfl); (· exact R2.out.blk)) | ((with_reducible refine cd_load ?_ ?_ (k8) ?_ c ?_ ?_); (· rfl); (· rfl); (· rfl); (· exact C8.out.blk)) | ((with_reducible refine cd_load ?_ ?_ (k9) ?_ d ?_ ?_); (· rfl); (· rfl); (· rfl); (· exact C9.out.blk)))
                  go_roundg g
                  case measure => omega
                  case rel => exact ⟨k + 1, by omega, by go_num, by rw [HN.out], T0.out, by rw [HN.out]; exact T1.out, R2.out, bel.out⟩
                · rw [o2] at C8_2
                  replace HN := Lib.hid (HN.out.trans (if_neg (by unfold clsB; simp [p0, p1, s0])))
                  replace HN := Lib.hid (HN.out.trans (if_pos (by unfold opnB; simp [o0, o1, o2])))
                  clear p0 p1 s0 o0 o1 o2
                  have hn := Lib.hid (prtI_lt v (k : Int))
                  have HP2 := Lib.hid (HP.out v (k : Int))
                  have HS2 := Lib.hid (fun n : Nat => HS.out v ((n : Nat) : Int))
                  generalize prtI v (k : Int) = n at *
                  have hor := Por.or_nat m n hm.out hn.out
                  have HW2 := Lib.hid (rwith_bel n (k : Int) hn.out)
                  obtain ⟨r, hr⟩ : ∃ r, r = Por.withN n (k : Int) := ⟨_, rfl⟩
                  rw [← hr] at HW2 HN
                  clear hr
                  replace HS2 := Lib.hid (HS2.out r)
                  obtain ⟨u, hu⟩ : ∃ u, u = strT v (r : Int) := ⟨_, rfl⟩
                  rw [← hu] at HS2 HN
                  clear hu
                  go_wp2_with (first | ((with_reducible refine td_load ?_ ?_ (w.heap.size + 1) ?_ v ?_ ?_); (· rfl); (· rfl); (· rfl); (· exact T1.out.blk)) | ((with_reducible refine cs_load ?_ ?_ (w.heap.size + 1) ?_ v ?_ ?_); (· rfl); (· rfl); (· rfl); (· exact T1.out.blk)))
                  refine (HP2.out _).mono ?_; rintro e w2 ⟨rfl, hb⟩
                  replace T0 := Lib.hid (T0.out.keep hb)
                  replace T1 := Lib.hid (T1.out.keep hb)
                  replace R2 := Lib.hid (R2.out.keep hb)
                  replace C8 := Lib.hid (C8.out.keep hb)
                  replace C9 := Lib.hid (C9.out.keep hb)
                  replace bel := Lib.hid (Bx.then_below bel.out hb)
                  clear hb
                  go_upto_region 11 with fail
                  skip
                  refine wp_region_noPanic ?_
                  refine Gt.region_gate (g := 5) (S := fun w' => Bx.Blk w' (w.heap.size + 1) (tdl v)) (by kernel_rfl) (by exact T1.out.blk) (fun hHeld => ?_)
                  replace bel := Lib.hid (Bx.bel_drewn bel.out)
                  replace T0 := Lib.hid (T0.out.drew)
                  replace T1 := Lib.hid (T1.out.drew)
                  replace R2 := Lib.hid (R2.out.drew)
                  replace C8 := Lib.hid (C8.out.drew)
                  replace C9 := Lib.hid (C9.out.drew)
                  generalize w2.drew = wd11 at *
                  refine Gt.gate_take (i := 0) (oi := ?oz2x0) (v := tdv v) ?hiz2x0 (by kernel_rfl) (by kernel_rfl) (by kernel_rfl) (by kernel_rfl) (fun _ _ _ h => h) ?yz2x0 hHeld ?rz2x0
                  case hiz2x0 => (simp only [List.getElem?_toArray, List.getElem?_cons_zero]; rfl)
                  case yz2x0 => (refine td_yields rfl rfl (w.heap.size + 1) rfl v ?_; intro w' hS; exact hS)
                  try simp only [Act.put, List.setIfInBounds_toArray, List.set_cons_zero, List.set_cons_succ]
                  refine Gt.gate_take (i := 1) (oi := ?oz2x1) (v := ?vz2x1) ?hiz2x1 (by kernel_rfl) (by kernel_rfl) (by kernel_rfl) (by kernel_rfl) (fun _ _ _ h => h) ?yz2x1 hHeld ?rz2x1
                  case hiz2x1 => (simp only [List.getElem?_toArray, List.getElem?_cons_succ, List.getElem?_cons_zero]; rfl)
                  case yz2x1 => (refine Or.inl ⟨by rfl, ?_⟩; intro w' hSw; (try dsimp only at hSw); go_simp; (try with_reducible rfl))
                  try simp only [Act.put, List.setIfInBounds_toArray, List.set_cons_zero, List.set_cons_succ]
                  refine Gt.gate_take (i := 2) (oi := ?oz2x2) (v := ?vz2x2) ?hiz2x2 (by kernel_rfl) (by kernel_rfl) (by kernel_rfl) (by kernel_rfl) (fun _ _ _ h => h) ?yz2x2 hHeld ?rz2x2
                  case hiz2x2 => (simp only [List.getElem?_toArray, List.getElem?_cons_succ, List.getElem?_cons_zero]; rfl)
                  case yz2x2 => (refine Or.inl ⟨by rfl, ?_⟩; intro w' hSw; (try dsimp only at hSw); go_simp; (try with_reducible rfl))
                  try simp only [Act.put, List.setIfInBounds_toArray, List.set_cons_zero, List.set_cons_succ]
                  refine Gt.gate_step (i := 3) (o := ?oz2x3) (by kernel_rfl) (by decide) ?hiz2x3 ?hstz2x3
                  case hiz2x3 => (simp only [List.getElem?_toArray, List.getElem?_cons_succ, List.getElem?_cons_zero]; rfl)
                  intro K hK
                  go_simp
                  (go_at_call 18; (with_reducible refine (HW2.out _).mono ?_); rintro e w3 ⟨rfl, hb⟩)
                  go_wp2_with fail
                  refine hK.out _ _ (by exact Bx.Blk.keep hHeld hb) (fun hNew => ?_)
                  clear hHeld
                  have hHeld := hNew
                  clear hNew hK K
                  replace bel := Lib.hid (Bx.then_below bel.out hb)
                  replace T0 := Lib.hid (T0.out.keep hb)
                  replace T1 := Lib.hid (T1.out.keep hb)
                  replace R2 := Lib.hid (R2.out.keep hb)
                  replace C8 := Lib.hid (C8.out.keep hb)
                  replace C9 := Lib.hid (C9.out.keep hb)
                  clear hb
                  refine Gt.gate_step (i := 4) (o := ?oz2x4) (by kernel_rfl) (by decide) ?hiz2x4 ?hstz2x4
                  case hiz2x4 => (simp only [List.getElem?_toArray, List.getElem?_cons_succ, List.getElem?_cons_zero]; rfl)
                  intro K hK
                  go_simp
                  (go_at_call 12; (with_reducible refine (HS2.out _).mono ?_); rintro e w4 ⟨rfl, hb⟩)
                  go_wp2_with fail
                  refine hK.out _ _ (by exact Bx.Blk.keep hHeld hb) (fun hNew => ?_)
                  clear hHeld
                  have hHeld := hNew
                  clear hNew hK K
                  replace bel := Lib.hid (Bx.then_below bel.out hb)
                  replace T0 := Lib.hid (T0.out.keep hb)
                  replace T1 := Lib.hid (T1.out.keep hb)
                  replace R2 := Lib.hid (R2.out.keep hb)
                  replace C8 := Lib.hid (C8.out.keep hb)
                  replace C9 := Lib.hid (C9.out.keep hb)
                  clear hb
                  refine Gt.gate_gate (o := ?oz2x5) (by kernel_rfl) ?hiz2x5 ?hstz2x5
                  case hiz2x5 => (simp only [List.getElem?_toArray, List.getElem?_cons_succ, List.getElem?_cons_zero]; rfl)
                  intro K hK
                  rw [if_pos (by rfl)]
                  refine tdw_wp rfl (w.heap.size + 1) rfl u rfl (tdl v) (tdl_len _) T1.out ?_
                  refine hK.out _ _ ?_
                  clear hK K hHeld
                  replace T0 := Lib.hid (T0.out.apart_at (k' := w.heap.size + 1) (tdl u) 0 (by omega))
                  replace R2 := Lib.hid (R2.out.apart_at (k' := w.heap.size + 1) (tdl u) 0 (by omega))
                  replace C8 := Lib.hid (C8.out.apart_at (k' := w.heap.size + 1) (tdl u) 0 (by omega))
                  replace C9 := Lib.hid (C9.out.apart_at (k' := w.heap.size + 1) (tdl u) 0 (by omega))
                  replace bel := Lib.hid (Bx.bel_put_at (k := w.heap.size + 1) (tdl u) 0 (by omega) bel.out)
                  replace T1 := Lib.hid (T1.out.full (m := (tdl u)) (by rw [tdl_len, tdl_len]))
                  refine wpAnyH_done (by kernel_rfl) ?_ _
                  refine NoPanic.normal ?_
                  go_wp2_with fail
                  go_roundg g
                  case measure => omega
                  case rel => exact ⟨k + 1, by omega, by go_num, by rw [HN.out], T0.out, by rw [HN.out]; exact T1.out, R2.out, bel.out⟩
              · have r2 : (c.st == 2) = false := by simp [o1]
                replace HN := Lib.hid (HN.out.trans (if_neg (by unfold clsB; simp [p0, p1, s0])))
                replace HN := Lib.hid (HN.out.trans (if_neg (by unfold opnB; simp [o1])))
                clear p0 p1 s0 o0 o1
                go_wp2_with (first | ((with_reducible refine td_load ?_ ?_ (w.heap.size) ?_ a ?_ ?_); (· rfl); (· rfl); (· rfl); (· exact T0.out.blk)) | ((with_reducible refine cs_load ?_ ?_ (w.heap.size) ?_ a ?_ ?_); (· rfl); (· rfl); (· rfl); (· exact T0.out.blk)) | ((with_reducible refine td_load ?_ ?_ (w.heap.size + 1) ?_ v ?_ ?_); (· rfl); (· rfl); (· rfl); (· exact T1.out.blk)) | ((with_reducible refine cs_load ?_ ?_ (w.heap.size + 1) ?_ v ?_ ?_); (· rfl); (· rfl); (· rfl); (· exact T1.out.blk)) | ((with_reducible refine td_load ?_ ?_ (w.heap.size + 1 + 1) ?_ Td.zero ?_ ?_); (· rfl); (· rfl); (· rfl); (· exact R2.out.blk)) | ((with_reducible refine cs_load ?_ ?_ (w.heap.size + 1 + 1) ?_ Td.zero ?_ ?_); (· rfl); (· rfl); (· rfl); (· exact R2.out.blk)) | ((with_reducible refine cd_load ?_ ?_ (k8) ?_ c ?_ ?_); (· rfl); (· rfl); (· rfl); (· exact C8.out.blk)) | ((with_reducible refine cd_load ?_ ?_ (k9) ?_ d ?_ ?_); (· rfl); (· rfl); (· rfl); (· exact C9.out.blk)))
                go_roundg g
                case measure => omega
                case rel => exact ⟨k + 1, by omega, by go_num, by rw [HN.out], T0.out, by rw [HN.out]; exact T1.out, R2.out, bel.out⟩
          · have q1 : (d.st != 0) = true := by simp [s0]
            by_cases s1 : c.st = 0
            · have q2 : (c.st == 0) = true := by simp [s1]
              replace HN := Lib.hid (HN.out.trans (if_pos (by unfold clsB; simp [p0, p1, s0, s1])))
              clear p0 p1 s0 s1
              go_wp2_with (first | ((with_reducible refine td_load ?_ ?_ (w.heap.size) ?_ a ?_ ?_); (· rfl); (· rfl); (· rfl); (· exact T0.out.blk)) | ((with_reducible refine cs_load ?_ ?_ (w.heap.size) ?_ a ?_ ?_); (· rfl); (· rfl); (· rfl); (· exact T0.out.blk)) | ((with_reducible refine td_load ?_ ?_ (w.heap.size + 1) ?_ v ?_ ?_); (· rfl); (· rfl); (· rfl); (· exact T1.out.blk)) | ((with_reducible refine cs_load ?_ ?_ (w.heap.size + 1) ?_ v ?_ ?_); (· rfl); (· rfl); (· rfl); (· exact T1.out.blk)) | ((with_reducible refine td_load ?_ ?_ (w.heap.size + 1 + 1) ?_ Td.zero ?_ ?_); (· rfl); (· rfl); (· rfl); (· exact R2.out.blk)) | ((with_reducible refine cs_load ?_ ?_ (w.heap.size + 1 + 1) ?_ Td.zero ?_ ?_); (· rfl); (· rfl); (· rfl); (· exact R2.out.blk)) | ((with_reducible refine cd_load ?_ ?_ (k8) ?_ c ?_ ?_); (· rfl); (· rfl); (· rfl); (· exact C8.out.blk)) | ((with_reducible refine cd_load ?_ ?_ (k9) ?_ d ?_ ?_); (· rfl); (· rfl); (· rfl); (· exact C9.out.blk)))
              refine (HW.out _ _ hm.out _).mono ?_; rintro e w2 ⟨rfl, rfl⟩
              go_wp2_with fail
              go_roundg g
              case measure => omega
              case rel => exact ⟨k + 1, by omega, by go_num, by rw [HN.out], T0.out, by rw [HN.out]; exact T1.out, R2.out, bel.out⟩
            · have q2 : (c.st == 0) = false := by simp [s1]
              go_upto_region 9 with fail
              by_cases o0 : d.st = 2
              · have r1 : (d.st != 2) = false := by simp [o0]
                replace HN := Lib.hid (HN.out.trans (if_neg (by unfold clsB; simp [p0, p1, s0, s1])))
                replace HN := Lib.hid (HN.out.trans (if_neg (by unfold opnB; simp [o0])))
                clear p0 p1 s0 s1 o0
                go_wp2_with (first | ((with_reducible refine td_load ?_ ?_ (w.heap.size) ?_ a ?_ ?_); (· rfl); (· rfl); (· rfl); (· exact T0.out.blk)) | ((with_reducible refine cs_load ?_ ?_ (w.heap.size) ?_ a ?_ ?_); (· rfl); (· rfl); (· rfl); (· exact T0.out.blk)) | ((with_reducible refine td_load ?_ ?_ (w.heap.size + 1) ?_ v ?_ ?_); (· rfl); (· rfl); (· rfl); (· exact T1.out.blk)) | ((with_reducible refine cs_load ?_ ?_ (w.heap.size + 1) ?_ v ?_ ?_); (· rfl); (· rfl); (· rfl); (· exact T1.out.blk)) | ((with_reducible refine td_load ?_ ?_ (w.heap.size + 1 + 1) ?_ Td.zero ?_ ?_); (· rfl); (· rfl); (· rfl); (· exact R2.out.blk)) | ((with_reducible refine cs_load ?_ ?_ (w.heap.size + 1 + 1) ?_ Td.zero ?_ ?_); (· rfl); (· rfl); (· rfl); (· exact R2.out.blk)) | ((with_reducible refine cd_load ?_ ?_ (k8) ?_ c ?_ ?_); (· rfl); (· rfl); (· rfl); (· exact C8.out.blk)) | ((with_reducible refine cd_load ?_ ?_ (k9) ?_ d ?_ ?_); (· rfl); (· rfl); (· rfl); (· exact C9.out.blk)))
                go_roundg g
                case measure => omega
                case rel => exact ⟨k + 1, by omega, by go_num, by rw [HN.out], T0.out, by rw [HN.out]; exact T1.out, R2.out, bel.out⟩
              · have r1 : (d.st != 2) = true := by simp [o0]
                by_cases o1 : c.st = 2
                · have r2 : (c.st == 2) = true := by simp [o1]
                  rcases Bool.eq_false_or_eq_true c.edge with o2 | o2
                  · rw [o2] at C8_2
                    replace HN := Lib.hid (HN.out.trans (if_neg (by unfold clsB; simp [p0, p1, s0, s1])))
                    replace HN := Lib.hid (HN.out.trans (if_neg (by unfold opnB; simp [o2])))
                    clear p0 p1 s0 s1 o0 o1 o2
                    go_wp2_with (first | ((with_reducible refine td_load ?_ ?_ (w.heap.size) ?_ a ?_ ?_); (· rfl); (· rfl); (· rfl); (· exact T0.out.blk)) | ((with_reducible refine cs_load ?_ ?_ (w.heap.size) ?_ a ?_ ?_); (· rfl); (· rfl); (· rfl); (· exact T0.out.blk)) | ((with_reducible refine td_load ?_ ?_ (w.heap.size + 1) ?_ v ?_ ?_); (· rfl); (· rfl); (· rfl); (· exact T1.out.blk)) | ((with_reducible refine cs_load ?_ ?_ (w.heap.size + 1) ?_ v ?_ ?_); (· rfl); (· rfl); (· rfl); (· exact T1.out.blk)) | ((with_reducible refine td_load ?_ ?_ (w.heap.size + 1 + 1) ?_ Td.zero ?_ ?_); (· rfl); (· rfl); (· rfl); (· exact R2.out.blk)) | ((with_reducible refine cs_load ?_ ?_ (w.heap.size + 1 + 1) ?_ Td.zero ?_ ?_); (· rfl); (· rfl); (· rfl); (· exact R2.out.blk)) | ((with_reducible refine cd_load ?_ ?_ (k8) ?_ c ?_ ?_); (· rfl); (· rfl); (· rfl); (· exact C8.out.blk)) | ((with_reducible refine cd_load ?_ ?_ (k9) ?_ d ?_ ?_); (· rfl); (· rfl); (· rfl); (· exact C9.out.blk)))
                    go_roundg g
                    case measure => omega
                    case rel => exact ⟨k + 1, by omega, by go_num, by rw [HN.out], T0.out, by rw [HN.out]; exact T1.out, R2.out, bel.out⟩
                  · rw [o2] at C8_2
                    replace HN := Lib.hid (HN.out.trans (if_neg (by unfold clsB; simp [p0, p1, s0, s1])))
                    replace HN := Lib.hid (HN.out.trans (if_pos (by unfold opnB; simp [o0, o1, o2])))
                    clear p0 p1 s0 s1 o0 o1 o2
                    have hn := Lib.hid (prtI_lt v (k : Int))
                    have HP2 := Lib.hid (HP.out v (k : Int))
                    have HS2 := Lib.hid (fun n : Nat => HS.out v ((n : Nat) : Int))
                    generalize prtI v (k : Int) = n at *
                    have hor := Por.or_nat m n hm.out hn.out
                    have HW2 := Lib.hid (rwith_bel n (k : Int) hn.out)
                    obtain ⟨r, hr⟩ : ∃ r, r = Por.withN n (k : Int) := ⟨_, rfl⟩
                    rw [← hr] at HW2 HN
                    clear hr
                    replace HS2 := Lib.hid (HS2.out r)
                    obtain ⟨u, hu⟩ : ∃ u, u = strT v (r : Int) := ⟨_, rfl⟩
                    rw [← hu] at HS2 HN
                    clear hu
                    go_wp2_with (first | ((with_reducible refine td_load ?_ ?_ (w.heap.size + 1) ?_ v ?_ ?_); (· rfl); (· rfl); (· rfl); (· exact T1.out.blk)) | ((with_reducible refine cs_load ?_ ?_ (w.heap.size + 1) ?_ v ?_ ?_); (· rfl); (· rfl); (· rfl); (· exact T1.out.blk)))
                    refine (HP2.out _).mono ?_; rintro e w2 ⟨rfl, hb⟩
                    replace T0 := Lib.hid (T0.out.keep hb)
                    replace T1 := Lib.hid (T1.out.keep hb)
                    replace R2 := Lib.hid (R2.out.keep hb)
                    replace C8 := Lib.hid (C8.out.keep hb)
                    replace C9 := Lib.hid (C9.out.keep hb)
                    replace bel := Lib.hid (Bx.then_below bel.out hb)
                    clear hb
                    go_upto_region 11 with fail
                    skip
                    refine wp_region_noPanic ?_
                    refine Gt.region_gate (g := 5) (S := fun w' => Bx.Blk w' (w.heap.size + 1) (tdl v)) (by kernel_rfl) (by exact T1.out.blk) (fun hHeld => ?_)
                    replace bel := Lib.hid (Bx.bel_drewn bel.out)
                    replace T0 := Lib.hid (T0.out.drew)
                    replace T1 := Lib.hid (T1.out.drew)
                    replace R2 := Lib.hid (R2.out.drew)
                    replace C8 := Lib.hid (C8.out.drew)
                    replace C9 := Lib.hid (C9.out.drew)
                    generalize w2.drew = wd11 at *
                    refine Gt.gate_take (i := 0) (oi := ?oz3x0) (v := tdv v) ?hiz3x0 (by kernel_rfl) (by kernel_rfl) (by kernel_rfl) (by kernel_rfl) (fun _ _ _ h => h) ?yz3x0 hHeld ?rz3x0
                    case hiz3x0 => (simp only [List.getElem?_toArray, List.getElem?_cons_zero]; rfl)
                    case yz3x0 => (refine td_yields rfl rfl (w.heap.size + 1) rfl v ?_; intro w' hS; exact hS)
                    try simp only [Act.put, List.setIfInBounds_toArray, List.set_cons_zero, List.set_cons_succ]
                    refine Gt.gate_take (i := 1) (oi := ?oz3x1) (v := ?vz3x1) ?hiz3x1 (by kernel_rfl) (by kernel_rfl) (by kernel_rfl) (by kernel_rfl) (fun _ _ _ h => h) ?yz3x1 hHeld ?rz3x1
                    case hiz3x1 => (simp only [List.getElem?_toArray, List.getElem?_cons_succ, List.getElem?_cons_zero]; rfl)
                    case yz3x1 => (refine Or.inl ⟨by rfl, ?_⟩; intro w' hSw; (try dsimp only at hSw); go_simp; (try with_reducible rfl))
                    try simp only [Act.put, List.setIfInBounds_toArray, List.set_cons_zero, List.set_cons_succ]
                    refine Gt.gate_take (i := 2) (oi := ?oz3x2) (v := ?vz3x2) ?hiz3x2 (by kernel_rfl) (by kernel_rfl) (by kernel_rfl) (by kernel_rfl) (fun _ _ _ h => h) ?yz3x2 hHeld ?rz3x2
                    case hiz3x2 => (simp only [List.getElem?_toArray, List.getElem?_cons_succ, List.getElem?_cons_zero]; rfl)
                    case yz3x2 => (refine Or.inl ⟨by rfl, ?_⟩; intro w' hSw; (try dsimp only at hSw); go_simp; (try with_reducible rfl))
                    try simp only [Act.put, List.setIfInBounds_toArray, List.set_cons_zero, List.set_cons_succ]
                    refine Gt.gate_step (i := 3) (o := ?oz3x3) (by kernel_rfl) (by decide) ?hiz3x3 ?hstz3x3
                    case hiz3x3 => (simp only [List.getElem?_toArray, List.getElem?_cons_succ, List.getElem?_cons_zero]; rfl)
                    intro K hK
                    go_simp
                    (go_at_call 18; (with_reducible refine (HW2.out _).mono ?_); rintro e w3 ⟨rfl, hb⟩)
                    go_wp2_with fail
                    refine hK.out _ _ (by exact Bx.Blk.keep hHeld hb) (fun hNew => ?_)
                    clear hHeld
                    have hHeld := hNew
                    clear hNew hK K
                    replace bel := Lib.hid (Bx.then_below bel.out hb)
                    replace T0 := Lib.hid (T0.out.keep hb)
                    replace T1 := Lib.hid (T1.out.keep hb)
                    replace R2 := Lib.hid (R2.out.keep hb)
                    replace C8 := Lib.hid (C8.out.keep hb)
                    replace C9 := Lib.hid (C9.out.keep hb)
                    clear hb
                    refine Gt.gate_step (i := 4) (o := ?oz3x4) (by kernel_rfl) (by decide) ?hiz3x4 ?hstz3x4
                    case hiz3x4 => (simp only [List.getElem?_toArray, List.getElem?_cons_succ, List.getElem?_cons_zero]; rfl)
                    intro K hK
                    go_simp
                    (go_at_call 12; (with_reducible refine (HS2.out _).mono ?_); rintro e w4 ⟨rfl, hb⟩)
                    go_wp2_with fail
                    refine hK.out _ _ (by exact Bx.Blk.keep hHeld hb) (fun hNew => ?_)
                    clear hHeld
                    have hHeld := hNew
                    clear hNew hK K
                    replace bel := Lib.hid (Bx.then_below bel.out hb)
                    replace T0 := Lib.hid (T0.out.keep hb)
                    replace T1 := Lib.hid (T1.out.keep hb)
                    replace R2 := Lib.hid (R2.out.keep hb)
                    replace C8 := Lib.hid (C8.out.keep hb)
                    replace C9 := Lib.hid (C9.out.keep hb)
                    clear hb
                    refine Gt.gate_gate (o := ?oz3x5) (by kernel_rfl) ?hiz3x5 ?hstz3x5
                    case hiz3x5 => (simp only [List.getElem?_toArray, List.getElem?_cons_succ, List.getElem?_cons_zero]; rfl)
                    intro K hK
                    rw [if_pos (by rfl)]
                    refine tdw_wp rfl (w.heap.size + 1) rfl u rfl (tdl v) (tdl_len _) T1.out ?_
                    refine hK.out _ _ ?_
                    clear hK K hHeld
                    replace T0 := Lib.hid (T0.out.apart_at (k' := w.heap.size + 1) (tdl u) 0 (by omega))
                    replace R2 := Lib.hid (R2.out.apart_at (k' := w.heap.size + 1) (tdl u) 0 (by omega))
                    replace C8 := Lib.hid (C8.out.apart_at (k' := w.heap.size + 1) (tdl u) 0 (by omega))
                    replace C9 := Lib.hid (C9.out.apart_at (k' := w.heap.size + 1) (tdl u) 0 (by omega))
                    replace bel := Lib.hid (Bx.bel_put_at (k := w.heap.size + 1) (tdl u) 0 (by omega) bel.out)
                    replace T1 := Lib.hid (T1.out.full (m := (tdl u)) (by rw [tdl_len, tdl_len]))
                    refine wpAnyH_done (by kernel_rfl) ?_ _
                    refine NoPanic.normal ?_
                    go_wp2_with fail
                    go_roundg g
                    case measure => omega
                    case rel => exact ⟨k + 1, by omega, by go_num, by rw [HN.out], T0.out, by rw [HN.out]; exact T1.out, R2.out, bel.out⟩
                · have r2 : (c.st == 2) = false := by simp [o1]
                  replace HN := Lib.hid (HN.out.trans (if_neg (by unfold clsB; simp [p0, p1, s0, s1])))
                  replace HN := Lib.hid (HN.out.trans (if_neg (by unfold opnB; simp [o1])))
                  clear p0 p1 s0 s1 o0 o1
                  go_wp2_with (first | ((with_reducible refine td_load ?_ ?_ (w.heap.size) ?_ a ?_ ?_); (· rfl); (· rfl); (· rfl); (· exact T0.out.blk)) | ((with_reducible refine cs_load ?_ ?_ (w.heap.size) ?_ a ?_ ?_); (· rfl); (· rfl); (· rfl); (· exact T0.out.blk)) | ((with_reducible refine td_load ?_ ?_ (w.heap.size + 1) ?_ v ?_ ?_); (· rfl); (· rfl); (· rfl); (· exact T1.out.blk)) | ((with_reducible refine cs_load ?_ ?_ (w.heap.size + 1) ?_ v ?_ ?_); (· rfl); (· rfl); (· rfl); (· exact T1.out.blk)) | ((with_reducible refine td_load ?_ ?_ (w.heap.size + 1 + 1) ?_ Td.zero ?_ ?_); (· rfl); (· rfl); (· rfl); (· exact R2.out.blk)) | ((with_reducible refine cs_load ?_ ?_ (w.heap.size + 1 + 1) ?_ Td.zero ?_ ?_); (· rfl); (· rfl); (· rfl); (· exact R2.out.blk)) | ((with_reducible refine cd_load ?_ ?_ (k8) ?_ c ?_ ?_); (· rfl); (· rfl); (· rfl); (· exact C8.out.blk)) | ((with_reducible refine cd_load ?_ ?_ (k9) ?_ d ?_ ?_); (· rfl); (· rfl); (· rfl); (· exact C9.out.blk)))
                  go_roundg g
                  case measure => omega
                  case rel => exact ⟨k + 1, by omega, by go_num, by rw [HN.out], T0.out, by rw [HN.out]; exact T1.out, R2.out, bel.out⟩
        · rw [p1] at C8_0
          replace HN := Lib.hid (HN.out.trans (if_pos (by unfold clsB; simp [p0, p1])))
          clear p0 p1
          go_wp2_with (first | ((with_reducible refine td_load ?_ ?_ (w.heap.size) ?_ a ?_ ?_); (· rfl); (· rfl); (· rfl); (· exact T0.out.blk)) | ((with_reducible refine cs_load ?_ ?_ (w.heap.size) ?_ a ?_ ?_); (· rfl); (· rfl); (· rfl); (· exact T0.out.blk)) | ((with_reducible refine td_load ?_ ?_ (w.heap.size + 1) ?_ v ?_ ?_); (· rfl); (· rfl); (· rfl); (· exact T1.out.blk)) | ((with_reducible refine cs_load ?_ ?_ (w.heap.size + 1) ?_ v ?_ ?_); (· rfl); (· rfl); (· rfl); (· exact T1.out.blk)) | ((with_reducible refine td_load ?_ ?_ (w.heap.size + 1 + 1) ?_ Td.zero ?_ ?_); (· rfl); (· rfl); (· rfl); (· exact R2.out.blk)) | ((with_reducible refine cs_load ?_ ?_ (w.heap.size + 1 + 1) ?_ Td.zero ?_ ?_); (· rfl); (· rfl); (· rfl); (· exact R2.out.blk)) | ((with_reducible refine cd_load ?_ ?_ (k8) ?_ c ?_ ?_); (· rfl); (· rfl); (· rfl); (· exact C8.out.blk)) | ((with_reducible refine cd_load ?_ ?_ (k9) ?_ d ?_ ?_); (· rfl); (· rfl); (· rfl); (· exact C9.out.blk)))
          refine (HW.out _ _ hm.out _).mono ?_; rintro e w2 ⟨rfl, rfl⟩
          go_wp2_with fail
          go_roundg g
          case measure => omega
          case rel => exact ⟨k + 1, by omega, by go_num, by rw [HN.out], T0.out, by rw [HN.out]; exact T1.out, R2.out, bel.out⟩
      · rw [p0] at C9_0
        by_cases s0 : d.st = 0
        · have q1 : (d.st != 0) = false := by simp [s0]
          go_upto_region 9 with fail
          by_cases o0 : d.st = 2
          · have r1 : (d.st != 2) = false := by simp [o0]
            replace HN := Lib.hid (HN.out.trans (if_neg (by unfold clsB; simp [p0, s0])))
            replace HN := Lib.hid (HN.out.trans (if_neg (by unfold opnB; simp [o0])))
            clear p0 s0 o0
            go_wp2_with (first | ((with_reducible refine td_load ?_ ?_ (w.heap.size) ?_ a ?_ ?_); (· rfl); (· rfl); (· rfl); (· exact T0.out.blk)) | ((with_reducible refine cs_load ?_ ?_ (w.heap.size) ?_ a ?_ ?_); (· rfl); (· rfl); (· rfl); (· exact T0.out.blk)) | ((with_reducible refine td_load ?_ ?_ (w.heap.size + 1) ?_ v ?_ ?_); (· rfl); (· rfl); (· rfl); (· exact T1.out.blk)) | ((with_reducible refine cs_load ?_ ?_ (w.heap.size + 1) ?_ v ?_ ?_); (· rfl); (· rfl); (· rfl); (· exact T1.out.blk)) | ((with_reducible refine td_load ?_ ?_ (w.heap.size + 1 + 1) ?_ Td.zero ?_ ?_); (· rfl); (· rfl); (· rfl); (· exact R2.out.blk)) | ((with_reducible refine cs_load ?_ ?_ (w.heap.size + 1 + 1) ?_ Td.zero ?_ ?_); (· rfl); (· rfl); (· rfl); (· exact R2.out.blk)) | ((with_reducible refine cd_load ?_ ?_ (k8) ?_ c ?_ ?_); (· rfl); (· rfl); (· rfl); (· exact C8.out.blk)) | ((with_reducible refine cd_load ?_ ?_ (k9) ?_ d ?_ ?_); (· rfl); (· rfl); (· rfl); (· exact C9.out.blk)))
            go_roundg g
            case measure => omega
            case rel => exact ⟨k + 1, by omega, by go_num, by rw [HN.out], T0.out, by rw [HN.out]; exact T1.out, R2.out, bel.out⟩
          · have r1 : (d.st != 2) = true := by simp [o0]
            by_cases o1 : c.st = 2
            · have r2 : (c.st == 2) = true := by simp [o1]
              rcases Bool.eq_false_or_eq_true c.edge with o2 | o2
              · rw [o2] at C8_2
                replace HN := Lib.hid (HN.out.trans (if_neg (by unfold clsB; simp [p0, s0])))
                replace HN := Lib.hid (HN.out.trans (if_neg (by unfold opnB; simp [o2])))
                clear p0 s0 o0 o1 o2
                go_wp2_with (first | ((with_reducible refine td_load ?_ ?_ (w.heap.size) ?_ a ?_ ?_); (· rfl); (· rfl); (· rfl); (· exact T0.out.blk)) | ((with_reducible refine cs_load ?_ ?_ (w.heap.size) ?_ a ?_ ?_); (· rfl); (· rfl); (· rfl); (· exact T0.out.blk)) | ((with_reducible refine td_load ?_ ?_ (w.heap.size + 1) ?_ v ?_ ?_); (· rfl); (· rfl); (· rfl); (· exact T1.out.blk)) | ((with_reducible refine cs_load ?_ ?_ (w.heap.size + 1) ?_ v ?_ ?_); (· rfl); (· rfl); (· rfl); (· exact T1.out.blk)) | ((with_reducible refine td_load ?_ ?_ (w.heap.size + 1 + 1) ?_ Td.zero ?_ ?_); (· rfl); (· rfl); (· rfl); (· exact R2.out.blk)) | ((with_reducible refine cs_load ?_ ?_ (w.heap.size + 1 + 1) ?_ Td.zero ?_ ?_); (· rfl); (· rfl); (· rfl); (· exact R2.out.blk)) | ((with_reducible refine cd_load ?_ ?_ (k8) ?_ c ?_ ?_); (· rfl); (· rfl); (· rfl); (· exact C8.out.blk)) | ((with_reducible refine cd_load ?_ ?_ (k9) ?_ d ?_ ?_); (· rfl); (· rfl); (· rfl); (· exact C9.out.blk)))
                go_roundg g
                case measure => omega
                case rel => exact ⟨k + 1, by omega, by go_num, by rw [HN.out], T0.out, by rw [HN.out]; exact T1.out, R2.out, bel.out⟩
              · rw [o2] at C8_2
                replace HN := Lib.hid (HN.out.trans (if_neg (by unfold clsB; simp [p0, s0])))
                replace HN := Lib.hid (HN.out.trans (if_pos (by unfold opnB; simp [o0, o1, o2])))
                clear p0 s0 o0 o1 o2
                have hn := Lib.hid (prtI_lt v (k : Int))
                have HP2 := Lib.hid (HP.out v (k : Int))
                have HS2 := Lib.hid (fun n : Nat => HS.out v ((n : Nat) : Int))
                generalize prtI v (k : Int) = n at *
                have hor := Por.or_nat m n hm.out hn.out
                have HW2 := Lib.hid (rwith_bel n (k : Int) hn.out)
                obtain ⟨r, hr⟩ : ∃ r, r = Por.withN n (k : Int) := ⟨_, rfl⟩
                rw [← hr] at HW2 HN
                clear hr
                replace HS2 := Lib.hid (HS2.out r)
                obtain ⟨u, hu⟩ : ∃ u, u = strT v (r : Int) := ⟨_, rfl⟩
                rw [← hu] at HS2 HN
                clear hu
                go_wp2_with (first | ((with_reducible refine td_load ?_ ?_ (w.heap.size + 1) ?_ v ?_ ?_); (· rfl); (· rfl); (· rfl); (· exact T1.out.blk)) | ((with_reducible refine cs_load ?_ ?_ (w.heap.size + 1) ?_ v ?_ ?_); (· rfl); (· rfl); (· rfl); (· exact T1.out.blk)))
                refine (HP2.out _).mono ?_; rintro e w2 ⟨rfl, hb⟩
                replace T0 := Lib.hid (T0.out.keep hb)
                replace T1 := Lib.hid (T1.out.keep hb)
                replace R2 := Lib.hid (R2.out.keep hb)
                replace C8 := Lib.hid (C8.out.keep hb)
                replace C9 := Lib.hid (C9.out.keep hb)
                replace bel := Lib.hid (Bx.then_below bel.out hb)
                clear hb
                go_upto_region 11 with fail
                skip
                refine wp_region_noPanic ?_
                refine Gt.region_gate (g := 5) (S := fun w' => Bx.Blk w' (w.heap.size + 1) (tdl v)) (by kernel_rfl) (by exact T1.out.blk) (fun hHeld => ?_)
                replace bel := Lib.hid (Bx.bel_drewn bel.out)
                replace T0 := Lib.hid (T0.out.drew)
                replace T1 := Lib.hid (T1.out.drew)
                replace R2 := Lib.hid (R2.out.drew)
                replace C8 := Lib.hid (C8.out.drew)
                replace C9 := Lib.hid (C9.out.drew)
                generalize w2.drew = wd11 at *
                refine Gt.gate_take (i := 0) (oi := ?oz4x0) (v := tdv v) ?hiz4x0 (by kernel_rfl) (by kernel_rfl) (by kernel_rfl) (by kernel_rfl) (fun _ _ _ h => h) ?yz4x0 hHeld ?rz4x0
                case hiz4x0 => (simp only [List.getElem?_toArray, List.getElem?_cons_zero]; rfl)
                case yz4x0 => (refine td_yields rfl rfl (w.heap.size + 1) rfl v ?_; intro w' hS; exact hS)
                try simp only [Act.put, List.setIfInBounds_toArray, List.set_cons_zero, List.set_cons_succ]
                refine Gt.gate_take (i := 1) (oi := ?oz4x1) (v := ?vz4x1) ?hiz4x1 (by kernel_rfl) (by kernel_rfl) (by kernel_rfl) (by kernel_rfl) (fun _ _ _ h => h) ?yz4x1 hHeld ?rz4x1
                case hiz4x1 => (simp only [List.getElem?_toArray, List.getElem?_cons_succ, List.getElem?_cons_zero]; rfl)
                case yz4x1 => (refine Or.inl ⟨by rfl, ?_⟩; intro w' hSw; (try dsimp only at hSw); go_simp; (try with_reducible rfl))
                try simp only [Act.put, List.setIfInBounds_toArray, List.set_cons_zero, List.set_cons_succ]
                refine Gt.gate_take (i := 2) (oi := ?oz4x2) (v := ?vz4x2) ?hiz4x2 (by kernel_rfl) (by kernel_rfl) (by kernel_rfl) (by kernel_rfl) (fun _ _ _ h => h) ?yz4x2 hHeld ?rz4x2
                case hiz4x2 => (simp only [List.getElem?_toArray, List.getElem?_cons_succ, List.getElem?_cons_zero]; rfl)
                case yz4x2 => (refine Or.inl ⟨by rfl, ?_⟩; intro w' hSw; (try dsimp only at hSw); go_simp; (try with_reducible rfl))
                try simp only [Act.put, List.setIfInBounds_toArray, List.set_cons_zero, List.set_cons_succ]
                refine Gt.gate_step (i := 3) (o := ?oz4x3) (by kernel_rfl) (by decide) ?hiz4x3 ?hstz4x3
                case hiz4x3 => (simp only [List.getElem?_toArray, List.getElem?_cons_succ, List.getElem?_cons_zero]; rfl)
                intro K hK
                go_simp
                (go_at_call 18; (with_reducible refine (HW2.out _).mono ?_); rintro e w3 ⟨rfl, hb⟩)
                go_wp2_with fail
                refine hK.out _ _ (by exact Bx.Blk.keep hHeld hb) (fun hNew => ?_)
                clear hHeld
                have hHeld := hNew
                clear hNew hK K
                replace bel := Lib.hid (Bx.then_below bel.out hb)
                replace T0 := Lib.hid (T0.out.keep hb)
                replace T1 := Lib.hid (T1.out.keep hb)
                replace R2 := Lib.hid (R2.out.keep hb)
                replace C8 := Lib.hid (C8.out.keep hb)
                replace C9 := Lib.hid (C9.out.keep hb)
                clear hb
                refine Gt.gate_step (i := 4) (o := ?oz4x4) (by kernel_rfl) (by decide) ?hiz4x4 ?hstz4x4
                case hiz4x4 => (simp only [List.getElem?_toArray, List.getElem?_cons_succ, List.getElem?_cons_zero]; rfl)
                intro K hK
                go_simp
                (go_at_call 12; (with_reducible refine (HS2.out _).mono ?_); rintro e w4 ⟨rfl, hb⟩)
                go_wp2_with fail
                refine hK.out _ _ (by exact Bx.Blk.keep hHeld hb) (fun hNew => ?_)
                clear hHeld
                have hHeld := hNew
                clear hNew hK K
                replace bel := Lib.hid (Bx.then_below bel.out hb)
                replace T0 := Lib.hid (T0.out.keep hb)
                replace T1 := Lib.hid (T1.out.keep hb)
                replace R2 := Lib.hid (R2.out.keep hb)
                replace C8 := Lib.hid (C8.out.keep hb)
                replace C9 := Lib.hid (C9.out.keep hb)
                clear hb
                refine Gt.gate_gate (o := ?oz4x5) (by kernel_rfl) ?hiz4x5 ?hstz4x5
                case hiz4x5 => (simp only [List.getElem?_toArray, List.getElem?_cons_succ, List.getElem?_cons_zero]; rfl)
                intro K hK
                rw [if_pos (by rfl)]
                refine tdw_wp rfl (w.heap.size + 1) rfl u rfl (tdl v) (tdl_len _) T1.out ?_
                refine hK.out _ _ ?_
                clear hK K hHeld
                replace T0 := Lib.hid (T0.out.apart_at (k' := w.heap.size + 1) (tdl u) 0 (by omega))
                replace R2 := Lib.hid (R2.out.apart_at (k' := w.heap.size + 1) (tdl u) 0 (by omega))
                replace C8 := Lib.hid (C8.out.apart_at (k' := w.heap.size + 1) (tdl u) 0 (by omega))
                replace C9 := Lib.hid (C9.out.apart_at (k' := w.heap.size + 1) (tdl u) 0 (by omega))
                replace bel := Lib.hid (Bx.bel_put_at (k := w.heap.size + 1) (tdl u) 0 (by omega) bel.out)
                replace T1 := Lib.hid (T1.out.full (m := (tdl u)) (by rw [tdl_len, tdl_len]))
                refine wpAnyH_done (by kernel_rfl) ?_ _
                refine NoPanic.normal ?_
                go_wp2_with fail
                go_roundg g
                case measure => omega
                case rel => exact ⟨k + 1, by omega, by go_num, by rw [HN.out], T0.out, by rw [HN.out]; exact T1.out, R2.out, bel.out⟩
            · have r2 : (c.st == 2) = false := by simp [o1]
              replace HN := Lib.hid (HN.out.trans (if_neg (by unfold clsB; simp [p0, s0])))
              replace HN := Lib.hid (HN.out.trans (if_neg (by unfold opnB; simp [o1])))
              clear p0 s0 o0 o1
              go_wp2_with (first | ((with_reducible refine td_load ?_ ?_ (w.heap.size) ?_ a ?_ ?_); (· rfl); (· rfl); (· rfl); (· exact T0.out.blk)) | ((with_reducible refine cs_load ?_ ?_ (w.heap.size) ?_ a ?_ ?_); (· rfl); (· rfl); (· rfl); (· exact T0.out.blk)) | ((with_reducible refine td_load ?_ ?_ (w.heap.size + 1) ?_ v ?_ ?_); (· rfl); (· rfl); (· rfl); (· exact T1.out.blk)) | ((with_reducible refine cs_load ?_ ?_ (w.heap.size + 1) ?_ v ?_ ?_); (· rfl); (· rfl); (· rfl); (· exact T1.out.blk)) | ((with_reducible refine td_load ?_ ?_ (w.heap.size + 1 + 1) ?_ Td.zero ?_ ?_); (· rfl); (· rfl); (· rfl); (· exact R2.out.blk)) | ((with_reducible refine cs_load ?_ ?_ (w.heap.size + 1 + 1) ?_ Td.zero ?_ ?_); (· rfl); (· rfl); (· rfl); (· exact R2.out.blk)) | ((with_reducible refine cd_load ?_ ?_ (k8) ?_ c ?_ ?_); (· rfl); (· rfl); (· rfl); (· exact C8.out.blk)) | ((with_reducible refine cd_load ?_ ?_ (k9) ?_ d ?_ ?_); (· rfl); (· rfl); (· rfl); (· exact C9.out.blk)))
              go_roundg g
              case measure => omega
              case rel => exact ⟨k + 1, by omega, by go_num, by rw [HN.out], T0.out, by rw [HN.out]; exact T1.out, R2.out, bel.out⟩
        · have q1 : (d.st != 0) = true := by simp [s0]
          by_cases s1 : c.st = 0
          · have q2 : (c.st == 0) = true := by simp [s1]
            replace HN := Lib.hid (HN.out.trans (if_pos (by unfold clsB; simp [p0, s0, s1])))
            clear p0 s0 s1
            go_wp2_with (first | ((with_reducible refine td_load ?_ ?_ (w.heap.size) ?_ a ?_ ?_); (· rfl); (· rfl); (· rfl); (· exact T0.out.blk)) | ((with_reducible refine cs_load ?_ ?_ (w.heap.size) ?_ a ?_ ?_); (· rfl); (· rfl); (· rfl); (· exact T0.out.blk)) | ((with_reducible refine td_load ?_ ?_ (w.heap.size + 1) ?_ v ?_ ?_); (· rfl); (· rfl); (· rfl); (· exact T1.out.blk)) | ((with_reducible refine cs_load ?_ ?_ (w.heap.size + 1) ?_ v ?_ ?_); (· rfl); (· rfl); (· rfl); (· exact T1.out.blk)) | ((with_reducible refine td_load ?_ ?_ (w.heap.size + 1 + 1) ?_ Td.zero ?_ ?_); (· rfl); (· rfl); (· rfl); (· exact R2.out.blk)) | ((with_reducible refine cs_load ?_ ?_ (w.heap.size + 1 + 1) ?_ Td.zero ?_ ?_); (· rfl); (· rfl); (· rfl); (· exact R2.out.blk)) | ((with_reducible refine cd_load ?_ ?_ (k8) ?_ c ?_ ?_); (· rfl); (· rfl); (· rfl); (· exact C8.out.blk)) | ((with_reducible refine cd_load ?_ ?_ (k9) ?_ d ?_ ?_); (· rfl); (· rfl); (· rfl); (· exact C9.out.blk)))
            refine (HW.out _ _ hm.out _).mono ?_; rintro e w2 ⟨rfl, rfl⟩
            go_wp2_with fail
            go_roundg g
            case measure => omega
            case rel => exact ⟨k + 1, by omega, by go_num, by rw [HN.out], T0.out, by rw [HN.out]; exact T1.out, R2.out, bel.out⟩
          · have q2 : (c.st == 0) = false := by simp [s1]
            go_upto_region 9 with fail
            by_cases o0 : d.st = 2
            · have r1 : (d.st != 2) = false := by simp [o0]
              replace HN := Lib.hid (HN.out.trans (if_neg (by unfold clsB; simp [p0, s0, s1])))
              replace HN := Lib.hid (HN.out.trans (if_neg (by unfold opnB; simp [o0])))
              clear p0 s0 s1 o0
              go_wp2_with (first | ((with_reducible refine td_load ?_ ?_ (w.heap.size) ?_ a ?_ ?_); (· rfl); (· rfl); (· rfl); (· exact T0.out.blk)) | ((with_reducible refine cs_load ?_ ?_ (w.heap.size) ?_ a ?_ ?_); (· rfl); (· rfl); (· rfl); (· exact T0.out.blk)) | ((with_reducible refine td_load ?_ ?_ (w.heap.size + 1) ?_ v ?_ ?_); (· rfl); (· rfl); (· rfl); (· exact T1.out.blk)) | ((with_reducible refine cs_load ?_ ?_ (w.heap.size + 1) ?_ v ?_ ?_); (· rfl); (· rfl); (· rfl); (· exact T1.out.blk)) | ((with_reducible refine td_load ?_ ?_ (w.heap.size + 1 + 1) ?_ Td.zero ?_ ?_); (· rfl); (· rfl); (· rfl); (· exact R2.out.blk)) | ((with_reducible refine cs_load ?_ ?_ (w.heap.size + 1 + 1) ?_ Td.zero ?_ ?_); (· rfl); (· rfl); (· rfl); (· exact R2.out.blk)) | ((with_reducible refine cd_load ?_ ?_ (k8) ?_ c ?_ ?_); (· rfl); (· rfl); (· rfl); (· exact C8.out.blk)) | ((with_reducible refine cd_load ?_ ?_ (k9) ?_ d ?_ ?_); (· rfl); (· rfl); (· rfl); (· exact C9.out.blk)))
              go_roundg g
              case measure => omega
              case rel => exact ⟨k + 1, by omega, by go_num, by rw [HN.out], T0.out, by rw [HN.out]; exact T1.out, R2.out, bel.out⟩
            · have r1 : (d.st != 2) = true := by simp [o0]
              by_cases o1 : c.st = 2
              · have r2 : (c.st == 2) = true := by simp [o1]
                rcases Bool.eq_false_or_eq_true c.edge with o2 | o2
                · rw [o2] at C8_2
                  replace HN := Lib.hid (HN.out.trans (if_neg (by unfold clsB; simp [p0, s0, s1])))
                  replace HN := Lib.hid (HN.out.trans (if_neg (by unfold opnB; simp [o2])))
                  clear p0 s0 s1 o0 o1 o2
                  go_wp2_with (first | ((with_reducible refine td_load ?_ ?_ (w.heap.size) ?_ a ?_ ?_); (· rfl); (· rfl); (· rfl); (· exact T0.out.blk)) | ((with_reducible refine cs_load ?_ ?_ (w.heap.size) ?_ a ?_ ?_); (· rfl); (· rfl); (· rfl); (· exact T0.out.blk)) | ((with_reducible refine td_load ?_ ?_ (w.heap.size + 1) ?_ v ?_ ?_); (· rfl); (· rfl); (· rfl); (· exact T1.out.blk)) | ((with_reducible refine cs_load ?_ ?_ (w.heap.size + 1) ?_ v ?_ ?_); (· rfl); (· rfl); (· rfl); (· exact T1.out.blk)) | ((with_reducible refine td_load ?_ ?_ (w.heap.size + 1 + 1) ?_ Td.zero ?_ ?_); (· rfl); (· rfl); (· rfl); (· exact R2.out.blk)) | ((with_reducible refine cs_load ?_ ?_ (w.heap.size + 1 + 1) ?_ Td.zero ?_ ?_); (· rfl); (· rfl); (· rfl); (· exact R2.out.blk)) | ((with_reducible refine cd_load ?_ ?_ (k8) ?_ c ?_ ?_); (· rfl); (· rfl); (· rfl); (· exact C8.out.blk)) | ((with_reducible refine cd_load ?_ ?_ (k9) ?_ d ?_ ?_); (· rfl); (· rfl); (· rfl); (· exact C9.out.blk)))
                  go_roundg g
                  case measure => omega
                  case rel => exact ⟨k + 1, by omega, by go_num, by rw [HN.out], T0.out, by rw [HN.out]; exact T1.out, R2.out, bel.out⟩
                · rw [o2] at C8_2
                  replace HN := Lib.hid (HN.out.trans (if_neg (by unfold clsB; simp [p0, s0, s1])))
                  replace HN := Lib.hid (HN.out.trans (if_pos (by unfold opnB; simp [o0, o1, o2])))
                  clear p0 s0 s1 o0 o1 o2
                  have hn := Lib.hid (prtI_lt v (k : Int))
                  have HP2 := Lib.hid (HP.out v (k : Int))
                  have HS2 := Lib.hid (fun n : Nat => HS.out v ((n : Nat) : Int))
                  generalize prtI v (k : Int) = n at *
                  have hor := Por.or_nat m n hm.out hn.out
                  have HW2 := Lib.hid (rwith_bel n (k : Int) hn.out)
                  obtain ⟨r, hr⟩ : ∃ r, r = Por.withN n (k : Int) := ⟨_, rfl⟩
                  rw [← hr] at HW2 HN
                  clear hr
                  replace HS2 := Lib.hid (HS2.out r)
                  obtain ⟨u, hu⟩ : ∃ u, u = strT v (r : Int) := ⟨_, rfl⟩
                  rw [← hu] at HS2 HN
                  clear hu
                  go_wp2_with (first | ((with_reducible refine td_load ?_ ?_ (w.heap.size + 1) ?_ v ?_ ?_); (· rfl); (· rfl); (· rfl); (· exact T1.out.blk)) | ((with_reducible refine cs_load ?_ ?_ (w.heap.size + 1) ?_ v ?_ ?_); (· rfl); (· rfl); (· rfl); (· exact T1.out.blk)))
                  refine (HP2.out _).mono ?_; rintro e w2 ⟨rfl, hb⟩
                  replace T0 := Lib.hid (T0.out.keep hb)
                  replace T1 := Lib.hid (T1.out.keep hb)
                  replace R2 := Lib.hid (R2.out.keep hb)
                  replace C8 := Lib.hid (C8.out.keep hb)
                  replace C9 := Lib.hid (C9.out.keep hb)
                  replace bel := Lib.hid (Bx.then_below bel.out hb)
                  clear hb
                  go_upto_region 11 with fail
                  skip
                  refine wp_region_noPanic ?_
                  refine Gt.region_gate (g := 5) (S := fun w' => Bx.Blk w' (w.heap.size + 1) (tdl v)) (by kernel_rfl) (by exact T1.out.blk) (fun hHeld => ?_)
                  replace bel := Lib.hid (Bx.bel_drewn bel.out)
                  replace T0 := Lib.hid (T0.out.drew)
                  replace T1 := Lib.hid (T1.out.drew)
                  replace R2 := Lib.hid (R2.out.drew)
                  replace C8 := Lib.hid (C8.out.drew)
                  replace C9 := Lib.hid (C9.out.drew)
                  generalize w2.drew = wd11 at *
                  refine Gt.gate_take (i := 0) (oi := ?oz5x0) (v := tdv v) ?hiz5x0 (by kernel_rfl) (by kernel_rfl) (by kernel_rfl) (by kernel_rfl) (fun _ _ _ h => h) ?yz5x0 hHeld ?rz5x0
                  case hiz5x0 => (simp only [List.getElem?_toArray, List.getElem?_cons_zero]; rfl)
                  case yz5x0 => (refine td_yields rfl rfl (w.heap.size + 1) rfl v ?_; intro w' hS; exact hS)
                  try simp only [Act.put, List.setIfInBounds_toArray, List.set_cons_zero, List.set_cons_succ]
                  refine Gt.gate_take (i := 1) (oi := ?oz5x1) (v := ?vz5x1) ?hiz5x1 (by kernel_rfl) (by kernel_rfl) (by kernel_rfl) (by kernel_rfl) (fun _ _ _ h => h) ?yz5x1 hHeld ?rz5x1
                  case hiz5x1 => (simp only [List.getElem?_toArray, List.getElem?_cons_succ, List.getElem?_cons_zero]; rfl)
                  case yz5x1 => (refine Or.inl ⟨by rfl, ?_⟩; intro w' hSw; (try dsimp only at hSw); go_simp; (try with_reducible rfl))
                  try simp only [Act.put, List.setIfInBounds_toArray, List.set_cons_zero, List.set_cons_succ]
                  refine Gt.gate_take (i := 2) (oi := ?oz5x2) (v := ?vz5x2) ?hiz5x2 (by kernel_rfl) (by kernel_rfl) (by kernel_rfl) (by kernel_rfl) (fun _ _ _ h => h) ?yz5x2 hHeld ?rz5x2
                  case hiz5x2 => (simp only [List.getElem?_toArray, List.getElem?_cons_succ, List.getElem?_cons_zero]; rfl)
                  case yz5x2 => (refine Or.inl ⟨by rfl, ?_⟩; intro w' hSw; (try dsimp only at hSw); go_simp; (try with_reducible rfl))
                  try simp only [Act.put, List.setIfInBounds_toArray, List.set_cons_zero, List.set_cons_succ]
                  refine Gt.gate_step (i := 3) (o := ?oz5x3) (by kernel_rfl) (by decide) ?hiz5x3 ?hstz5x3
                  case hiz5x3 => (simp only [List.getElem?_toArray, List.getElem?_cons_succ, List.getElem?_cons_zero]; rfl)
                  intro K hK
                  go_simp
                  (go_at_call 18; (with_reducible refine (HW2.out _).mono ?_); rintro e w3 ⟨rfl, hb⟩)
                  go_wp2_with fail
                  refine hK.out _ _ (by exact Bx.Blk.keep hHeld hb) (fun hNew => ?_)
                  clear hHeld
                  have hHeld := hNew
                  clear hNew hK K
                  replace bel := Lib.hid (Bx.then_below bel.out hb)
                  replace T0 := Lib.hid (T0.out.keep hb)
                  replace T1 := Lib.hid (T1.out.keep hb)
                  replace R2 := Lib.hid (R2.out.keep hb)
                  replace C8 := Lib.hid (C8.out.keep hb)
                  replace C9 := Lib.hid (C9.out.keep hb)
                  clear hb
                  refine Gt.gate_step (i := 4) (o := ?oz5x4) (by kernel_rfl) (by decide) ?hiz5x4 ?hstz5x4
                  case hiz5x4 => (simp only [List.getElem?_toArray, List.getElem?_cons_succ, List.getElem?_cons_zero]; rfl)
                  intro K hK
                  go_simp
                  (go_at_call 12; (with_reducible refine (HS2.out _).mono ?_); rintro e w4 ⟨rfl, hb⟩)
                  go_wp2_with fail
                  refine hK.out _ _ (by exact Bx.Blk.keep hHeld hb) (fun hNew => ?_)
                  clear hHeld
                  have hHeld := hNew
                  clear hNew hK K
                  replace bel := Lib.hid (Bx.then_below bel.out hb)
                  replace T0 := Lib.hid (T0.out.keep hb)
                  replace T1 := Lib.hid (T1.out.keep hb)
                  replace R2 := Lib.hid (R2.out.keep hb)
                  replace C8 := Lib.hid (C8.out.keep hb)
                  replace C9 := Lib.hid (C9.out.keep hb)
                  clear hb
                  refine Gt.gate_gate (o := ?oz5x5) (by kernel_rfl) ?hiz5x5 ?hstz5x5
                  case hiz5x5 => (simp only [List.getElem?_toArray, List.getElem?_cons_succ, List.getElem?_cons_zero]; rfl)
                  intro K hK
                  rw [if_pos (by rfl)]
                  refine tdw_wp rfl (w.heap.size + 1) rfl u rfl (tdl v) (tdl_len _) T1.out ?_
                  refine hK.out _ _ ?_
                  clear hK K hHeld
                  replace T0 := Lib.hid (T0.out.apart_at (k' := w.heap.size + 1) (tdl u) 0 (by omega))
                  replace R2 := Lib.hid (R2.out.apart_at (k' := w.heap.size + 1) (tdl u) 0 (by omega))
                  replace C8 := Lib.hid (C8.out.apart_at (k' := w.heap.size + 1) (tdl u) 0 (by omega))
                  replace C9 := Lib.hid (C9.out.apart_at (k' := w.heap.size + 1) (tdl u) 0 (by omega))
                  replace bel := Lib.hid (Bx.bel_put_at (k := w.heap.size + 1) (tdl u) 0 (by omega) bel.out)
                  replace T1 := Lib.hid (T1.out.full (m := (tdl u)) (by rw [tdl_len, tdl_len]))
                  refine wpAnyH_done (by kernel_rfl) ?_ _
                  refine NoPanic.normal ?_
                  go_wp2_with fail
                  go_roundg g
                  case measure => omega
                  case rel => exact ⟨k + 1, by omega, by go_num, by rw [HN.out], T0.out, by rw [HN.out]; exact T1.out, R2.out, bel.out⟩
              · have r2 : (c.st == 2) = false := by simp [o1]
                replace HN := Lib.hid (HN.out.trans (if_neg (by unfold clsB; simp [p0, s0, s1])))
                replace HN := Lib.hid (HN.out.trans (if_neg (by unfold opnB; simp [o1])))
                clear p0 s0 s1 o0 o1
                go_wp2_with (first | ((with_reducible refine td_load ?_ ?_ (w.heap.size) ?_ a ?_ ?_); (· rfl); (· rfl); (· rfl); (· exact T0.out.blk)) | ((with_reducible refine cs_load ?_ ?_ (w.heap.size) ?_ a ?_ ?_); (· rfl); (· rfl); (· rfl); (· exact T0.out.blk)) | ((with_reducible refine td_load ?_ ?_ (w.heap.size + 1) ?_ v ?_ ?_); (· rfl); (· rfl); (· rfl); (· exact T1.out.blk)) | ((with_reducible refine cs_load ?_ ?_ (w.heap.size + 1) ?_ v ?_ ?_); (· rfl); (· rfl); (· rfl); (· exact T1.out.blk)) | ((with_reducible refine td_load ?_ ?_ (w.heap.size + 1 + 1) ?_ Td.zero ?_ ?_); (· rfl); (· rfl); (· rfl); (· exact R2.out.blk)) | ((with_reducible refine cs_load ?_ ?_ (w.heap.size + 1 + 1) ?_ Td.zero ?_ ?_); (· rfl); (· rfl); (· rfl); (· exact R2.out.blk)) | ((with_reducible refine cd_load ?_ ?_ (k8) ?_ c ?_ ?_); (· rfl); (· rfl); (· rfl); (· exact C8.out.blk)) | ((with_reducible refine cd_load ?_ ?_ (k9) ?_ d ?_ ?_); (· rfl); (· rfl); (· rfl); (· exact C9.out.blk)))
                go_roundg g
                case measure => omega
                case rel => exact ⟨k + 1, by omega, by go_num, by rw [HN.out], T0.out, by rw [HN.out]; exact T1.out, R2.out, bel.out⟩

end Chg
end Go.Proofs.Ytkjdnmlaehjmgaa
