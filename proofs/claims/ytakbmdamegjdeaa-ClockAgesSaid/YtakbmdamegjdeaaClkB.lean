/-
  What timersDown answers.
-/
import Derived.Test.YtakbmdamegjdeaaClkA
import Derived.Test.YtakbmdamegjdeaaGate
namespace Go.Proofs.Ytakbmdamegjdeaa
open Go.RowKit
namespace Clk
open Pre Crd Clk

/-- The seven timers' places within a port's block. -/
abbrev ptl (m : Nat) : List Value := [.pointer (some ⟨m, 25, none⟩), .pointer (some ⟨m, 27, none⟩), .pointer (some ⟨m, 28, none⟩), .pointer (some ⟨m, 29, none⟩), .pointer (some ⟨m, 30, none⟩), .pointer (some ⟨m, 24, none⟩), .pointer (some ⟨m, 26, none⟩)]
abbrev pto (m : Nat) : Obj := .cells #[.pointer (some ⟨m, 25, none⟩), .pointer (some ⟨m, 27, none⟩), .pointer (some ⟨m, 28, none⟩), .pointer (some ⟨m, 29, none⟩), .pointer (some ⟨m, 30, none⟩), .pointer (some ⟨m, 24, none⟩), .pointer (some ⟨m, 26, none⟩)] 39

theorem ptl_at (m : Nat) : ∀ k, k < 7 → (ptl m)[k]? = some (.pointer (some ⟨m, offN k, none⟩))
  | 0, _ => rfl
  | 1, _ => rfl
  | 2, _ => rfl
  | 3, _ => rfl
  | 4, _ => rfl
  | 5, _ => rfl
  | 6, _ => rfl
  | k + 7, h => by omega

theorem down_bel (n : Int) (hn : n ≤ 9223372036854775807) (w : World) : Calls Try.prog 12 #[.int .i64 n] w fun e w' => e = .returned (.int .i64 (dnI n)) ∧ Below w.heap.size w w' :=
  (down_any n hn w).mono (fun _ _ h => ⟨h.1, h.2 ▸ Below.refl _ _⟩)

theorem rdown_bel (n : Int) (hn : n ≤ 9223372036854775807) (w : World) : Calls Try.prog 13 #[.int .i64 n] w fun e w' => e = .returned (.int .i64 (dnI n)) ∧ Below w.heap.size w w' :=
  (rdown_any n hn w).mono (fun _ _ h => ⟨h.1, h.2 ▸ Below.refl _ _⟩)

set_option maxRecDepth 40000 in
set_option maxHeartbeats 8000000 in
theorem timers_any (c : Cd) (hc0 : Ok c) (w : World) : Calls Try.prog 15 #[cdv c] w fun e w' => e = .returned (cdv (tmrC c)) ∧ Below w.heap.size w w' := by
  have hc := Lib.hid hc0
  clear hc0
  have C0 : Hid (Bx.Fre (w.alloc (cdo c)) w.heap.size (cdl c)) := Lib.hid (Bx.Fre.new w (cdl c) 28)
  have bel := Lib.hid (Bx.box_below w (cdo c))
  replace C0 := Lib.hid (C0.out.more (cdo Cd.zero))
  have R1 : Hid (Bx.Fre ((w.alloc (cdo c)).alloc (cdo Cd.zero)) (w.heap.size + 1) (cdl Cd.zero)) := Lib.hid (Bx.Fre.new_at (W := (w.alloc (cdo c))) (k := w.heap.size + 1) (cdl Cd.zero) 28 (by simp))
  replace bel := Lib.hid (Bx.bel_box bel.out (cdo Cd.zero))
  go_enter Try.func15, Try.ntmps15
  go_upto_region 1 with fail
  generalize ((w.alloc (cdo c)).alloc (cdo Cd.zero)) = W0 at *
  have h3 : w.heap.size < W0.heap.size := C0.out.2.1
  have h31 : w.heap.size + 1 < W0.heap.size := R1.out.2.1
  replace C0 := Lib.hid (C0.out.more (pto w.heap.size))
  replace R1 := Lib.hid (R1.out.more (pto w.heap.size))
  have P3 : Hid (Bx.Fre (W0.alloc (pto w.heap.size)) W0.heap.size (ptl w.heap.size)) := Lib.hid (Bx.Fre.new W0 (ptl w.heap.size) 39)
  replace bel := Lib.hid (Bx.bel_box bel.out (pto w.heap.size))
  go_upto_region 2 with fail
  obtain ⟨k3, hk3⟩ : ∃ k, k = W0.heap.size := ⟨_, rfl⟩
  rw [← hk3] at P3 h3 h31 ⊢
  generalize (W0.alloc (pto w.heap.size)) = W1 at *
  clear hk3
  by_cases h : c.role = 2
  · have g : (c.role == 2) = true := by simp [h]
    have hT := tmr_root c h
    clear h
    have C0_13 := C0.out.at 13 rfl
    go_wp2_with (first | ((with_reducible refine cd_load ?_ ?_ (w.heap.size) ?_ c ?_ ?_); (· rfl); (· rfl); (· rfl); (· exact C0.out.blk)) | ((with_reducible refine cd_load ?_ ?_ (w.heap.size + 1) ?_ Cd.zero ?_ ?_); (· rfl); (· rfl); (· rfl); (· exact R1.out.blk)))
    clear C0_13
    replace C0 := Lib.hid (C0.out.of (m := cdl (tmrN c 0)) rfl)
    go_loopg [20] 6 (fun g s20 wr => ∃ k : Nat, k + g = 6 ∧ s20 = .int .i64 k ∧ Aside (Bx.Fre wr w.heap.size (cdl (tmrN c k))) ∧ Aside (Bx.Fre wr (w.heap.size + 1) (cdl Cd.zero)) ∧ Aside (Bx.Fre wr k3 (ptl w.heap.size)) ∧ Aside (Below w.heap.size w wr))
    case atStart => exact ⟨0, by omega, rfl, C0.out, R1.out, P3.out, bel.out⟩
    case round =>
      clear C0 R1 P3 bel
      obtain ⟨k, hkg, rfl, C0, R1, P3, bel⟩ := hrel
      cases gk with
      | zero =>
        have hkz : ¬ ((k : Int) < 6) := by omega
        obtain rfl : k = 6 := by omega
        replace C0 := Lib.hid (C0.out.of (m := cdl (tmrC c)) (by rw [hT]))
        go_wp2_with (first | ((with_reducible refine cd_store ?_ ?_ (w.heap.size + 1) (tmrC c) ?_ ?_ (cdl Cd.zero) ?_ ?_ ?_); (· rfl); (· rfl); (· rfl); (· rfl); (· rfl); (· exact R1.out.own)) | ((with_reducible refine cd_load ?_ ?_ (w.heap.size) ?_ (tmrC c) ?_ ?_); (· rfl); (· rfl); (· rfl); (· exact C0.out.blk)))
        replace C0 := Lib.hid (C0.out.apart_at (k' := w.heap.size + 1) (cdl (tmrC c)) 0 (by omega))
        replace P3 := Lib.hid (P3.out.apart_at (k' := w.heap.size + 1) (cdl (tmrC c)) 0 (by omega))
        replace bel := Lib.hid (Bx.bel_put_at (k := w.heap.size + 1) (cdl (tmrC c)) 0 (by omega) bel.out)
        replace R1 := Lib.hid (R1.out.full (m := (cdl (tmrC c))) (rfl))
        exact bodyPost_ret (v := cdv (tmrC c)) (cd_result Try.results15 rfl R1.out.blk) rfl ⟨rfl, bel.out⟩
      | succ g =>
        have hkz : (k : Int) < 6 := by omega
        have hk0 : (0 : Int) ≤ k := by omega
        have hk7 : (k : Int) < 7 := by omega
        have hk : k < 7 := by omega
        have hD := Lib.hid (down_bel _ (fld_ok _ (ok_tmrN hc.out k (by omega)) k hk))
        have hF := Lib.hid (fld_at (tmrN c k) k hk)
        have hP := Lib.hid (put_set (tmrN c k) (dnI (fldI (tmrN c k) k)) k hk)
        rw [show putF (tmrN c k) k (dnI (fldI (tmrN c k) k)) = tmrN c (k + 1) from rfl] at hP
        have hQ := Lib.hid (ptl_at w.heap.size k hk)
        have hn : w.heap.size < k3 := h3
        obtain ⟨d2, hd2⟩ : ∃ d2, d2 = tmrN c (k + 1) := ⟨_, rfl⟩
        rw [← hd2] at hP
        replace hd2 := Lib.hid hd2
        generalize tmrN c k = d at *
        generalize dnI (fldI d k) = q2 at *
        generalize fldI d k = q at *
        generalize offN k = o at *
        go_upto_region 8 with fail
        refine wp_region_noPanic ?_
        refine Gt.region_gate (g := 10) (S := fun w' => w'.cell? ⟨k3, k, none⟩ = some (.pointer (some ⟨w.heap.size, o, none⟩)) ∧ w'.cell? ⟨w.heap.size, o, none⟩ = some (.int .i64 q)) (by kernel_rfl) (by exact ⟨P3.out.at k hQ.out, C0.out.at o hF.out⟩) (fun hHeld => ?_)
        replace bel := Lib.hid (Bx.bel_drewn bel.out)
        replace C0 := Lib.hid (C0.out.drew)
        replace R1 := Lib.hid (R1.out.drew)
        replace P3 := Lib.hid (P3.out.drew)
        generalize wr.drew = wd8 at *
        refine Gt.gate_take (i := 0) (oi := ?oz1x0) (v := ?vz1x0) ?hiz1x0 (by kernel_rfl) (by kernel_rfl) (by kernel_rfl) (by kernel_rfl) (fun _ _ _ h => h) ?yz1x0 hHeld ?rz1x0
        case hiz1x0 => (simp only [List.getElem?_toArray, List.getElem?_cons_zero]; rfl)
        case yz1x0 => (refine Or.inl ⟨by rfl, ?_⟩; intro w' hSw; (try dsimp only at hSw); go_simp; (try with_reducible rfl))
        try simp only [Act.put, List.setIfInBounds_toArray, List.set_cons_zero, List.set_cons_succ]
        refine Gt.gate_take (i := 1) (oi := ?oz1x1) (v := ?vz1x1) ?hiz1x1 (by kernel_rfl) (by kernel_rfl) (by kernel_rfl) (by kernel_rfl) (fun _ _ _ h => h) ?yz1x1 hHeld ?rz1x1
        case hiz1x1 => (simp only [List.getElem?_toArray, List.getElem?_cons_succ, List.getElem?_cons_zero]; rfl)
        case yz1x1 => (refine Or.inl ⟨by rfl, ?_⟩; intro w' hSw; (try dsimp only at hSw); go_simp; (try with_reducible rfl))
        try simp only [Act.put, List.setIfInBounds_toArray, List.set_cons_zero, List.set_cons_succ]
        refine Gt.gate_take (i := 2) (oi := ?oz1x2) (v := ?vz1x2) ?hiz1x2 (by kernel_rfl) (by kernel_rfl) (by kernel_rfl) (by kernel_rfl) (fun _ _ _ h => h) ?yz1x2 hHeld ?rz1x2
        case hiz1x2 => (simp only [List.getElem?_toArray, List.getElem?_cons_succ, List.getElem?_cons_zero]; rfl)
        case yz1x2 => (refine Or.inl ⟨by rfl, ?_⟩; intro w' hSw; (try dsimp only at hSw); go_simp; (try with_reducible rfl))
        try simp only [Act.put, List.setIfInBounds_toArray, List.set_cons_zero, List.set_cons_succ]
        refine Gt.gate_take (i := 3) (oi := ?oz1x3) (v := ?vz1x3) ?hiz1x3 (by kernel_rfl) (by kernel_rfl) (by kernel_rfl) (by kernel_rfl) (fun _ _ _ h => h) ?yz1x3 hHeld ?rz1x3
        case hiz1x3 => (simp only [List.getElem?_toArray, List.getElem?_cons_succ, List.getElem?_cons_zero]; rfl)
        case yz1x3 => (refine Or.inl ⟨by rfl, ?_⟩; intro w' hSw; (try dsimp only at hSw); go_simp; (try with_reducible rfl))
        try simp only [Act.put, List.setIfInBounds_toArray, List.set_cons_zero, List.set_cons_succ]
        refine Gt.gate_take (i := 4) (oi := ?oz1x4) (v := ?vz1x4) ?hiz1x4 (by kernel_rfl) (by kernel_rfl) (by kernel_rfl) (by kernel_rfl) (fun _ _ _ h => h) ?yz1x4 hHeld ?rz1x4
        case hiz1x4 => (simp only [List.getElem?_toArray, List.getElem?_cons_succ, List.getElem?_cons_zero]; rfl)
        case yz1x4 => (refine Or.inl ⟨by rfl, ?_⟩; intro w' hSw; (try dsimp only at hSw); go_simp; (try with_reducible rfl))
        try simp only [Act.put, List.setIfInBounds_toArray, List.set_cons_zero, List.set_cons_succ]
        refine Gt.gate_take (i := 5) (oi := ?oz1x5) (v := ?vz1x5) ?hiz1x5 (by kernel_rfl) (by kernel_rfl) (by kernel_rfl) (by kernel_rfl) (fun _ _ _ h => h) ?yz1x5 hHeld ?rz1x5
        case hiz1x5 => (simp only [List.getElem?_toArray, List.getElem?_cons_succ, List.getElem?_cons_zero]; rfl)
        case yz1x5 => (refine Or.inl ⟨by rfl, ?_⟩; intro w' hSw; (try dsimp only at hSw); go_simp; (try with_reducible rfl))
        try simp only [Act.put, List.setIfInBounds_toArray, List.set_cons_zero, List.set_cons_succ]
        refine Gt.gate_take (i := 6) (oi := ?oz1x6) (v := ?vz1x6) ?hiz1x6 (by kernel_rfl) (by kernel_rfl) (by kernel_rfl) (by kernel_rfl) (fun _ _ _ h => h) ?yz1x6 hHeld ?rz1x6
        case hiz1x6 => (simp only [List.getElem?_toArray, List.getElem?_cons_succ, List.getElem?_cons_zero]; rfl)
        case yz1x6 => (refine Or.inl ⟨by rfl, ?_⟩; intro w' hSw; (try dsimp only at hSw); go_simp; (try with_reducible rfl))
        try simp only [Act.put, List.setIfInBounds_toArray, List.set_cons_zero, List.set_cons_succ]
        refine Gt.gate_take (i := 7) (oi := ?oz1x7) (v := ?vz1x7) ?hiz1x7 (by kernel_rfl) (by kernel_rfl) (by kernel_rfl) (by kernel_rfl) (fun _ _ _ h => h) ?yz1x7 hHeld ?rz1x7
        case hiz1x7 => (simp only [List.getElem?_toArray, List.getElem?_cons_succ, List.getElem?_cons_zero]; rfl)
        case yz1x7 => (refine Or.inl ⟨by rfl, ?_⟩; intro w' hSw; (try dsimp only at hSw); go_simp; (try with_reducible rfl))
        try simp only [Act.put, List.setIfInBounds_toArray, List.set_cons_zero, List.set_cons_succ]
        refine Gt.gate_step (i := 8) (o := ?oz1x8) (by kernel_rfl) (by decide) ?hiz1x8 ?hstz1x8
        case hiz1x8 => (simp only [List.getElem?_toArray, List.getElem?_cons_succ, List.getElem?_cons_zero]; rfl)
        intro K hK
        go_simp
        (go_at_call 12; (with_reducible refine (hD.out _).mono ?_); rintro e w1 ⟨rfl, hb⟩)
        go_wp2_with fail
        refine hK.out _ _ ⟨Bx.keep_cell hb hHeld.1, Bx.keep_cell hb hHeld.2⟩ (fun hNew => ?_)
        clear hHeld
        have hHeld := hNew
        clear hNew hK K
        replace bel := Lib.hid (Bx.then_below bel.out hb)
        replace C0 := Lib.hid (C0.out.keep hb)
        replace R1 := Lib.hid (R1.out.keep hb)
        replace P3 := Lib.hid (P3.out.keep hb)
        clear hb
        refine Gt.gate_take (i := 9) (oi := ?oz1x9) (v := ?vz1x9) ?hiz1x9 (by kernel_rfl) (by kernel_rfl) (by kernel_rfl) (by kernel_rfl) (fun _ _ _ h => h) ?yz1x9 hHeld ?rz1x9
        case hiz1x9 => (simp only [List.getElem?_toArray, List.getElem?_cons_succ, List.getElem?_cons_zero]; rfl)
        case yz1x9 => (refine Or.inl ⟨by rfl, ?_⟩; intro w' hSw; (try dsimp only at hSw); go_simp; (try with_reducible rfl))
        try simp only [Act.put, List.setIfInBounds_toArray, List.set_cons_zero, List.set_cons_succ]
        refine Gt.gate_gate (o := ?oz1x10) (by kernel_rfl) ?hiz1x10 ?hstz1x10
        case hiz1x10 => (simp only [List.getElem?_toArray, List.getElem?_cons_succ, List.getElem?_cons_zero]; rfl)
        intro K hK
        have q6 := C0.out.at o hF.out
        have f6 := C0.out.2.2 o
        go_simp
        refine hK.out _ _ ?_
        clear hK K hHeld
        clear q6 f6
        replace R1 := Lib.hid (R1.out.other (k' := w.heap.size) (o := o) (x := .int .i64 q2) (by omega))
        replace P3 := Lib.hid (P3.out.other (k' := w.heap.size) (o := o) (x := .int .i64 q2) (by omega))
        replace bel := Lib.hid (Bx.bel_set (k := w.heap.size) (o := o) (x := .int .i64 q2) (by omega) bel.out)
        replace C0 := Lib.hid ((C0.out.set (o) (.int .i64 q2)).of (m := (cdl d2)) (hP.out))
        refine wpAnyH_done (by kernel_rfl) ?_ _
        refine NoPanic.normal ?_
        go_wp2_with fail
        go_roundg g
        case measure => omega
        case rel => exact ⟨k + 1, by omega, by go_num, by rw [← hd2.out]; exact C0.out, R1.out, P3.out, bel.out⟩
  · have g : (c.role == 2) = false := by simp [h]
    have hT := tmr_other c h
    clear h
    have C0_13 := C0.out.at 13 rfl
    go_wp2_with (first | ((with_reducible refine cd_load ?_ ?_ (w.heap.size) ?_ c ?_ ?_); (· rfl); (· rfl); (· rfl); (· exact C0.out.blk)) | ((with_reducible refine cd_load ?_ ?_ (w.heap.size + 1) ?_ Cd.zero ?_ ?_); (· rfl); (· rfl); (· rfl); (· exact R1.out.blk)))
    clear C0_13
    replace C0 := Lib.hid (C0.out.of (m := cdl (tmrN c 0)) rfl)
    go_loopg [20] 7 (fun g s20 wr => ∃ k : Nat, k + g = 7 ∧ s20 = .int .i64 k ∧ Aside (Bx.Fre wr w.heap.size (cdl (tmrN c k))) ∧ Aside (Bx.Fre wr (w.heap.size + 1) (cdl Cd.zero)) ∧ Aside (Bx.Fre wr k3 (ptl w.heap.size)) ∧ Aside (Below w.heap.size w wr))
    case atStart => exact ⟨0, by omega, rfl, C0.out, R1.out, P3.out, bel.out⟩
    case round =>
      clear C0 R1 P3 bel
      obtain ⟨k, hkg, rfl, C0, R1, P3, bel⟩ := hrel
      cases gk with
      | zero =>
        have hkz : ¬ ((k : Int) < 7) := by omega
        obtain rfl : k = 7 := by omega
        replace C0 := Lib.hid (C0.out.of (m := cdl (tmrC c)) (by rw [hT]))
        go_wp2_with (first | ((with_reducible refine cd_store ?_ ?_ (w.heap.size + 1) (tmrC c) ?_ ?_ (cdl Cd.zero) ?_ ?_ ?_); (· rfl); (· rfl); (· rfl); (· rfl); (· rfl); (· exact R1.out.own)) | ((with_reducible refine cd_load ?_ ?_ (w.heap.size) ?_ (tmrC c) ?_ ?_); (· rfl); (· rfl); (· rfl); (· exact C0.out.blk)))
        replace C0 := Lib.hid (C0.out.apart_at (k' := w.heap.size + 1) (cdl (tmrC c)) 0 (by omega))
        replace P3 := Lib.hid (P3.out.apart_at (k' := w.heap.size + 1) (cdl (tmrC c)) 0 (by omega))
        replace bel := Lib.hid (Bx.bel_put_at (k := w.heap.size + 1) (cdl (tmrC c)) 0 (by omega) bel.out)
        replace R1 := Lib.hid (R1.out.full (m := (cdl (tmrC c))) (rfl))
        exact bodyPost_ret (v := cdv (tmrC c)) (cd_result Try.results15 rfl R1.out.blk) rfl ⟨rfl, bel.out⟩
      | succ g =>
        have hkz : (k : Int) < 7 := by omega
        have hk0 : (0 : Int) ≤ k := by omega
        have hk7 : (k : Int) < 7 := by omega
        have hk : k < 7 := by omega
        have hD := Lib.hid (down_bel _ (fld_ok _ (ok_tmrN hc.out k (by omega)) k hk))
        have hF := Lib.hid (fld_at (tmrN c k) k hk)
        have hP := Lib.hid (put_set (tmrN c k) (dnI (fldI (tmrN c k) k)) k hk)
        rw [show putF (tmrN c k) k (dnI (fldI (tmrN c k) k)) = tmrN c (k + 1) from rfl] at hP
        have hQ := Lib.hid (ptl_at w.heap.size k hk)
        have hn : w.heap.size < k3 := h3
        obtain ⟨d2, hd2⟩ : ∃ d2, d2 = tmrN c (k + 1) := ⟨_, rfl⟩
        rw [← hd2] at hP
        replace hd2 := Lib.hid hd2
        generalize tmrN c k = d at *
        generalize dnI (fldI d k) = q2 at *
        generalize fldI d k = q at *
        generalize offN k = o at *
        go_upto_region 8 with fail
        refine wp_region_noPanic ?_
        refine Gt.region_gate (g := 10) (S := fun w' => w'.cell? ⟨k3, k, none⟩ = some (.pointer (some ⟨w.heap.size, o, none⟩)) ∧ w'.cell? ⟨w.heap.size, o, none⟩ = some (.int .i64 q)) (by kernel_rfl) (by exact ⟨P3.out.at k hQ.out, C0.out.at o hF.out⟩) (fun hHeld => ?_)
        replace bel := Lib.hid (Bx.bel_drewn bel.out)
        replace C0 := Lib.hid (C0.out.drew)
        replace R1 := Lib.hid (R1.out.drew)
        replace P3 := Lib.hid (P3.out.drew)
        generalize wr.drew = wd8 at *
        refine Gt.gate_take (i := 0) (oi := ?oz2x0) (v := ?vz2x0) ?hiz2x0 (by kernel_rfl) (by kernel_rfl) (by kernel_rfl) (by kernel_rfl) (fun _ _ _ h => h) ?yz2x0 hHeld ?rz2x0
        case hiz2x0 => (simp only [List.getElem?_toArray, List.getElem?_cons_zero]; rfl)
        case yz2x0 => (refine Or.inl ⟨by rfl, ?_⟩; intro w' hSw; (try dsimp only at hSw); go_simp; (try with_reducible rfl))
        try simp only [Act.put, List.setIfInBounds_toArray, List.set_cons_zero, List.set_cons_succ]
        refine Gt.gate_take (i := 1) (oi := ?oz2x1) (v := ?vz2x1) ?hiz2x1 (by kernel_rfl) (by kernel_rfl) (by kernel_rfl) (by kernel_rfl) (fun _ _ _ h => h) ?yz2x1 hHeld ?rz2x1
        case hiz2x1 => (simp only [List.getElem?_toArray, List.getElem?_cons_succ, List.getElem?_cons_zero]; rfl)
        case yz2x1 => (refine Or.inl ⟨by rfl, ?_⟩; intro w' hSw; (try dsimp only at hSw); go_simp; (try with_reducible rfl))
        try simp only [Act.put, List.setIfInBounds_toArray, List.set_cons_zero, List.set_cons_succ]
        refine Gt.gate_take (i := 2) (oi := ?oz2x2) (v := ?vz2x2) ?hiz2x2 (by kernel_rfl) (by kernel_rfl) (by kernel_rfl) (by kernel_rfl) (fun _ _ _ h => h) ?yz2x2 hHeld ?rz2x2
        case hiz2x2 => (simp only [List.getElem?_toArray, List.getElem?_cons_succ, List.getElem?_cons_zero]; rfl)
        case yz2x2 => (refine Or.inl ⟨by rfl, ?_⟩; intro w' hSw; (try dsimp only at hSw); go_simp; (try with_reducible rfl))
        try simp only [Act.put, List.setIfInBounds_toArray, List.set_cons_zero, List.set_cons_succ]
        refine Gt.gate_take (i := 3) (oi := ?oz2x3) (v := ?vz2x3) ?hiz2x3 (by kernel_rfl) (by kernel_rfl) (by kernel_rfl) (by kernel_rfl) (fun _ _ _ h => h) ?yz2x3 hHeld ?rz2x3
        case hiz2x3 => (simp only [List.getElem?_toArray, List.getElem?_cons_succ, List.getElem?_cons_zero]; rfl)
        case yz2x3 => (refine Or.inl ⟨by rfl, ?_⟩; intro w' hSw; (try dsimp only at hSw); go_simp; (try with_reducible rfl))
        try simp only [Act.put, List.setIfInBounds_toArray, List.set_cons_zero, List.set_cons_succ]
        refine Gt.gate_take (i := 4) (oi := ?oz2x4) (v := ?vz2x4) ?hiz2x4 (by kernel_rfl) (by kernel_rfl) (by kernel_rfl) (by kernel_rfl) (fun _ _ _ h => h) ?yz2x4 hHeld ?rz2x4
        case hiz2x4 => (simp only [List.getElem?_toArray, List.getElem?_cons_succ, List.getElem?_cons_zero]; rfl)
        case yz2x4 => (refine Or.inl ⟨by rfl, ?_⟩; intro w' hSw; (try dsimp only at hSw); go_simp; (try with_reducible rfl))
        try simp only [Act.put, List.setIfInBounds_toArray, List.set_cons_zero, List.set_cons_succ]
        refine Gt.gate_take (i := 5) (oi := ?oz2x5) (v := ?vz2x5) ?hiz2x5 (by kernel_rfl) (by kernel_rfl) (by kernel_rfl) (by kernel_rfl) (fun _ _ _ h => h) ?yz2x5 hHeld ?rz2x5
        case hiz2x5 => (simp only [List.getElem?_toArray, List.getElem?_cons_succ, List.getElem?_cons_zero]; rfl)
        case yz2x5 => (refine Or.inl ⟨by rfl, ?_⟩; intro w' hSw; (try dsimp only at hSw); go_simp; (try with_reducible rfl))
        try simp only [Act.put, List.setIfInBounds_toArray, List.set_cons_zero, List.set_cons_succ]
        refine Gt.gate_take (i := 6) (oi := ?oz2x6) (v := ?vz2x6) ?hiz2x6 (by kernel_rfl) (by kernel_rfl) (by kernel_rfl) (by kernel_rfl) (fun _ _ _ h => h) ?yz2x6 hHeld ?rz2x6
        case hiz2x6 => (simp only [List.getElem?_toArray, List.getElem?_cons_succ, List.getElem?_cons_zero]; rfl)
        case yz2x6 => (refine Or.inl ⟨by rfl, ?_⟩; intro w' hSw; (try dsimp only at hSw); go_simp; (try with_reducible rfl))
        try simp only [Act.put, List.setIfInBounds_toArray, List.set_cons_zero, List.set_cons_succ]
        refine Gt.gate_take (i := 7) (oi := ?oz2x7) (v := ?vz2x7) ?hiz2x7 (by kernel_rfl) (by kernel_rfl) (by kernel_rfl) (by kernel_rfl) (fun _ _ _ h => h) ?yz2x7 hHeld ?rz2x7
        case hiz2x7 => (simp only [List.getElem?_toArray, List.getElem?_cons_succ, List.getElem?_cons_zero]; rfl)
        case yz2x7 => (refine Or.inl ⟨by rfl, ?_⟩; intro w' hSw; (try dsimp only at hSw); go_simp; (try with_reducible rfl))
        try simp only [Act.put, List.setIfInBounds_toArray, List.set_cons_zero, List.set_cons_succ]
        refine Gt.gate_step (i := 8) (o := ?oz2x8) (by kernel_rfl) (by decide) ?hiz2x8 ?hstz2x8
        case hiz2x8 => (simp only [List.getElem?_toArray, List.getElem?_cons_succ, List.getElem?_cons_zero]; rfl)
        intro K hK
        go_simp
        (go_at_call 12; (with_reducible refine (hD.out _).mono ?_); rintro e w1 ⟨rfl, hb⟩)
        go_wp2_with fail
        refine hK.out _ _ ⟨Bx.keep_cell hb hHeld.1, Bx.keep_cell hb hHeld.2⟩ (fun hNew => ?_)
        clear hHeld
        have hHeld := hNew
        clear hNew hK K
        replace bel := Lib.hid (Bx.then_below bel.out hb)
        replace C0 := Lib.hid (C0.out.keep hb)
        replace R1 := Lib.hid (R1.out.keep hb)
        replace P3 := Lib.hid (P3.out.keep hb)
        clear hb
        refine Gt.gate_take (i := 9) (oi := ?oz2x9) (v := ?vz2x9) ?hiz2x9 (by kernel_rfl) (by kernel_rfl) (by kernel_rfl) (by kernel_rfl) (fun _ _ _ h => h) ?yz2x9 hHeld ?rz2x9
        case hiz2x9 => (simp only [List.getElem?_toArray, List.getElem?_cons_succ, List.getElem?_cons_zero]; rfl)
        case yz2x9 => (refine Or.inl ⟨by rfl, ?_⟩; intro w' hSw; (try dsimp only at hSw); go_simp; (try with_reducible rfl))
        try simp only [Act.put, List.setIfInBounds_toArray, List.set_cons_zero, List.set_cons_succ]
        refine Gt.gate_gate (o := ?oz2x10) (by kernel_rfl) ?hiz2x10 ?hstz2x10
        case hiz2x10 => (simp only [List.getElem?_toArray, List.getElem?_cons_succ, List.getElem?_cons_zero]; rfl)
        intro K hK
        have q6 := C0.out.at o hF.out
        have f6 := C0.out.2.2 o
        go_simp
        refine hK.out _ _ ?_
        clear hK K hHeld
        clear q6 f6
        replace R1 := Lib.hid (R1.out.other (k' := w.heap.size) (o := o) (x := .int .i64 q2) (by omega))
        replace P3 := Lib.hid (P3.out.other (k' := w.heap.size) (o := o) (x := .int .i64 q2) (by omega))
        replace bel := Lib.hid (Bx.bel_set (k := w.heap.size) (o := o) (x := .int .i64 q2) (by omega) bel.out)
        replace C0 := Lib.hid ((C0.out.set (o) (.int .i64 q2)).of (m := (cdl d2)) (hP.out))
        refine wpAnyH_done (by kernel_rfl) ?_ _
        refine NoPanic.normal ?_
        go_wp2_with fail
        go_roundg g
        case measure => omega
        case rel => exact ⟨k + 1, by omega, by go_num, by rw [← hd2.out]; exact C0.out, R1.out, P3.out, bel.out⟩

end Clk
end Go.Proofs.Ytakbmdamegjdeaa
