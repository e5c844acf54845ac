/-
  What Root answers.
-/
import Derived.Test.YtkjdnmlaehjmgaaEltA
import Derived.Deep.LoopGhost
namespace Go.Proofs.Ytkjdnmlaehjmgaa
open Go.RowKit
namespace Elt
open Pre Crd Tre

set_option maxRecDepth 40000 in
set_option maxHeartbeats 8000000 in
theorem root_any (x : Td) (w : World) : Calls Try.prog 30 #[tdv x] w fun e w' => e = .returned (.tuple #[vv (rootR x).v, tmv (rootR x).t, .int .i64 (rootR x).p]) ∧ Below w.heap.size w w' := by
  have HO : Hid (∀ w, Calls Try.prog 34 #[.int .u64 x.id] w fun e w' => e = .returned (vv (ownV x.id)) ∧ Below w.heap.size w w') := Lib.hid (fun w => own_any x.id w)
  have HF := Lib.hid (fun c w => offers_any c x.id w)
  have HW := Lib.hid way_any
  have HB := Lib.hid better_any
  obtain ⟨o, ho⟩ : ∃ o, o = ownV x.id := ⟨_, rfl⟩
  rw [← ho] at HO
  replace ho := Lib.hid ho
  have T0 : Hid (Bx.Fre (w.alloc (tdo x)) w.heap.size (tdl x)) := Lib.hid (Bx.Fre.new w (tdl x) 31)
  have bel := Lib.hid (Bx.box_below w (tdo x))
  replace T0 := Lib.hid (T0.out.more (vo ⟨0, 0, 0, 0⟩))
  have R1 : Hid (Bx.Fre ((w.alloc (tdo x)).alloc (vo ⟨0, 0, 0, 0⟩)) (w.heap.size + 1) (enc ⟨0, 0, 0, 0⟩)) := Lib.hid (Bx.Fre.new_at (W := (w.alloc (tdo x))) (k := w.heap.size + 1) (enc ⟨0, 0, 0, 0⟩) 26 (by simp))
  replace bel := Lib.hid (Bx.bel_box bel.out (vo ⟨0, 0, 0, 0⟩))
  replace T0 := Lib.hid (T0.out.more (tmo ⟨0, 0, 0, 0⟩))
  replace R1 := Lib.hid (R1.out.more (tmo ⟨0, 0, 0, 0⟩))
  have R2 : Hid (Bx.Fre (((w.alloc (tdo x)).alloc (vo ⟨0, 0, 0, 0⟩)).alloc (tmo ⟨0, 0, 0, 0⟩)) (w.heap.size + 1 + 1) (tenc ⟨0, 0, 0, 0⟩)) := Lib.hid (Bx.Fre.new_at (W := ((w.alloc (tdo x)).alloc (vo ⟨0, 0, 0, 0⟩))) (k := w.heap.size + 1 + 1) (tenc ⟨0, 0, 0, 0⟩) 24 (by simp))
  replace bel := Lib.hid (Bx.bel_box bel.out (tmo ⟨0, 0, 0, 0⟩))
  go_enter Try.func30, Try.ntmps30
  go_wp2_with fail
  generalize (((w.alloc (tdo x)).alloc (vo ⟨0, 0, 0, 0⟩)).alloc (tmo ⟨0, 0, 0, 0⟩)) = W0 at *
  have T0_0 := T0.out.at 0 (v := .int .u64 x.id) rfl
  go_step3
  go_wp2_with fail
  clear T0_0
  refine (HO.out _).mono ?_; rintro e w1 ⟨rfl, hb⟩
  replace T0 := Lib.hid (T0.out.keep hb)
  replace R1 := Lib.hid (R1.out.keep hb)
  replace R2 := Lib.hid (R2.out.keep hb)
  replace bel := Lib.hid (Bx.then_below bel.out hb)
  clear hb
  have h5 : w.heap.size + 1 + 1 < w1.heap.size := R2.out.2.1
  replace T0 := Lib.hid (T0.out.more (vo o))
  replace R1 := Lib.hid (R1.out.more (vo o))
  replace R2 := Lib.hid (R2.out.more (vo o))
  have O5 : Hid (Bx.Fre (w1.alloc (vo o)) w1.heap.size (enc o)) := Lib.hid (Bx.Fre.new w1 (enc o) 26)
  replace bel := Lib.hid (Bx.bel_box bel.out (vo o))
  go_wp2_with (first | ((with_reducible refine td_load ?_ ?_ (w.heap.size) ?_ x ?_ ?_); (· rfl); (· rfl); (· rfl); (· exact T0.out.blk)) | ((with_reducible refine cs_load ?_ ?_ (w.heap.size) ?_ x ?_ ?_); (· rfl); (· rfl); (· rfl); (· exact T0.out.blk)))
  obtain ⟨k5, hk5⟩ : ∃ k, k = w1.heap.size := ⟨_, rfl⟩
  rw [← hk5] at O5 h5 ⊢
  generalize w1.alloc (vo o) = W2 at *
  clear hk5 W0
  go_step3
  go_wp2_with (first | ((with_reducible refine td_load ?_ ?_ (w.heap.size) ?_ x ?_ ?_); (· rfl); (· rfl); (· rfl); (· exact T0.out.blk)) | ((with_reducible refine cs_load ?_ ?_ (w.heap.size) ?_ x ?_ ?_); (· rfl); (· rfl); (· rfl); (· exact T0.out.blk)))
  go_loopg [15] 8 (fun g s15 wr => ∃ k : Nat, k + g = 8 ∧ s15 = .int .i64 k ∧ Aside (Bx.Fre wr w.heap.size (tdl x)) ∧ Aside (Bx.Fre wr (w.heap.size + 1) (enc ⟨0, 0, 0, 0⟩)) ∧ Aside (Bx.Fre wr (w.heap.size + 1 + 1) (tenc ⟨0, 0, 0, 0⟩)) ∧ Aside (Bx.Fre wr k5 (enc o)) ∧ Aside (Below w.heap.size w wr) ∧ Aside (∀ j, j < k → ¬ Goes x j))
  case atStart => exact ⟨0, by omega, rfl, T0.out, R1.out, R2.out, O5.out, bel.out, fun j h => by omega⟩
  case round =>
    clear T0 R1 R2 O5 bel W2
    obtain ⟨k, hkg, rfl, T0, R1, R2, O5, bel, HG⟩ := hrel
    cases gk with
    | zero =>
      have hkz : ¬ ((k : Int) < 8) := by omega
      obtain rfl : k = 8 := by omega
      have hR := Lib.hid (root_none x HG.out)
      rw [← ho.out] at hR
      clear HG
      have O5_0 := O5.out.at 0 rfl
      have O5_1 := O5.out.at 1 rfl
      have O5_2 := O5.out.at 2 rfl
      have O5_3 := O5.out.at 3 rfl
      have T0_1 := T0.out.at 1 (v := .int .i64 x.own.a) rfl
      have T0_2 := T0.out.at 2 (v := .int .i64 x.own.m) rfl
      have T0_3 := T0.out.at 3 (v := .int .i64 x.own.h) rfl
      have T0_4 := T0.out.at 4 (v := .int .i64 x.own.d) rfl
      have R1_0 := R1.out.at 0 rfl
      have R1_1 := R1.out.at 1 rfl
      have R1_2 := R1.out.at 2 rfl
      have R1_3 := R1.out.at 3 rfl
      have R2_0 := R2.out.at 0 rfl
      have R2_1 := R2.out.at 1 rfl
      have R2_2 := R2.out.at 2 rfl
      have R2_3 := R2.out.at 3 rfl
      go_wp2_with (first | ((with_reducible refine td_load ?_ ?_ (w.heap.size) ?_ x ?_ ?_); (· rfl); (· rfl); (· rfl); (· exact T0.out.blk)) | ((with_reducible refine cs_load ?_ ?_ (w.heap.size) ?_ x ?_ ?_); (· rfl); (· rfl); (· rfl); (· exact T0.out.blk)))
      refine wp_region_noPanic ?_
      refine wp_region_held_drew (S := fun w' => w'.cell? ⟨k5, 0, none⟩ = some (.int .u64 o.r) ∧ w'.cell? ⟨k5, 1, none⟩ = some (.int .u64 o.c) ∧ w'.cell? ⟨k5, 2, none⟩ = some (.int .u64 o.b) ∧ w'.cell? ⟨k5, 3, none⟩ = some (.int .i64 o.p) ∧ w'.cell? ⟨w.heap.size, 1, none⟩ = some (.int .i64 x.own.a) ∧ w'.cell? ⟨w.heap.size, 2, none⟩ = some (.int .i64 x.own.m) ∧ w'.cell? ⟨w.heap.size, 3, none⟩ = some (.int .i64 x.own.h) ∧ w'.cell? ⟨w.heap.size, 4, none⟩ = some (.int .i64 x.own.d)) (by kernel_rfl) (by exact ⟨O5.out.at 0 rfl, O5.out.at 1 rfl, O5.out.at 2 rfl, O5.out.at 3 rfl, T0.out.at 1 (v := .int .i64 x.own.a) rfl, T0.out.at 2 (v := .int .i64 x.own.m) rfl, T0.out.at 3 (v := .int .i64 x.own.h) rfl, T0.out.at 4 (v := .int .i64 x.own.d) rfl⟩) (fun hHeld => ?_)
      replace bel := Lib.hid (Bx.bel_drewn bel.out)
      replace T0 := Lib.hid (T0.out.drew)
      replace R1 := Lib.hid (R1.out.drew)
      replace R2 := Lib.hid (R2.out.drew)
      replace O5 := Lib.hid (O5.out.drew)
      refine wpAnyH_take (i := 0) (oi := ?oz1x0) (v := ?vz1x0) ?hiz1x0 (by kernel_rfl) (by kernel_rfl) (by kernel_rfl) (fun _ _ _ h => h) ?yz1x0 (by assumption) ?rz1x0
      case hiz1x0 => (simp only [List.getElem?_toArray, List.getElem?_cons_zero]; rfl)
      case yz1x0 => (refine Or.inl ⟨by rfl, ?_⟩; intro w' hSw; (try dsimp only at hSw); go_simp; (try with_reducible rfl))
      try simp only [Act.put, List.setIfInBounds_toArray, List.set_cons_zero, List.set_cons_succ]
      refine wpAnyH_take (i := 1) (oi := ?oz1x1) (v := ?vz1x1) ?hiz1x1 (by kernel_rfl) (by kernel_rfl) (by kernel_rfl) (fun _ _ _ h => h) ?yz1x1 (by assumption) ?rz1x1
      case hiz1x1 => (simp only [List.getElem?_toArray, List.getElem?_cons_succ, List.getElem?_cons_zero]; rfl)
      case yz1x1 => (refine Or.inl ⟨by rfl, ?_⟩; intro w' hSw; (try dsimp only at hSw); go_simp; (try with_reducible rfl))
      try simp only [Act.put, List.setIfInBounds_toArray, List.set_cons_zero, List.set_cons_succ]
      refine wpAnyH_take (i := 2) (oi := ?oz1x2) (v := ?vz1x2) ?hiz1x2 (by kernel_rfl) (by kernel_rfl) (by kernel_rfl) (fun _ _ _ h => h) ?yz1x2 (by assumption) ?rz1x2
      case hiz1x2 => (simp only [List.getElem?_toArray, List.getElem?_cons_succ, List.getElem?_cons_zero]; rfl)
      case yz1x2 => (refine Or.inl ⟨by rfl, ?_⟩; intro w' hSw; (try dsimp only at hSw); go_simp; (try with_reducible rfl))
      try simp only [Act.put, List.setIfInBounds_toArray, List.set_cons_zero, List.set_cons_succ]
      refine wpAnyH_ready (rs := [3]) (by kernel_rfl) (by simp) ?_
      refine AllReadyH.cons (o := ?oz1x3) ?hiz1x3 ?hstz1x3 AllReadyH.nil
      case hiz1x3 => (simp only [List.getElem?_toArray, List.getElem?_cons_succ, List.getElem?_cons_zero]; rfl)
      intro K hK
      rw [if_pos (by rfl)]
      refine vec_wp rfl (w.heap.size + 1) 0 rfl o rfl (enc ⟨0, 0, 0, 0⟩) (by simp [enc]) R1.out ?_
      refine hK.out _ _ ⟨Bx.cell_apart_at _ _ (by omega) hHeld.1, Bx.cell_apart_at _ _ (by omega) hHeld.2.1, Bx.cell_apart_at _ _ (by omega) hHeld.2.2.1, Bx.cell_apart_at _ _ (by omega) hHeld.2.2.2.1, Bx.cell_apart_at _ _ (by omega) hHeld.2.2.2.2.1, Bx.cell_apart_at _ _ (by omega) hHeld.2.2.2.2.2.1, Bx.cell_apart_at _ _ (by omega) hHeld.2.2.2.2.2.2.1, Bx.cell_apart_at _ _ (by omega) hHeld.2.2.2.2.2.2.2⟩ (fun hNew => ?_)
      clear hHeld
      have hHeld := hNew
      clear hNew hK K
      try simp only [Act.put]
      replace bel := Lib.hid (Bx.bel_put_at (k := w.heap.size + 1) (enc o) 0 (by omega) bel.out)
      replace T0 := Lib.hid (Bx.Fre.apart_at (k' := w.heap.size + 1) (enc o) 0 (by omega) T0.out)
      replace R1 := Lib.hid (Bx.Fre.put_at (enc o) 0 R1.out)
      replace R2 := Lib.hid (Bx.Fre.apart_at (k' := w.heap.size + 1) (enc o) 0 (by omega) R2.out)
      replace O5 := Lib.hid (Bx.Fre.apart_at (k' := w.heap.size + 1) (enc o) 0 (by omega) O5.out)
      refine wpAnyH_ready (rs := [4]) (by kernel_rfl) (by simp) ?_
      refine AllReadyH.cons (o := ?oz1x4) ?hiz1x4 ?hstz1x4 AllReadyH.nil
      case hiz1x4 => (simp only [List.getElem?_toArray, List.getElem?_cons_succ, List.getElem?_cons_zero]; rfl)
      intro K hK
      rw [if_pos (by rfl)]
      refine tm_wp rfl (w.heap.size + 1 + 1) 0 rfl x.own rfl (tenc ⟨0, 0, 0, 0⟩) (by simp [tenc]) R2.out ?_
      refine hK.out _ _ ⟨Bx.cell_apart_at _ _ (by omega) hHeld.1, Bx.cell_apart_at _ _ (by omega) hHeld.2.1, Bx.cell_apart_at _ _ (by omega) hHeld.2.2.1, Bx.cell_apart_at _ _ (by omega) hHeld.2.2.2.1, Bx.cell_apart_at _ _ (by omega) hHeld.2.2.2.2.1, Bx.cell_apart_at _ _ (by omega) hHeld.2.2.2.2.2.1, Bx.cell_apart_at _ _ (by omega) hHeld.2.2.2.2.2.2.1, Bx.cell_apart_at _ _ (by omega) hHeld.2.2.2.2.2.2.2⟩ (fun hNew => ?_)
      clear hHeld
      have hHeld := hNew
      clear hNew hK K
      try simp only [Act.put]
      replace bel := Lib.hid (Bx.bel_put_at (k := w.heap.size + 1 + 1) (tenc x.own) 0 (by omega) bel.out)
      replace T0 := Lib.hid (Bx.Fre.apart_at (k' := w.heap.size + 1 + 1) (tenc x.own) 0 (by omega) T0.out)
      replace R1 := Lib.hid (Bx.Fre.apart_at (k' := w.heap.size + 1 + 1) (tenc x.own) 0 (by omega) R1.out)
      replace R2 := Lib.hid (Bx.Fre.put_at (tenc x.own) 0 R2.out)
      replace O5 := Lib.hid (Bx.Fre.apart_at (k' := w.heap.size + 1 + 1) (tenc x.own) 0 (by omega) O5.out)
      refine wpAnyH_take (i := 5) (oi := ?oz1x5) (v := ?vz1x5) ?hiz1x5 (by kernel_rfl) (by kernel_rfl) (by kernel_rfl) (fun _ _ _ h => h) ?yz1x5 (by assumption) ?rz1x5
      case hiz1x5 => (simp only [List.getElem?_toArray, List.getElem?_cons_succ, List.getElem?_cons_zero]; rfl)
      case yz1x5 => (refine Or.inl ⟨by rfl, ?_⟩; intro w' hSw; (try dsimp only at hSw); go_simp; (try with_reducible rfl))
      try simp only [Act.put, List.setIfInBounds_toArray, List.set_cons_zero, List.set_cons_succ]
      refine wpAnyH_done (by kernel_rfl) ?_ _
      refine NoPanic.normal ?_
      clear hHeld
      go_wp2_with fail
      try rw [Exit.noGoto_ret]
      refine bodyPost_ret (v := .tuple #[vv o, tmv x.own, .int .i64 (-1)]) (root_result Try.results30 rfl rfl rfl (R1.out.blk : Bx.Blk _ _ (enc o)) (R2.out.blk : Bx.Blk _ _ (tenc x.own))) rfl ⟨by rw [hR.out], bel.out⟩
    | succ g =>
      have hkz : (k : Int) < 8 := by omega
      have hk : k < 8 := by omega
      have hix := index_at x.cs k hk
      have HL := Lib.hid (root_at x k hk)
      have hgo : Goes x k = (offB (x.cs k) x.id = true ∧ ltV (wayV (x.cs k)) o = true ∧ ∀ j, j < 8 → offB (x.cs j) x.id = true → ltV (wayV (x.cs j)) (wayV (x.cs k)) = false) := by rw [ho.out]; rfl
      replace hgo := Lib.hid hgo
      obtain ⟨c, hc⟩ : ∃ c, c = x.cs k := ⟨_, rfl⟩
      rw [← hc] at hix HL hgo
      clear hc
      have h75 : k5 < wr.heap.size := O5.out.2.1
      have h72 : w.heap.size + 1 + 1 < wr.heap.size := R2.out.2.1
      replace T0 := Lib.hid (T0.out.more (cdo c))
      replace R1 := Lib.hid (R1.out.more (cdo c))
      replace R2 := Lib.hid (R2.out.more (cdo c))
      replace O5 := Lib.hid (O5.out.more (cdo c))
      have C7 : Hid (Bx.Fre (wr.alloc (cdo c)) wr.heap.size (cdl c)) := Lib.hid (Bx.Fre.new wr (cdl c) 28)
      replace bel := Lib.hid (Bx.bel_box bel.out (cdo c))
      go_wp2_with (first | ((with_reducible refine cd_fresh ?_ ?_ (wr.heap.size) c ?_ ?_ wr (cdl Cd.zero) ?_ ?_ ?_ ?_); (· rfl); (· rfl); (· rfl); (· rfl); (· rfl); (· rfl); (· first | rfl | (simp; done))) | ((with_reducible refine td_load ?_ ?_ (w.heap.size) ?_ x ?_ ?_); (· rfl); (· rfl); (· rfl); (· exact T0.out.blk)) | ((with_reducible refine cs_load ?_ ?_ (w.heap.size) ?_ x ?_ ?_); (· rfl); (· rfl); (· rfl); (· exact T0.out.blk)) | ((with_reducible refine cd_load ?_ ?_ (wr.heap.size) ?_ c ?_ ?_); (· rfl); (· rfl); (· rfl); (· exact C7.out.blk)))
      clear hix
      obtain ⟨k7, hk7⟩ : ∃ k, k = wr.heap.size := ⟨_, rfl⟩
      rw [← hk7] at C7 h75 h72 ⊢
      generalize wr.alloc (cdo c) = w0 at *
      clear hk7 wr
      cases hof : offB c x.id with
      | false =>
        have HFc : Hid (∀ w, Calls Try.prog 35 #[cdv c, .int .u64 x.id] w fun e w' => e = .returned (.bool false) ∧ Below w.heap.size w w') := Lib.hid (fun w => by have h := HF.out c w; rw [hof] at h; exact h)
        replace hof := Lib.hid hof
        refine wp_region_noPanic ?_
        refine wp_region_held_drew (S := fun w' => Bx.Blk w' k7 (cdl c) ∧ w'.cell? ⟨w.heap.size, 0, none⟩ = some (.int .u64 x.id) ∧ w'.cell? ⟨k5, 0, none⟩ = some (.int .u64 o.r) ∧ w'.cell? ⟨k5, 1, none⟩ = some (.int .u64 o.c) ∧ w'.cell? ⟨k5, 2, none⟩ = some (.int .u64 o.b) ∧ w'.cell? ⟨k5, 3, none⟩ = some (.int .i64 o.p)) (by kernel_rfl) (by exact ⟨C7.out.blk, T0.out.at 0 (v := .int .u64 x.id) rfl, O5.out.at 0 rfl, O5.out.at 1 rfl, O5.out.at 2 rfl, O5.out.at 3 rfl⟩) (fun hHeld => ?_)
        replace bel := Lib.hid (Bx.bel_drewn bel.out)
        replace T0 := Lib.hid (T0.out.drew)
        replace R1 := Lib.hid (R1.out.drew)
        replace R2 := Lib.hid (R2.out.drew)
        replace O5 := Lib.hid (O5.out.drew)
        replace C7 := Lib.hid (C7.out.drew)
        refine wpAnyH_take (i := 0) (oi := ?oz2x0) (v := cdv c) ?hiz2x0 (by kernel_rfl) (by kernel_rfl) (by kernel_rfl) (fun _ _ _ h => h) ?yz2x0 (by assumption) ?rz2x0
        case hiz2x0 => (simp only [List.getElem?_toArray, List.getElem?_cons_zero]; rfl)
        case yz2x0 => (refine cd_yields rfl rfl (k7) rfl c ?_; intro w' hS; exact hS.1)
        try simp only [Act.put, List.setIfInBounds_toArray, List.set_cons_zero, List.set_cons_succ]
        refine wpAnyH_take (i := 1) (oi := ?oz2x1) (v := ?vz2x1) ?hiz2x1 (by kernel_rfl) (by kernel_rfl) (by kernel_rfl) (fun _ _ _ h => h) ?yz2x1 (by assumption) ?rz2x1
        case hiz2x1 => (simp only [List.getElem?_toArray, List.getElem?_cons_succ, List.getElem?_cons_zero]; rfl)
        case yz2x1 => (refine Or.inl ⟨by rfl, ?_⟩; intro w' hSw; (try dsimp only at hSw); go_simp; (try with_reducible rfl))
        try simp only [Act.put, List.setIfInBounds_toArray, List.set_cons_zero, List.set_cons_succ]
        refine wpAnyH_take (i := 2) (oi := ?oz2x2) (v := ?vz2x2) ?hiz2x2 (by kernel_rfl) (by kernel_rfl) (by kernel_rfl) (fun _ _ _ h => h) ?yz2x2 (by assumption) ?rz2x2
        case hiz2x2 => (simp only [List.getElem?_toArray, List.getElem?_cons_succ, List.getElem?_cons_zero]; rfl)
        case yz2x2 => (refine Or.inl ⟨by rfl, ?_⟩; intro w' hSw; (try dsimp only at hSw); go_simp; (try with_reducible rfl))
        try simp only [Act.put, List.setIfInBounds_toArray, List.set_cons_zero, List.set_cons_succ]
        refine wpAnyH_ready (rs := [3]) (by kernel_rfl) (by simp) ?_
        refine AllReadyH.cons (o := ?oz2x3) ?hiz2x3 ?hstz2x3 AllReadyH.nil
        case hiz2x3 => (simp only [List.getElem?_toArray, List.getElem?_cons_succ, List.getElem?_cons_zero]; rfl)
        intro K hK
        go_simp
        (go_at_call 35; (with_reducible refine (HFc.out _).mono ?_); rintro e w1 ⟨rfl, hb1⟩)
        go_wp2_with fail
        refine hK.out _ _ ⟨Bx.Blk.keep hHeld.1 hb1, Bx.keep_cell hb1 hHeld.2.1, Bx.keep_cell hb1 hHeld.2.2.1, Bx.keep_cell hb1 hHeld.2.2.2.1, Bx.keep_cell hb1 hHeld.2.2.2.2.1, Bx.keep_cell hb1 hHeld.2.2.2.2.2⟩ (fun hNew => ?_)
        clear hHeld
        have hHeld := hNew
        clear hNew hK K
        replace bel := Lib.hid (Bx.then_below bel.out hb1)
        replace T0 := Lib.hid (T0.out.keep hb1)
        replace R1 := Lib.hid (R1.out.keep hb1)
        replace R2 := Lib.hid (R2.out.keep hb1)
        replace O5 := Lib.hid (O5.out.keep hb1)
        replace C7 := Lib.hid (C7.out.keep hb1)
        clear hb1
        refine wpAnyH_take (i := 4) (oi := ?oz2x4) (v := ?vz2x4) ?hiz2x4 (by kernel_rfl) (by kernel_rfl) (by kernel_rfl) (fun _ _ _ h => h) ?yz2x4 (by assumption) ?rz2x4
        case hiz2x4 => (simp only [List.getElem?_toArray, List.getElem?_cons_succ, List.getElem?_cons_zero]; rfl)
        case yz2x4 => (refine Or.inl ⟨by rfl, ?_⟩; intro w' hSw; (try dsimp only at hSw); go_simp; (try with_reducible rfl))
        try simp only [Act.put, List.setIfInBounds_toArray, List.set_cons_zero, List.set_cons_succ]
        refine wpAnyH_take (i := 5) (oi := ?oz2x5) (v := ?vz2x5) ?hiz2x5 (by kernel_rfl) (by kernel_rfl) (by kernel_rfl) (fun _ _ _ h => h) ?yz2x5 (by assumption) ?rz2x5
        case hiz2x5 => (simp only [List.getElem?_toArray, List.getElem?_cons_succ, List.getElem?_cons_zero]; rfl)
        case yz2x5 => (refine Or.inl ⟨by rfl, ?_⟩; intro w' hSw; (try dsimp only at hSw); go_simp; (try with_reducible rfl))
        try simp only [Act.put, List.setIfInBounds_toArray, List.set_cons_zero, List.set_cons_succ]
        refine wpAnyH_take (i := 6) (oi := ?oz2x6) (v := undef) ?hiz2x6 (by kernel_rfl) (by kernel_rfl) (by kernel_rfl) (fun _ _ _ h => h) ?yz2x6 (by assumption) ?rz2x6
        case hiz2x6 => (simp only [List.getElem?_toArray, List.getElem?_cons_succ, List.getElem?_cons_zero]; rfl)
        case yz2x6 => exact Or.inr ⟨by rfl, rfl⟩
        try simp only [Act.put, List.setIfInBounds_toArray, List.set_cons_zero, List.set_cons_succ]
        refine wpAnyH_take (i := 7) (oi := ?oz2x7) (v := undef) ?hiz2x7 (by kernel_rfl) (by kernel_rfl) (by kernel_rfl) (fun _ _ _ h => h) ?yz2x7 (by assumption) ?rz2x7
        case hiz2x7 => (simp only [List.getElem?_toArray, List.getElem?_cons_succ, List.getElem?_cons_zero]; rfl)
        case yz2x7 => exact Or.inr ⟨by rfl, rfl⟩
        try simp only [Act.put, List.setIfInBounds_toArray, List.set_cons_zero, List.set_cons_succ]
        refine wpAnyH_take (i := 8) (oi := ?oz2x8) (v := undef) ?hiz2x8 (by kernel_rfl) (by kernel_rfl) (by kernel_rfl) (fun _ _ _ h => h) ?yz2x8 (by assumption) ?rz2x8
        case hiz2x8 => (simp only [List.getElem?_toArray, List.getElem?_cons_succ, List.getElem?_cons_zero]; rfl)
        case yz2x8 => exact Or.inr ⟨by rfl, rfl⟩
        try simp only [Act.put, List.setIfInBounds_toArray, List.set_cons_zero, List.set_cons_succ]
        refine wpAnyH_take (i := 9) (oi := ?oz2x9) (v := undef) ?hiz2x9 (by kernel_rfl) (by kernel_rfl) (by kernel_rfl) (fun _ _ _ h => h) ?yz2x9 (by assumption) ?rz2x9
        case hiz2x9 => (simp only [List.getElem?_toArray, List.getElem?_cons_succ, List.getElem?_cons_zero]; rfl)
        case yz2x9 => exact Or.inr ⟨by rfl, rfl⟩
        try simp only [Act.put, List.setIfInBounds_toArray, List.set_cons_zero, List.set_cons_succ]
        refine wpAnyH_take (i := 10) (oi := ?oz2x10) (v := undef) ?hiz2x10 (by kernel_rfl) (by kernel_rfl) (by kernel_rfl) (fun _ _ _ h => h) ?yz2x10 (by assumption) ?rz2x10
        case hiz2x10 => (simp only [List.getElem?_toArray, List.getElem?_cons_succ, List.getElem?_cons_zero]; rfl)
        case yz2x10 => exact Or.inr ⟨by rfl, rfl⟩
        try simp only [Act.put, List.setIfInBounds_toArray, List.set_cons_zero, List.set_cons_succ]
        refine wpAnyH_take (i := 11) (oi := ?oz2x11) (v := ?vz2x11) ?hiz2x11 (by kernel_rfl) (by kernel_rfl) (by kernel_rfl) (fun _ _ _ h => h) ?yz2x11 (by assumption) ?rz2x11
        case hiz2x11 => (simp only [List.getElem?_toArray, List.getElem?_cons_succ, List.getElem?_cons_zero]; rfl)
        case yz2x11 => (refine Or.inl ⟨by rfl, ?_⟩; intro w' hSw; (try dsimp only at hSw); go_simp; (try with_reducible rfl))
        try simp only [Act.put, List.setIfInBounds_toArray, List.set_cons_zero, List.set_cons_succ]
        refine wpAnyH_done (by kernel_rfl) ?_ _
        refine NoPanic.normal ?_
        clear hHeld
        go_wp2_with fail
        go_roundg g
        case measure => omega
        case rel => exact ⟨k + 1, by omega, by go_num, T0.out, R1.out, R2.out, O5.out, bel.out, fun j hj => if e : j = k then (by subst e; rw [hgo.out]; rintro ⟨h, _⟩; rw [hof.out] at h; cases h) else HG.out j (by omega)⟩
      | true =>
        have HFc : Hid (∀ w, Calls Try.prog 35 #[cdv c, .int .u64 x.id] w fun e w' => e = .returned (.bool true) ∧ Below w.heap.size w w') := Lib.hid (fun w => by have h := HF.out c w; rw [hof] at h; exact h)
        have HWc := Lib.hid (HW.out c)
        cases hlt : ltV (wayV c) o with
        | false =>
          have HBc : Hid (∀ w, Calls Try.prog 33 #[vv (wayV c), vv (o)] w fun e w' => e = .returned (.bool false) ∧ Below w.heap.size w w') := Lib.hid (fun w => by have h := HB.out (wayV c) (o) w; rw [hlt] at h; exact h)
          replace hlt := Lib.hid hlt
          refine wp_region_noPanic ?_
          refine wp_region_held_drew (S := fun w' => Bx.Blk w' k7 (cdl c) ∧ w'.cell? ⟨w.heap.size, 0, none⟩ = some (.int .u64 x.id) ∧ w'.cell? ⟨k5, 0, none⟩ = some (.int .u64 o.r) ∧ w'.cell? ⟨k5, 1, none⟩ = some (.int .u64 o.c) ∧ w'.cell? ⟨k5, 2, none⟩ = some (.int .u64 o.b) ∧ w'.cell? ⟨k5, 3, none⟩ = some (.int .i64 o.p)) (by kernel_rfl) (by exact ⟨C7.out.blk, T0.out.at 0 (v := .int .u64 x.id) rfl, O5.out.at 0 rfl, O5.out.at 1 rfl, O5.out.at 2 rfl, O5.out.at 3 rfl⟩) (fun hHeld => ?_)
          replace bel := Lib.hid (Bx.bel_drewn bel.out)
          replace T0 := Lib.hid (T0.out.drew)
          replace R1 := Lib.hid (R1.out.drew)
          replace R2 := Lib.hid (R2.out.drew)
          replace O5 := Lib.hid (O5.out.drew)
          replace C7 := Lib.hid (C7.out.drew)
          refine wpAnyH_take (i := 0) (oi := ?oz3x0) (v := cdv c) ?hiz3x0 (by kernel_rfl) (by kernel_rfl) (by kernel_rfl) (fun _ _ _ h => h) ?yz3x0 (by assumption) ?rz3x0
          case hiz3x0 => (simp only [List.getElem?_toArray, List.getElem?_cons_zero]; rfl)
          case yz3x0 => (refine cd_yields rfl rfl (k7) rfl c ?_; intro w' hS; exact hS.1)
          try simp only [Act.put, List.setIfInBounds_toArray, List.set_cons_zero, List.set_cons_succ]
          refine wpAnyH_take (i := 1) (oi := ?oz3x1) (v := ?vz3x1) ?hiz3x1 (by kernel_rfl) (by kernel_rfl) (by kernel_rfl) (fun _ _ _ h => h) ?yz3x1 (by assumption) ?rz3x1
          case hiz3x1 => (simp only [List.getElem?_toArray, List.getElem?_cons_succ, List.getElem?_cons_zero]; rfl)
          case yz3x1 => (refine Or.inl ⟨by rfl, ?_⟩; intro w' hSw; (try dsimp only at hSw); go_simp; (try with_reducible rfl))
          try simp only [Act.put, List.setIfInBounds_toArray, List.set_cons_zero, List.set_cons_succ]
          refine wpAnyH_take (i := 2) (oi := ?oz3x2) (v := ?vz3x2) ?hiz3x2 (by kernel_rfl) (by kernel_rfl) (by kernel_rfl) (fun _ _ _ h => h) ?yz3x2 (by assumption) ?rz3x2
          case hiz3x2 => (simp only [List.getElem?_toArray, List.getElem?_cons_succ, List.getElem?_cons_zero]; rfl)
          case yz3x2 => (refine Or.inl ⟨by rfl, ?_⟩; intro w' hSw; (try dsimp only at hSw); go_simp; (try with_reducible rfl))
          try simp only [Act.put, List.setIfInBounds_toArray, List.set_cons_zero, List.set_cons_succ]
          refine wpAnyH_ready (rs := [3]) (by kernel_rfl) (by simp) ?_
          refine AllReadyH.cons (o := ?oz3x3) ?hiz3x3 ?hstz3x3 AllReadyH.nil
          case hiz3x3 => (simp only [List.getElem?_toArray, List.getElem?_cons_succ, List.getElem?_cons_zero]; rfl)
          intro K hK
          go_simp
          (go_at_call 35; (with_reducible refine (HFc.out _).mono ?_); rintro e w1 ⟨rfl, hb1⟩)
          go_wp2_with fail
          refine hK.out _ _ ⟨Bx.Blk.keep hHeld.1 hb1, Bx.keep_cell hb1 hHeld.2.1, Bx.keep_cell hb1 hHeld.2.2.1, Bx.keep_cell hb1 hHeld.2.2.2.1, Bx.keep_cell hb1 hHeld.2.2.2.2.1, Bx.keep_cell hb1 hHeld.2.2.2.2.2⟩ (fun hNew => ?_)
          clear hHeld
          have hHeld := hNew
          clear hNew hK K
          replace bel := Lib.hid (Bx.then_below bel.out hb1)
          replace T0 := Lib.hid (T0.out.keep hb1)
          replace R1 := Lib.hid (R1.out.keep hb1)
          replace R2 := Lib.hid (R2.out.keep hb1)
          replace O5 := Lib.hid (O5.out.keep hb1)
          replace C7 := Lib.hid (C7.out.keep hb1)
          clear hb1
          refine wpAnyH_take (i := 4) (oi := ?oz3x4) (v := ?vz3x4) ?hiz3x4 (by kernel_rfl) (by kernel_rfl) (by kernel_rfl) (fun _ _ _ h => h) ?yz3x4 (by assumption) ?rz3x4
          case hiz3x4 => (simp only [List.getElem?_toArray, List.getElem?_cons_succ, List.getElem?_cons_zero]; rfl)
          case yz3x4 => (refine Or.inl ⟨by rfl, ?_⟩; intro w' hSw; (try dsimp only at hSw); go_simp; (try with_reducible rfl))
          try simp only [Act.put, List.setIfInBounds_toArray, List.set_cons_zero, List.set_cons_succ]
          refine wpAnyH_take (i := 5) (oi := ?oz3x5) (v := ?vz3x5) ?hiz3x5 (by kernel_rfl) (by kernel_rfl) (by kernel_rfl) (fun _ _ _ h => h) ?yz3x5 (by assumption) ?rz3x5
          case hiz3x5 => (simp only [List.getElem?_toArray, List.getElem?_cons_succ, List.getElem?_cons_zero]; rfl)
          case yz3x5 => (refine Or.inl ⟨by rfl, ?_⟩; intro w' hSw; (try dsimp only at hSw); go_simp; (try with_reducible rfl))
          try simp only [Act.put, List.setIfInBounds_toArray, List.set_cons_zero, List.set_cons_succ]
          refine wpAnyH_take (i := 6) (oi := ?oz3x6) (v := cdv c) ?hiz3x6 (by kernel_rfl) (by kernel_rfl) (by kernel_rfl) (fun _ _ _ h => h) ?yz3x6 (by assumption) ?rz3x6
          case hiz3x6 => (simp only [List.getElem?_toArray, List.getElem?_cons_succ, List.getElem?_cons_zero]; rfl)
          case yz3x6 => (refine cd_yields rfl rfl (k7) rfl c ?_; intro w' hS; exact hS.1)
          try simp only [Act.put, List.setIfInBounds_toArray, List.set_cons_zero, List.set_cons_succ]
          refine wpAnyH_take (i := 8) (oi := ?oz3x8) (v := ?vz3x8) ?hiz3x8 (by kernel_rfl) (by kernel_rfl) (by kernel_rfl) (fun _ _ _ h => h) ?yz3x8 (by assumption) ?rz3x8
          case hiz3x8 => (simp only [List.getElem?_toArray, List.getElem?_cons_succ, List.getElem?_cons_zero]; rfl)
          case yz3x8 => (refine Or.inl ⟨by rfl, ?_⟩; intro w' hSw; (try dsimp only at hSw); go_simp; (try with_reducible rfl))
          try simp only [Act.put, List.setIfInBounds_toArray, List.set_cons_zero, List.set_cons_succ]
          refine wpAnyH_ready (rs := [7]) (by kernel_rfl) (by simp) ?_
          refine AllReadyH.cons (o := ?oz3x7) ?hiz3x7 ?hstz3x7 AllReadyH.nil
          case hiz3x7 => (simp only [List.getElem?_toArray, List.getElem?_cons_succ, List.getElem?_cons_zero]; rfl)
          intro K hK
          go_simp
          (go_at_call 36; (with_reducible refine (HWc.out _).mono ?_); rintro e w2 ⟨rfl, hb2⟩)
          go_wp2_with fail
          refine hK.out _ _ ⟨Bx.Blk.keep hHeld.1 hb2, Bx.keep_cell hb2 hHeld.2.1, Bx.keep_cell hb2 hHeld.2.2.1, Bx.keep_cell hb2 hHeld.2.2.2.1, Bx.keep_cell hb2 hHeld.2.2.2.2.1, Bx.keep_cell hb2 hHeld.2.2.2.2.2⟩ (fun hNew => ?_)
          clear hHeld
          have hHeld := hNew
          clear hNew hK K
          replace bel := Lib.hid (Bx.then_below bel.out hb2)
          replace T0 := Lib.hid (T0.out.keep hb2)
          replace R1 := Lib.hid (R1.out.keep hb2)
          replace R2 := Lib.hid (R2.out.keep hb2)
          replace O5 := Lib.hid (O5.out.keep hb2)
          replace C7 := Lib.hid (C7.out.keep hb2)
          clear hb2
          refine wpAnyH_ready (rs := [9]) (by kernel_rfl) (by simp) ?_
          refine AllReadyH.cons (o := ?oz3x9) ?hiz3x9 ?hstz3x9 AllReadyH.nil
          case hiz3x9 => (simp only [List.getElem?_toArray, List.getElem?_cons_succ, List.getElem?_cons_zero]; rfl)
          intro K hK
          go_simp
          (go_at_call 33; (with_reducible refine (HBc.out _).mono ?_); rintro e w3 ⟨rfl, hb3⟩)
          go_wp2_with fail
          refine hK.out _ _ ⟨Bx.Blk.keep hHeld.1 hb3, Bx.keep_cell hb3 hHeld.2.1, Bx.keep_cell hb3 hHeld.2.2.1, Bx.keep_cell hb3 hHeld.2.2.2.1, Bx.keep_cell hb3 hHeld.2.2.2.2.1, Bx.keep_cell hb3 hHeld.2.2.2.2.2⟩ (fun hNew => ?_)
          clear hHeld
          have hHeld := hNew
          clear hNew hK K
          replace bel := Lib.hid (Bx.then_below bel.out hb3)
          replace T0 := Lib.hid (T0.out.keep hb3)
          replace R1 := Lib.hid (R1.out.keep hb3)
          replace R2 := Lib.hid (R2.out.keep hb3)
          replace O5 := Lib.hid (O5.out.keep hb3)
          replace C7 := Lib.hid (C7.out.keep hb3)
          clear hb3
          refine wpAnyH_take (i := 10) (oi := ?oz3x10) (v := ?vz3x10) ?hiz3x10 (by kernel_rfl) (by kernel_rfl) (by kernel_rfl) (fun _ _ _ h => h) ?yz3x10 (by assumption) ?rz3x10
          case hiz3x10 => (simp only [List.getElem?_toArray, List.getElem?_cons_succ, List.getElem?_cons_zero]; rfl)
          case yz3x10 => (refine Or.inl ⟨by rfl, ?_⟩; intro w' hSw; (try dsimp only at hSw); go_simp; (try with_reducible rfl))
          try simp only [Act.put, List.setIfInBounds_toArray, List.set_cons_zero, List.set_cons_succ]
          refine wpAnyH_take (i := 11) (oi := ?oz3x11) (v := ?vz3x11) ?hiz3x11 (by kernel_rfl) (by kernel_rfl) (by kernel_rfl) (fun _ _ _ h => h) ?yz3x11 (by assumption) ?rz3x11
          case hiz3x11 => (simp only [List.getElem?_toArray, List.getElem?_cons_succ, List.getElem?_cons_zero]; rfl)
          case yz3x11 => (refine Or.inl ⟨by rfl, ?_⟩; intro w' hSw; (try dsimp only at hSw); go_simp; (try with_reducible rfl))
          try simp only [Act.put, List.setIfInBounds_toArray, List.set_cons_zero, List.set_cons_succ]
          refine wpAnyH_done (by kernel_rfl) ?_ _
          refine NoPanic.normal ?_
          clear hHeld
          go_wp2_with fail
          go_roundg g
          case measure => omega
          case rel => exact ⟨k + 1, by omega, by go_num, T0.out, R1.out, R2.out, O5.out, bel.out, fun j hj => if e : j = k then (by subst e; rw [hgo.out]; rintro ⟨_, h, _⟩; rw [hlt.out] at h; cases h) else HG.out j (by omega)⟩
        | true =>
          have HBc : Hid (∀ w, Calls Try.prog 33 #[vv (wayV c), vv (o)] w fun e w' => e = .returned (.bool true) ∧ Below w.heap.size w w') := Lib.hid (fun w => by have h := HB.out (wayV c) (o) w; rw [hlt] at h; exact h)
          replace hlt := Lib.hid hlt
          replace hof := Lib.hid hof
          refine wp_region_noPanic ?_
          refine wp_region_held_drew (S := fun w' => Bx.Blk w' k7 (cdl c) ∧ w'.cell? ⟨w.heap.size, 0, none⟩ = some (.int .u64 x.id) ∧ w'.cell? ⟨k5, 0, none⟩ = some (.int .u64 o.r) ∧ w'.cell? ⟨k5, 1, none⟩ = some (.int .u64 o.c) ∧ w'.cell? ⟨k5, 2, none⟩ = some (.int .u64 o.b) ∧ w'.cell? ⟨k5, 3, none⟩ = some (.int .i64 o.p)) (by kernel_rfl) (by exact ⟨C7.out.blk, T0.out.at 0 (v := .int .u64 x.id) rfl, O5.out.at 0 rfl, O5.out.at 1 rfl, O5.out.at 2 rfl, O5.out.at 3 rfl⟩) (fun hHeld => ?_)
          replace bel := Lib.hid (Bx.bel_drewn bel.out)
          replace T0 := Lib.hid (T0.out.drew)
          replace R1 := Lib.hid (R1.out.drew)
          replace R2 := Lib.hid (R2.out.drew)
          replace O5 := Lib.hid (O5.out.drew)
          replace C7 := Lib.hid (C7.out.drew)
          refine wpAnyH_take (i := 0) (oi := ?oz4x0) (v := cdv c) ?hiz4x0 (by kernel_rfl) (by kernel_rfl) (by kernel_rfl) (fun _ _ _ h => h) ?yz4x0 (by assumption) ?rz4x0
          case hiz4x0 => (simp only [List.getElem?_toArray, List.getElem?_cons_zero]; rfl)
          case yz4x0 => (refine cd_yields rfl rfl (k7) rfl c ?_; intro w' hS; exact hS.1)
          try simp only [Act.put, List.setIfInBounds_toArray, List.set_cons_zero, List.set_cons_succ]
          refine wpAnyH_take (i := 1) (oi := ?oz4x1) (v := ?vz4x1) ?hiz4x1 (by kernel_rfl) (by kernel_rfl) (by kernel_rfl) (fun _ _ _ h => h) ?yz4x1 (by assumption) ?rz4x1
          case hiz4x1 => (simp only [List.getElem?_toArray, List.getElem?_cons_succ, List.getElem?_cons_zero]; rfl)
          case yz4x1 => (refine Or.inl ⟨by rfl, ?_⟩; intro w' hSw; (try dsimp only at hSw); go_simp; (try with_reducible rfl))
          try simp only [Act.put, List.setIfInBounds_toArray, List.set_cons_zero, List.set_cons_succ]
          refine wpAnyH_take (i := 2) (oi := ?oz4x2) (v := ?vz4x2) ?hiz4x2 (by kernel_rfl) (by kernel_rfl) (by kernel_rfl) (fun _ _ _ h => h) ?yz4x2 (by assumption) ?rz4x2
          case hiz4x2 => (simp only [List.getElem?_toArray, List.getElem?_cons_succ, List.getElem?_cons_zero]; rfl)
          case yz4x2 => (refine Or.inl ⟨by rfl, ?_⟩; intro w' hSw; (try dsimp only at hSw); go_simp; (try with_reducible rfl))
          try simp only [Act.put, List.setIfInBounds_toArray, List.set_cons_zero, List.set_cons_succ]
          refine wpAnyH_ready (rs := [3]) (by kernel_rfl) (by simp) ?_
          refine AllReadyH.cons (o := ?oz4x3) ?hiz4x3 ?hstz4x3 AllReadyH.nil
          case hiz4x3 => (simp only [List.getElem?_toArray, List.getElem?_cons_succ, List.getElem?_cons_zero]; rfl)
          intro K hK
          go_simp
          (go_at_call 35; (with_reducible refine (HFc.out _).mono ?_); rintro e w1 ⟨rfl, hb1⟩)
          go_wp2_with fail
          refine hK.out _ _ ⟨Bx.Blk.keep hHeld.1 hb1, Bx.keep_cell hb1 hHeld.2.1, Bx.keep_cell hb1 hHeld.2.2.1, Bx.keep_cell hb1 hHeld.2.2.2.1, Bx.keep_cell hb1 hHeld.2.2.2.2.1, Bx.keep_cell hb1 hHeld.2.2.2.2.2⟩ (fun hNew => ?_)
          clear hHeld
          have hHeld := hNew
          clear hNew hK K
          replace bel := Lib.hid (Bx.then_below bel.out hb1)
          replace T0 := Lib.hid (T0.out.keep hb1)
          replace R1 := Lib.hid (R1.out.keep hb1)
          replace R2 := Lib.hid (R2.out.keep hb1)
          replace O5 := Lib.hid (O5.out.keep hb1)
          replace C7 := Lib.hid (C7.out.keep hb1)
          clear hb1
          refine wpAnyH_take (i := 4) (oi := ?oz4x4) (v := ?vz4x4) ?hiz4x4 (by kernel_rfl) (by kernel_rfl) (by kernel_rfl) (fun _ _ _ h => h) ?yz4x4 (by assumption) ?rz4x4
          case hiz4x4 => (simp only [List.getElem?_toArray, List.getElem?_cons_succ, List.getElem?_cons_zero]; rfl)
          case yz4x4 => (refine Or.inl ⟨by rfl, ?_⟩; intro w' hSw; (try dsimp only at hSw); go_simp; (try with_reducible rfl))
          try simp only [Act.put, List.setIfInBounds_toArray, List.set_cons_zero, List.set_cons_succ]
          refine wpAnyH_take (i := 5) (oi := ?oz4x5) (v := ?vz4x5) ?hiz4x5 (by kernel_rfl) (by kernel_rfl) (by kernel_rfl) (fun _ _ _ h => h) ?yz4x5 (by assumption) ?rz4x5
          case hiz4x5 => (simp only [List.getElem?_toArray, List.getElem?_cons_succ, List.getElem?_cons_zero]; rfl)
          case yz4x5 => (refine Or.inl ⟨by rfl, ?_⟩; intro w' hSw; (try dsimp only at hSw); go_simp; (try with_reducible rfl))
          try simp only [Act.put, List.setIfInBounds_toArray, List.set_cons_zero, List.set_cons_succ]
          refine wpAnyH_take (i := 6) (oi := ?oz4x6) (v := cdv c) ?hiz4x6 (by kernel_rfl) (by kernel_rfl) (by kernel_rfl) (fun _ _ _ h => h) ?yz4x6 (by assumption) ?rz4x6
          case hiz4x6 => (simp only [List.getElem?_toArray, List.getElem?_cons_succ, List.getElem?_cons_zero]; rfl)
          case yz4x6 => (refine cd_yields rfl rfl (k7) rfl c ?_; intro w' hS; exact hS.1)
          try simp only [Act.put, List.setIfInBounds_toArray, List.set_cons_zero, List.set_cons_succ]
          refine wpAnyH_take (i := 8) (oi := ?oz4x8) (v := ?vz4x8) ?hiz4x8 (by kernel_rfl) (by kernel_rfl) (by kernel_rfl) (fun _ _ _ h => h) ?yz4x8 (by assumption) ?rz4x8
          case hiz4x8 => (simp only [List.getElem?_toArray, List.getElem?_cons_succ, List.getElem?_cons_zero]; rfl)
          case yz4x8 => (refine Or.inl ⟨by rfl, ?_⟩; intro w' hSw; (try dsimp only at hSw); go_simp; (try with_reducible rfl))
          try simp only [Act.put, List.setIfInBounds_toArray, List.set_cons_zero, List.set_cons_succ]
          refine wpAnyH_ready (rs := [7]) (by kernel_rfl) (by simp) ?_
          refine AllReadyH.cons (o := ?oz4x7) ?hiz4x7 ?hstz4x7 AllReadyH.nil
          case hiz4x7 => (simp only [List.getElem?_toArray, List.getElem?_cons_succ, List.getElem?_cons_zero]; rfl)
          intro K hK
          go_simp
          (go_at_call 36; (with_reducible refine (HWc.out _).mono ?_); rintro e w2 ⟨rfl, hb2⟩)
          go_wp2_with fail
          refine hK.out _ _ ⟨Bx.Blk.keep hHeld.1 hb2, Bx.keep_cell hb2 hHeld.2.1, Bx.keep_cell hb2 hHeld.2.2.1, Bx.keep_cell hb2 hHeld.2.2.2.1, Bx.keep_cell hb2 hHeld.2.2.2.2.1, Bx.keep_cell hb2 hHeld.2.2.2.2.2⟩ (fun hNew => ?_)
          clear hHeld
          have hHeld := hNew
          clear hNew hK K
          replace bel := Lib.hid (Bx.then_below bel.out hb2)
          replace T0 := Lib.hid (T0.out.keep hb2)
          replace R1 := Lib.hid (R1.out.keep hb2)
          replace R2 := Lib.hid (R2.out.keep hb2)
          replace O5 := Lib.hid (O5.out.keep hb2)
          replace C7 := Lib.hid (C7.out.keep hb2)
          clear hb2
          refine wpAnyH_ready (rs := [9]) (by kernel_rfl) (by simp) ?_
          refine AllReadyH.cons (o := ?oz4x9) ?hiz4x9 ?hstz4x9 AllReadyH.nil
          case hiz4x9 => (simp only [List.getElem?_toArray, List.getElem?_cons_succ, List.getElem?_cons_zero]; rfl)
          intro K hK
          go_simp
          (go_at_call 33; (with_reducible refine (HBc.out _).mono ?_); rintro e w3 ⟨rfl, hb3⟩)
          go_wp2_with fail
          refine hK.out _ _ ⟨Bx.Blk.keep hHeld.1 hb3, Bx.keep_cell hb3 hHeld.2.1, Bx.keep_cell hb3 hHeld.2.2.1, Bx.keep_cell hb3 hHeld.2.2.2.1, Bx.keep_cell hb3 hHeld.2.2.2.2.1, Bx.keep_cell hb3 hHeld.2.2.2.2.2⟩ (fun hNew => ?_)
          clear hHeld
          have hHeld := hNew
          clear hNew hK K
          replace bel := Lib.hid (Bx.then_below bel.out hb3)
          replace T0 := Lib.hid (T0.out.keep hb3)
          replace R1 := Lib.hid (R1.out.keep hb3)
          replace R2 := Lib.hid (R2.out.keep hb3)
          replace O5 := Lib.hid (O5.out.keep hb3)
          replace C7 := Lib.hid (C7.out.keep hb3)
          clear hb3
          refine wpAnyH_take (i := 10) (oi := ?oz4x10) (v := ?vz4x10) ?hiz4x10 (by kernel_rfl) (by kernel_rfl) (by kernel_rfl) (fun _ _ _ h => h) ?yz4x10 (by assumption) ?rz4x10
          case hiz4x10 => (simp only [List.getElem?_toArray, List.getElem?_cons_succ, List.getElem?_cons_zero]; rfl)
          case yz4x10 => (refine Or.inl ⟨by rfl, ?_⟩; intro w' hSw; (try dsimp only at hSw); go_simp; (try with_reducible rfl))
          try simp only [Act.put, List.setIfInBounds_toArray, List.set_cons_zero, List.set_cons_succ]
          refine wpAnyH_take (i := 11) (oi := ?oz4x11) (v := ?vz4x11) ?hiz4x11 (by kernel_rfl) (by kernel_rfl) (by kernel_rfl) (fun _ _ _ h => h) ?yz4x11 (by assumption) ?rz4x11
          case hiz4x11 => (simp only [List.getElem?_toArray, List.getElem?_cons_succ, List.getElem?_cons_zero]; rfl)
          case yz4x11 => (refine Or.inl ⟨by rfl, ?_⟩; intro w' hSw; (try dsimp only at hSw); go_simp; (try with_reducible rfl))
          try simp only [Act.put, List.setIfInBounds_toArray, List.set_cons_zero, List.set_cons_succ]
          refine wpAnyH_done (by kernel_rfl) ?_ _
          refine NoPanic.normal ?_
          clear hHeld
          go_wp2_with (first | ((with_reducible refine td_load ?_ ?_ (w.heap.size) ?_ x ?_ ?_); (· rfl); (· rfl); (· rfl); (· exact T0.out.blk)) | ((with_reducible refine cs_load ?_ ?_ (w.heap.size) ?_ x ?_ ?_); (· rfl); (· rfl); (· rfl); (· exact T0.out.blk)))
          go_loopg [33] 8 (fun g s33 wr => ∃ m : Nat, m + g = 8 ∧ s33 = .int .i64 m ∧ Aside (Bx.Fre wr w.heap.size (tdl x)) ∧ Aside (Bx.Fre wr (w.heap.size + 1) (enc ⟨0, 0, 0, 0⟩)) ∧ Aside (Bx.Fre wr (w.heap.size + 1 + 1) (tenc ⟨0, 0, 0, 0⟩)) ∧ Aside (Bx.Fre wr k5 (enc o)) ∧ Aside (Bx.Fre wr k7 (cdl c)) ∧ Aside (Below w.heap.size w wr) ∧ Aside (∀ j, j < m → offB (x.cs j) x.id = true → ltV (wayV (x.cs j)) (wayV c) = false))
          case atStart => exact ⟨0, by omega, rfl, T0.out, R1.out, R2.out, O5.out, C7.out, bel.out, fun j h => by omega⟩
          case round =>
            clear T0 R1 R2 O5 C7 bel HFc HWc HBc
            obtain ⟨m, hmg, rfl, T0, R1, R2, O5, C7, bel, HM⟩ := hrel
            cases gk with
            | zero =>
              have hmz : ¬ ((m : Int) < 8) := by omega
              obtain rfl : m = 8 := by omega
              have hR := Lib.hid (HL.out (by rw [hgo.out]; exact ⟨hof.out, hlt.out, HM.out⟩) HG.out)
              have HWc := Lib.hid (HW.out c)
              go_wp2_with (first | ((with_reducible refine td_load ?_ ?_ (w.heap.size) ?_ x ?_ ?_); (· rfl); (· rfl); (· rfl); (· exact T0.out.blk)) | ((with_reducible refine cs_load ?_ ?_ (w.heap.size) ?_ x ?_ ?_); (· rfl); (· rfl); (· rfl); (· exact T0.out.blk)) | ((with_reducible refine cd_load ?_ ?_ (k7) ?_ c ?_ ?_); (· rfl); (· rfl); (· rfl); (· exact C7.out.blk)))
              refine wp_region_noPanic ?_
              refine wp_region_held_drew (S := fun w' => Bx.Blk w' k7 (cdl c) ∧ w'.cell? ⟨k7, 9, none⟩ = some (.int .i64 c.t.a) ∧ w'.cell? ⟨k7, 10, none⟩ = some (.int .i64 c.t.m) ∧ w'.cell? ⟨k7, 11, none⟩ = some (.int .i64 c.t.h) ∧ w'.cell? ⟨k7, 12, none⟩ = some (.int .i64 c.t.d)) (by kernel_rfl) (by exact ⟨C7.out.blk, C7.out.at 9 rfl, C7.out.at 10 rfl, C7.out.at 11 rfl, C7.out.at 12 rfl⟩) (fun hHeld => ?_)
              replace bel := Lib.hid (Bx.bel_drewn bel.out)
              replace T0 := Lib.hid (T0.out.drew)
              replace R1 := Lib.hid (R1.out.drew)
              replace R2 := Lib.hid (R2.out.drew)
              replace O5 := Lib.hid (O5.out.drew)
              replace C7 := Lib.hid (C7.out.drew)
              refine wpAnyH_take (i := 0) (oi := ?oz5x0) (v := cdv c) ?hiz5x0 (by kernel_rfl) (by kernel_rfl) (by kernel_rfl) (fun _ _ _ h => h) ?yz5x0 (by assumption) ?rz5x0
              case hiz5x0 => (simp only [List.getElem?_toArray, List.getElem?_cons_zero]; rfl)
              case yz5x0 => (refine cd_yields rfl rfl (k7) rfl c ?_; intro w' hS; exact hS.1)
              try simp only [Act.put, List.setIfInBounds_toArray, List.set_cons_zero, List.set_cons_succ]
              refine wpAnyH_take (i := 2) (oi := ?oz5x2) (v := ?vz5x2) ?hiz5x2 (by kernel_rfl) (by kernel_rfl) (by kernel_rfl) (fun _ _ _ h => h) ?yz5x2 (by assumption) ?rz5x2
              case hiz5x2 => (simp only [List.getElem?_toArray, List.getElem?_cons_succ, List.getElem?_cons_zero]; rfl)
              case yz5x2 => (refine Or.inl ⟨by rfl, ?_⟩; intro w' hSw; (try dsimp only at hSw); go_simp; (try with_reducible rfl))
              try simp only [Act.put, List.setIfInBounds_toArray, List.set_cons_zero, List.set_cons_succ]
              refine wpAnyH_take (i := 3) (oi := ?oz5x3) (v := ?vz5x3) ?hiz5x3 (by kernel_rfl) (by kernel_rfl) (by kernel_rfl) (fun _ _ _ h => h) ?yz5x3 (by assumption) ?rz5x3
              case hiz5x3 => (simp only [List.getElem?_toArray, List.getElem?_cons_succ, List.getElem?_cons_zero]; rfl)
              case yz5x3 => (refine Or.inl ⟨by rfl, ?_⟩; intro w' hSw; (try dsimp only at hSw); go_simp; (try with_reducible rfl))
              try simp only [Act.put, List.setIfInBounds_toArray, List.set_cons_zero, List.set_cons_succ]
              refine wpAnyH_take (i := 4) (oi := ?oz5x4) (v := ?vz5x4) ?hiz5x4 (by kernel_rfl) (by kernel_rfl) (by kernel_rfl) (fun _ _ _ h => h) ?yz5x4 (by assumption) ?rz5x4
              case hiz5x4 => (simp only [List.getElem?_toArray, List.getElem?_cons_succ, List.getElem?_cons_zero]; rfl)
              case yz5x4 => (refine Or.inl ⟨by rfl, ?_⟩; intro w' hSw; (try dsimp only at hSw); go_simp; (try with_reducible rfl))
              try simp only [Act.put, List.setIfInBounds_toArray, List.set_cons_zero, List.set_cons_succ]
              refine wpAnyH_ready (rs := [1]) (by kernel_rfl) (by simp) ?_
              refine AllReadyH.cons (o := ?oz5x1) ?hiz5x1 ?hstz5x1 AllReadyH.nil
              case hiz5x1 => (simp only [List.getElem?_toArray, List.getElem?_cons_succ, List.getElem?_cons_zero]; rfl)
              intro K hK
              go_simp
              (go_at_call 36; (with_reducible refine (HWc.out _).mono ?_); rintro e w1 ⟨rfl, hb1⟩)
              go_wp2_with fail
              refine hK.out _ _ ⟨Bx.Blk.keep hHeld.1 hb1, Bx.keep_cell hb1 hHeld.2.1, Bx.keep_cell hb1 hHeld.2.2.1, Bx.keep_cell hb1 hHeld.2.2.2.1, Bx.keep_cell hb1 hHeld.2.2.2.2⟩ (fun hNew => ?_)
              clear hHeld
              have hHeld := hNew
              clear hNew hK K
              replace bel := Lib.hid (Bx.then_below bel.out hb1)
              replace T0 := Lib.hid (T0.out.keep hb1)
              replace R1 := Lib.hid (R1.out.keep hb1)
              replace R2 := Lib.hid (R2.out.keep hb1)
              replace O5 := Lib.hid (O5.out.keep hb1)
              replace C7 := Lib.hid (C7.out.keep hb1)
              clear hb1
              refine wpAnyH_ready (rs := [5]) (by kernel_rfl) (by simp) ?_
              refine AllReadyH.cons (o := ?oz5x5) ?hiz5x5 ?hstz5x5 AllReadyH.nil
              case hiz5x5 => (simp only [List.getElem?_toArray, List.getElem?_cons_succ, List.getElem?_cons_zero]; rfl)
              intro K hK
              rw [if_pos (by rfl)]
              refine vec_wp rfl (w.heap.size + 1) 0 rfl (wayV c) rfl (enc ⟨0, 0, 0, 0⟩) (by simp [enc]) R1.out ?_
              refine hK.out _ _ ⟨Bx.Blk.apart_at _ _ (by omega) hHeld.1, Bx.cell_apart_at _ _ (by omega) hHeld.2.1, Bx.cell_apart_at _ _ (by omega) hHeld.2.2.1, Bx.cell_apart_at _ _ (by omega) hHeld.2.2.2.1, Bx.cell_apart_at _ _ (by omega) hHeld.2.2.2.2⟩ (fun hNew => ?_)
              clear hHeld
              have hHeld := hNew
              clear hNew hK K
              try simp only [Act.put]
              replace bel := Lib.hid (Bx.bel_put_at (k := w.heap.size + 1) (enc (wayV c)) 0 (by omega) bel.out)
              replace T0 := Lib.hid (Bx.Fre.apart_at (k' := w.heap.size + 1) (enc (wayV c)) 0 (by omega) T0.out)
              replace R1 := Lib.hid (Bx.Fre.put_at (enc (wayV c)) 0 R1.out)
              replace R2 := Lib.hid (Bx.Fre.apart_at (k' := w.heap.size + 1) (enc (wayV c)) 0 (by omega) R2.out)
              replace O5 := Lib.hid (Bx.Fre.apart_at (k' := w.heap.size + 1) (enc (wayV c)) 0 (by omega) O5.out)
              replace C7 := Lib.hid (Bx.Fre.apart_at (k' := w.heap.size + 1) (enc (wayV c)) 0 (by omega) C7.out)
              refine wpAnyH_ready (rs := [6]) (by kernel_rfl) (by simp) ?_
              refine AllReadyH.cons (o := ?oz5x6) ?hiz5x6 ?hstz5x6 AllReadyH.nil
              case hiz5x6 => (simp only [List.getElem?_toArray, List.getElem?_cons_succ, List.getElem?_cons_zero]; rfl)
              intro K hK
              rw [if_pos (by rfl)]
              refine tm_wp rfl (w.heap.size + 1 + 1) 0 rfl c.t rfl (tenc ⟨0, 0, 0, 0⟩) (by simp [tenc]) R2.out ?_
              refine hK.out _ _ ⟨Bx.Blk.apart_at _ _ (by omega) hHeld.1, Bx.cell_apart_at _ _ (by omega) hHeld.2.1, Bx.cell_apart_at _ _ (by omega) hHeld.2.2.1, Bx.cell_apart_at _ _ (by omega) hHeld.2.2.2.1, Bx.cell_apart_at _ _ (by omega) hHeld.2.2.2.2⟩ (fun hNew => ?_)
              clear hHeld
              have hHeld := hNew
              clear hNew hK K
              try simp only [Act.put]
              replace bel := Lib.hid (Bx.bel_put_at (k := w.heap.size + 1 + 1) (tenc c.t) 0 (by omega) bel.out)
              replace T0 := Lib.hid (Bx.Fre.apart_at (k' := w.heap.size + 1 + 1) (tenc c.t) 0 (by omega) T0.out)
              replace R1 := Lib.hid (Bx.Fre.apart_at (k' := w.heap.size + 1 + 1) (tenc c.t) 0 (by omega) R1.out)
              replace R2 := Lib.hid (Bx.Fre.put_at (tenc c.t) 0 R2.out)
              replace O5 := Lib.hid (Bx.Fre.apart_at (k' := w.heap.size + 1 + 1) (tenc c.t) 0 (by omega) O5.out)
              replace C7 := Lib.hid (Bx.Fre.apart_at (k' := w.heap.size + 1 + 1) (tenc c.t) 0 (by omega) C7.out)
              refine wpAnyH_take (i := 7) (oi := ?oz5x7) (v := ?vz5x7) ?hiz5x7 (by kernel_rfl) (by kernel_rfl) (by kernel_rfl) (fun _ _ _ h => h) ?yz5x7 (by assumption) ?rz5x7
              case hiz5x7 => (simp only [List.getElem?_toArray, List.getElem?_cons_succ, List.getElem?_cons_zero]; rfl)
              case yz5x7 => (refine Or.inl ⟨by rfl, ?_⟩; intro w' hSw; (try dsimp only at hSw); go_simp; (try with_reducible rfl))
              try simp only [Act.put, List.setIfInBounds_toArray, List.set_cons_zero, List.set_cons_succ]
              refine wpAnyH_done (by kernel_rfl) ?_ _
              refine NoPanic.normal ?_
              clear hHeld
              go_wp2_with fail
              try rw [Exit.noGoto_ret]
              refine bodyPost_ret (v := .tuple #[vv (wayV c), tmv c.t, .int .i64 k]) (root_result Try.results30 rfl rfl rfl (R1.out.blk : Bx.Blk _ _ (enc (wayV c))) (R2.out.blk : Bx.Blk _ _ (tenc c.t))) rfl ⟨by rw [hR.out], bel.out⟩
            | succ gi =>
              have hmz : (m : Int) < 8 := by omega
              have hm : m < 8 := by omega
              have hix := index_at x.cs m hm
              obtain ⟨d, hd⟩ : ∃ d, d = x.cs m := ⟨_, rfl⟩
              rw [← hd] at hix
              replace hd := Lib.hid hd
              have h97 : k7 < wr.heap.size := C7.out.2.1
              have h95 : k5 < wr.heap.size := O5.out.2.1
              have h92 : w.heap.size + 1 + 1 < wr.heap.size := R2.out.2.1
              replace T0 := Lib.hid (T0.out.more (cdo d))
              replace R1 := Lib.hid (R1.out.more (cdo d))
              replace R2 := Lib.hid (R2.out.more (cdo d))
              replace O5 := Lib.hid (O5.out.more (cdo d))
              replace C7 := Lib.hid (C7.out.more (cdo d))
              have D9 : Hid (Bx.Fre (wr.alloc (cdo d)) wr.heap.size (cdl d)) := Lib.hid (Bx.Fre.new wr (cdl d) 28)
              replace bel := Lib.hid (Bx.bel_box bel.out (cdo d))
              go_wp2_with (first | ((with_reducible refine cd_fresh ?_ ?_ (wr.heap.size) d ?_ ?_ wr (cdl Cd.zero) ?_ ?_ ?_ ?_); (· rfl); (· rfl); (· rfl); (· rfl); (· rfl); (· rfl); (· first | rfl | (simp; done))) | ((with_reducible refine td_load ?_ ?_ (w.heap.size) ?_ x ?_ ?_); (· rfl); (· rfl); (· rfl); (· exact T0.out.blk)) | ((with_reducible refine cs_load ?_ ?_ (w.heap.size) ?_ x ?_ ?_); (· rfl); (· rfl); (· rfl); (· exact T0.out.blk)) | ((with_reducible refine cd_load ?_ ?_ (k7) ?_ c ?_ ?_); (· rfl); (· rfl); (· rfl); (· exact C7.out.blk)) | ((with_reducible refine cd_load ?_ ?_ (wr.heap.size) ?_ d ?_ ?_); (· rfl); (· rfl); (· rfl); (· exact D9.out.blk)))
              clear hix
              obtain ⟨k9, hk9⟩ : ∃ k, k = wr.heap.size := ⟨_, rfl⟩
              rw [← hk9] at D9 h97 h95 h92 ⊢
              generalize wr.alloc (cdo d) = w0 at *
              clear hk9 wr
              cases hod : offB d x.id with
              | false =>
                have HFc : Hid (∀ w, Calls Try.prog 35 #[cdv d, .int .u64 x.id] w fun e w' => e = .returned (.bool false) ∧ Below w.heap.size w w') := Lib.hid (fun w => by have h := HF.out d w; rw [hod] at h; exact h)
                replace hod := Lib.hid hod
                refine wp_region_noPanic ?_
                refine wp_region_held_drew (S := fun w' => Bx.Blk w' k9 (cdl d) ∧ Bx.Blk w' k7 (cdl c) ∧ w'.cell? ⟨w.heap.size, 0, none⟩ = some (.int .u64 x.id)) (by kernel_rfl) (by exact ⟨D9.out.blk, C7.out.blk, T0.out.at 0 (v := .int .u64 x.id) rfl⟩) (fun hHeld => ?_)
                replace bel := Lib.hid (Bx.bel_drewn bel.out)
                replace T0 := Lib.hid (T0.out.drew)
                replace R1 := Lib.hid (R1.out.drew)
                replace R2 := Lib.hid (R2.out.drew)
                replace O5 := Lib.hid (O5.out.drew)
                replace C7 := Lib.hid (C7.out.drew)
                replace D9 := Lib.hid (D9.out.drew)
                refine wpAnyH_take (i := 0) (oi := ?oz6x0) (v := cdv d) ?hiz6x0 (by kernel_rfl) (by kernel_rfl) (by kernel_rfl) (fun _ _ _ h => h) ?yz6x0 (by assumption) ?rz6x0
                case hiz6x0 => (simp only [List.getElem?_toArray, List.getElem?_cons_zero]; rfl)
                case yz6x0 => (refine cd_yields rfl rfl (k9) rfl d ?_; intro w' hS; exact hS.1)
                try simp only [Act.put, List.setIfInBounds_toArray, List.set_cons_zero, List.set_cons_succ]
                refine wpAnyH_take (i := 1) (oi := ?oz6x1) (v := ?vz6x1) ?hiz6x1 (by kernel_rfl) (by kernel_rfl) (by kernel_rfl) (fun _ _ _ h => h) ?yz6x1 (by assumption) ?rz6x1
                case hiz6x1 => (simp only [List.getElem?_toArray, List.getElem?_cons_succ, List.getElem?_cons_zero]; rfl)
                case yz6x1 => (refine Or.inl ⟨by rfl, ?_⟩; intro w' hSw; (try dsimp only at hSw); go_simp; (try with_reducible rfl))
                try simp only [Act.put, List.setIfInBounds_toArray, List.set_cons_zero, List.set_cons_succ]
                refine wpAnyH_take (i := 2) (oi := ?oz6x2) (v := ?vz6x2) ?hiz6x2 (by kernel_rfl) (by kernel_rfl) (by kernel_rfl) (fun _ _ _ h => h) ?yz6x2 (by assumption) ?rz6x2
                case hiz6x2 => (simp only [List.getElem?_toArray, List.getElem?_cons_succ, List.getElem?_cons_zero]; rfl)
                case yz6x2 => (refine Or.inl ⟨by rfl, ?_⟩; intro w' hSw; (try dsimp only at hSw); go_simp; (try with_reducible rfl))
                try simp only [Act.put, List.setIfInBounds_toArray, List.set_cons_zero, List.set_cons_succ]
                refine wpAnyH_ready (rs := [3]) (by kernel_rfl) (by simp) ?_
                refine AllReadyH.cons (o := ?oz6x3) ?hiz6x3 ?hstz6x3 AllReadyH.nil
                case hiz6x3 => (simp only [List.getElem?_toArray, List.getElem?_cons_succ, List.getElem?_cons_zero]; rfl)
                intro K hK
                go_simp
                (go_at_call 35; (with_reducible refine (HFc.out _).mono ?_); rintro e w1 ⟨rfl, hb1⟩)
                go_wp2_with fail
                refine hK.out _ _ ⟨Bx.Blk.keep hHeld.1 hb1, Bx.Blk.keep hHeld.2.1 hb1, Bx.keep_cell hb1 hHeld.2.2⟩ (fun hNew => ?_)
                clear hHeld
                have hHeld := hNew
                clear hNew hK K
                replace bel := Lib.hid (Bx.then_below bel.out hb1)
                replace T0 := Lib.hid (T0.out.keep hb1)
                replace R1 := Lib.hid (R1.out.keep hb1)
                replace R2 := Lib.hid (R2.out.keep hb1)
                replace O5 := Lib.hid (O5.out.keep hb1)
                replace C7 := Lib.hid (C7.out.keep hb1)
                replace D9 := Lib.hid (D9.out.keep hb1)
                clear hb1
                refine wpAnyH_take (i := 4) (oi := ?oz6x4) (v := ?vz6x4) ?hiz6x4 (by kernel_rfl) (by kernel_rfl) (by kernel_rfl) (fun _ _ _ h => h) ?yz6x4 (by assumption) ?rz6x4
                case hiz6x4 => (simp only [List.getElem?_toArray, List.getElem?_cons_succ, List.getElem?_cons_zero]; rfl)
                case yz6x4 => (refine Or.inl ⟨by rfl, ?_⟩; intro w' hSw; (try dsimp only at hSw); go_simp; (try with_reducible rfl))
                try simp only [Act.put, List.setIfInBounds_toArray, List.set_cons_zero, List.set_cons_succ]
                refine wpAnyH_take (i := 5) (oi := ?oz6x5) (v := undef) ?hiz6x5 (by kernel_rfl) (by kernel_rfl) (by kernel_rfl) (fun _ _ _ h => h) ?yz6x5 (by assumption) ?rz6x5
                case hiz6x5 => (simp only [List.getElem?_toArray, List.getElem?_cons_succ, List.getElem?_cons_zero]; rfl)
                case yz6x5 => exact Or.inr ⟨by rfl, rfl⟩
                try simp only [Act.put, List.setIfInBounds_toArray, List.set_cons_zero, List.set_cons_succ]
                refine wpAnyH_take (i := 6) (oi := ?oz6x6) (v := undef) ?hiz6x6 (by kernel_rfl) (by kernel_rfl) (by kernel_rfl) (fun _ _ _ h => h) ?yz6x6 (by assumption) ?rz6x6
                case hiz6x6 => (simp only [List.getElem?_toArray, List.getElem?_cons_succ, List.getElem?_cons_zero]; rfl)
                case yz6x6 => exact Or.inr ⟨by rfl, rfl⟩
                try simp only [Act.put, List.setIfInBounds_toArray, List.set_cons_zero, List.set_cons_succ]
                refine wpAnyH_take (i := 7) (oi := ?oz6x7) (v := undef) ?hiz6x7 (by kernel_rfl) (by kernel_rfl) (by kernel_rfl) (fun _ _ _ h => h) ?yz6x7 (by assumption) ?rz6x7
                case hiz6x7 => (simp only [List.getElem?_toArray, List.getElem?_cons_succ, List.getElem?_cons_zero]; rfl)
                case yz6x7 => exact Or.inr ⟨by rfl, rfl⟩
                try simp only [Act.put, List.setIfInBounds_toArray, List.set_cons_zero, List.set_cons_succ]
                refine wpAnyH_take (i := 8) (oi := ?oz6x8) (v := undef) ?hiz6x8 (by kernel_rfl) (by kernel_rfl) (by kernel_rfl) (fun _ _ _ h => h) ?yz6x8 (by assumption) ?rz6x8
                case hiz6x8 => (simp only [List.getElem?_toArray, List.getElem?_cons_succ, List.getElem?_cons_zero]; rfl)
                case yz6x8 => exact Or.inr ⟨by rfl, rfl⟩
                try simp only [Act.put, List.setIfInBounds_toArray, List.set_cons_zero, List.set_cons_succ]
                refine wpAnyH_take (i := 9) (oi := ?oz6x9) (v := undef) ?hiz6x9 (by kernel_rfl) (by kernel_rfl) (by kernel_rfl) (fun _ _ _ h => h) ?yz6x9 (by assumption) ?rz6x9
                case hiz6x9 => (simp only [List.getElem?_toArray, List.getElem?_cons_succ, List.getElem?_cons_zero]; rfl)
                case yz6x9 => exact Or.inr ⟨by rfl, rfl⟩
                try simp only [Act.put, List.setIfInBounds_toArray, List.set_cons_zero, List.set_cons_succ]
                refine wpAnyH_take (i := 10) (oi := ?oz6x10) (v := ?vz6x10) ?hiz6x10 (by kernel_rfl) (by kernel_rfl) (by kernel_rfl) (fun _ _ _ h => h) ?yz6x10 (by assumption) ?rz6x10
                case hiz6x10 => (simp only [List.getElem?_toArray, List.getElem?_cons_succ, List.getElem?_cons_zero]; rfl)
                case yz6x10 => (refine Or.inl ⟨by rfl, ?_⟩; intro w' hSw; (try dsimp only at hSw); go_simp; (try with_reducible rfl))
                try simp only [Act.put, List.setIfInBounds_toArray, List.set_cons_zero, List.set_cons_succ]
                refine wpAnyH_done (by kernel_rfl) ?_ _
                refine NoPanic.normal ?_
                clear hHeld
                go_wp2_with fail
                go_roundg gi
                case measure => omega
                case rel => exact ⟨m + 1, by omega, by go_num, T0.out, R1.out, R2.out, O5.out, C7.out, bel.out, fun j hj => if e : j = m then (by subst e; rw [← hd.out]; intro h; rw [hod.out] at h; cases h) else HM.out j (by omega)⟩
              | true =>
                have HFc : Hid (∀ w, Calls Try.prog 35 #[cdv d, .int .u64 x.id] w fun e w' => e = .returned (.bool true) ∧ Below w.heap.size w w') := Lib.hid (fun w => by have h := HF.out d w; rw [hod] at h; exact h)
                have HWc := Lib.hid (HW.out c)
                have HWd := Lib.hid (HW.out d)
                cases hlt2 : ltV (wayV d) (wayV c) with
                | false =>
                  have HBc : Hid (∀ w, Calls Try.prog 33 #[vv (wayV d), vv (wayV c)] w fun e w' => e = .returned (.bool false) ∧ Below w.heap.size w w') := Lib.hid (fun w => by have h := HB.out (wayV d) (wayV c) w; rw [hlt2] at h; exact h)
                  replace hlt2 := Lib.hid hlt2
                  replace hod := Lib.hid hod
                  refine wp_region_noPanic ?_
                  refine wp_region_held_drew (S := fun w' => Bx.Blk w' k9 (cdl d) ∧ Bx.Blk w' k7 (cdl c) ∧ w'.cell? ⟨w.heap.size, 0, none⟩ = some (.int .u64 x.id)) (by kernel_rfl) (by exact ⟨D9.out.blk, C7.out.blk, T0.out.at 0 (v := .int .u64 x.id) rfl⟩) (fun hHeld => ?_)
                  replace bel := Lib.hid (Bx.bel_drewn bel.out)
                  replace T0 := Lib.hid (T0.out.drew)
                  replace R1 := Lib.hid (R1.out.drew)
                  replace R2 := Lib.hid (R2.out.drew)
                  replace O5 := Lib.hid (O5.out.drew)
                  replace C7 := Lib.hid (C7.out.drew)
                  replace D9 := Lib.hid (D9.out.drew)
                  refine wpAnyH_take (i := 0) (oi := ?oz7x0) (v := cdv d) ?hiz7x0 (by kernel_rfl) (by kernel_rfl) (by kernel_rfl) (fun _ _ _ h => h) ?yz7x0 (by assumption) ?rz7x0
                  case hiz7x0 => (simp only [List.getElem?_toArray, List.getElem?_cons_zero]; rfl)
                  case yz7x0 => (refine cd_yields rfl rfl (k9) rfl d ?_; intro w' hS; exact hS.1)
                  try simp only [Act.put, List.setIfInBounds_toArray, List.set_cons_zero, List.set_cons_succ]
                  refine wpAnyH_take (i := 1) (oi := ?oz7x1) (v := ?vz7x1) ?hiz7x1 (by kernel_rfl) (by kernel_rfl) (by kernel_rfl) (fun _ _ _ h => h) ?yz7x1 (by assumption) ?rz7x1
                  case hiz7x1 => (simp only [List.getElem?_toArray, List.getElem?_cons_succ, List.getElem?_cons_zero]; rfl)
                  case yz7x1 => (refine Or.inl ⟨by rfl, ?_⟩; intro w' hSw; (try dsimp only at hSw); go_simp; (try with_reducible rfl))
                  try simp only [Act.put, List.setIfInBounds_toArray, List.set_cons_zero, List.set_cons_succ]
                  refine wpAnyH_take (i := 2) (oi := ?oz7x2) (v := ?vz7x2) ?hiz7x2 (by kernel_rfl) (by kernel_rfl) (by kernel_rfl) (fun _ _ _ h => h) ?yz7x2 (by assumption) ?rz7x2
                  case hiz7x2 => (simp only [List.getElem?_toArray, List.getElem?_cons_succ, List.getElem?_cons_zero]; rfl)
                  case yz7x2 => (refine Or.inl ⟨by rfl, ?_⟩; intro w' hSw; (try dsimp only at hSw); go_simp; (try with_reducible rfl))
                  try simp only [Act.put, List.setIfInBounds_toArray, List.set_cons_zero, List.set_cons_succ]
                  refine wpAnyH_ready (rs := [3]) (by kernel_rfl) (by simp) ?_
                  refine AllReadyH.cons (o := ?oz7x3) ?hiz7x3 ?hstz7x3 AllReadyH.nil
                  case hiz7x3 => (simp only [List.getElem?_toArray, List.getElem?_cons_succ, List.getElem?_cons_zero]; rfl)
                  intro K hK
                  go_simp
                  (go_at_call 35; (with_reducible refine (HFc.out _).mono ?_); rintro e w1 ⟨rfl, hb1⟩)
                  go_wp2_with fail
                  refine hK.out _ _ ⟨Bx.Blk.keep hHeld.1 hb1, Bx.Blk.keep hHeld.2.1 hb1, Bx.keep_cell hb1 hHeld.2.2⟩ (fun hNew => ?_)
                  clear hHeld
                  have hHeld := hNew
                  clear hNew hK K
                  replace bel := Lib.hid (Bx.then_below bel.out hb1)
                  replace T0 := Lib.hid (T0.out.keep hb1)
                  replace R1 := Lib.hid (R1.out.keep hb1)
                  replace R2 := Lib.hid (R2.out.keep hb1)
                  replace O5 := Lib.hid (O5.out.keep hb1)
                  replace C7 := Lib.hid (C7.out.keep hb1)
                  replace D9 := Lib.hid (D9.out.keep hb1)
                  clear hb1
                  refine wpAnyH_take (i := 4) (oi := ?oz7x4) (v := ?vz7x4) ?hiz7x4 (by kernel_rfl) (by kernel_rfl) (by kernel_rfl) (fun _ _ _ h => h) ?yz7x4 (by assumption) ?rz7x4
                  case hiz7x4 => (simp only [List.getElem?_toArray, List.getElem?_cons_succ, List.getElem?_cons_zero]; rfl)
                  case yz7x4 => (refine Or.inl ⟨by rfl, ?_⟩; intro w' hSw; (try dsimp only at hSw); go_simp; (try with_reducible rfl))
                  try simp only [Act.put, List.setIfInBounds_toArray, List.set_cons_zero, List.set_cons_succ]
                  refine wpAnyH_take (i := 5) (oi := ?oz7x5) (v := cdv d) ?hiz7x5 (by kernel_rfl) (by kernel_rfl) (by kernel_rfl) (fun _ _ _ h => h) ?yz7x5 (by assumption) ?rz7x5
                  case hiz7x5 => (simp only [List.getElem?_toArray, List.getElem?_cons_succ, List.getElem?_cons_zero]; rfl)
                  case yz7x5 => (refine cd_yields rfl rfl (k9) rfl d ?_; intro w' hS; exact hS.1)
                  try simp only [Act.put, List.setIfInBounds_toArray, List.set_cons_zero, List.set_cons_succ]
                  refine wpAnyH_take (i := 7) (oi := ?oz7x7) (v := cdv c) ?hiz7x7 (by kernel_rfl) (by kernel_rfl) (by kernel_rfl) (fun _ _ _ h => h) ?yz7x7 (by assumption) ?rz7x7
                  case hiz7x7 => (simp only [List.getElem?_toArray, List.getElem?_cons_succ, List.getElem?_cons_zero]; rfl)
                  case yz7x7 => (refine cd_yields rfl rfl (k7) rfl c ?_; intro w' hS; exact hS.2.1)
                  try simp only [Act.put, List.setIfInBounds_toArray, List.set_cons_zero, List.set_cons_succ]
                  refine wpAnyH_ready (rs := [6]) (by kernel_rfl) (by simp) ?_
                  refine AllReadyH.cons (o := ?oz7x6) ?hiz7x6 ?hstz7x6 AllReadyH.nil
                  case hiz7x6 => (simp only [List.getElem?_toArray, List.getElem?_cons_succ, List.getElem?_cons_zero]; rfl)
                  intro K hK
                  go_simp
                  (go_at_call 36; (with_reducible refine (HWd.out _).mono ?_); rintro e w2 ⟨rfl, hb2⟩)
                  go_wp2_with fail
                  refine hK.out _ _ ⟨Bx.Blk.keep hHeld.1 hb2, Bx.Blk.keep hHeld.2.1 hb2, Bx.keep_cell hb2 hHeld.2.2⟩ (fun hNew => ?_)
                  clear hHeld
                  have hHeld := hNew
                  clear hNew hK K
                  replace bel := Lib.hid (Bx.then_below bel.out hb2)
                  replace T0 := Lib.hid (T0.out.keep hb2)
                  replace R1 := Lib.hid (R1.out.keep hb2)
                  replace R2 := Lib.hid (R2.out.keep hb2)
                  replace O5 := Lib.hid (O5.out.keep hb2)
                  replace C7 := Lib.hid (C7.out.keep hb2)
                  replace D9 := Lib.hid (D9.out.keep hb2)
                  clear hb2
                  refine wpAnyH_ready (rs := [8]) (by kernel_rfl) (by simp) ?_
                  refine AllReadyH.cons (o := ?oz7x8) ?hiz7x8 ?hstz7x8 AllReadyH.nil
                  case hiz7x8 => (simp only [List.getElem?_toArray, List.getElem?_cons_succ, List.getElem?_cons_zero]; rfl)
                  intro K hK
                  go_simp
                  (go_at_call 36; (with_reducible refine (HWc.out _).mono ?_); rintro e w3 ⟨rfl, hb3⟩)
                  go_wp2_with fail
                  refine hK.out _ _ ⟨Bx.Blk.keep hHeld.1 hb3, Bx.Blk.keep hHeld.2.1 hb3, Bx.keep_cell hb3 hHeld.2.2⟩ (fun hNew => ?_)
                  clear hHeld
                  have hHeld := hNew
                  clear hNew hK K
                  replace bel := Lib.hid (Bx.then_below bel.out hb3)
                  replace T0 := Lib.hid (T0.out.keep hb3)
                  replace R1 := Lib.hid (R1.out.keep hb3)
                  replace R2 := Lib.hid (R2.out.keep hb3)
                  replace O5 := Lib.hid (O5.out.keep hb3)
                  replace C7 := Lib.hid (C7.out.keep hb3)
                  replace D9 := Lib.hid (D9.out.keep hb3)
                  clear hb3
                  refine wpAnyH_ready (rs := [9]) (by kernel_rfl) (by simp) ?_
                  refine AllReadyH.cons (o := ?oz7x9) ?hiz7x9 ?hstz7x9 AllReadyH.nil
                  case hiz7x9 => (simp only [List.getElem?_toArray, List.getElem?_cons_succ, List.getElem?_cons_zero]; rfl)
                  intro K hK
                  go_simp
                  (go_at_call 33; (with_reducible refine (HBc.out _).mono ?_); rintro e w4 ⟨rfl, hb4⟩)
                  go_wp2_with fail
                  refine hK.out _ _ ⟨Bx.Blk.keep hHeld.1 hb4, Bx.Blk.keep hHeld.2.1 hb4, Bx.keep_cell hb4 hHeld.2.2⟩ (fun hNew => ?_)
                  clear hHeld
                  have hHeld := hNew
                  clear hNew hK K
                  replace bel := Lib.hid (Bx.then_below bel.out hb4)
                  replace T0 := Lib.hid (T0.out.keep hb4)
                  replace R1 := Lib.hid (R1.out.keep hb4)
                  replace R2 := Lib.hid (R2.out.keep hb4)
                  replace O5 := Lib.hid (O5.out.keep hb4)
                  replace C7 := Lib.hid (C7.out.keep hb4)
                  replace D9 := Lib.hid (D9.out.keep hb4)
                  clear hb4
                  refine wpAnyH_take (i := 10) (oi := ?oz7x10) (v := ?vz7x10) ?hiz7x10 (by kernel_rfl) (by kernel_rfl) (by kernel_rfl) (fun _ _ _ h => h) ?yz7x10 (by assumption) ?rz7x10
                  case hiz7x10 => (simp only [List.getElem?_toArray, List.getElem?_cons_succ, List.getElem?_cons_zero]; rfl)
                  case yz7x10 => (refine Or.inl ⟨by rfl, ?_⟩; intro w' hSw; (try dsimp only at hSw); go_simp; (try with_reducible rfl))
                  try simp only [Act.put, List.setIfInBounds_toArray, List.set_cons_zero, List.set_cons_succ]
                  refine wpAnyH_done (by kernel_rfl) ?_ _
                  refine NoPanic.normal ?_
                  clear hHeld
                  go_wp2_with fail
                  go_roundg gi
                  case measure => omega
                  case rel => exact ⟨m + 1, by omega, by go_num, T0.out, R1.out, R2.out, O5.out, C7.out, bel.out, fun j hj => if e : j = m then (by subst e; rw [← hd.out]; intro _; exact hlt2.out) else HM.out j (by omega)⟩
                | true =>
                  have HBc : Hid (∀ w, Calls Try.prog 33 #[vv (wayV d), vv (wayV c)] w fun e w' => e = .returned (.bool true) ∧ Below w.heap.size w w') := Lib.hid (fun w => by have h := HB.out (wayV d) (wayV c) w; rw [hlt2] at h; exact h)
                  replace hlt2 := Lib.hid hlt2
                  replace hod := Lib.hid hod
                  refine wp_region_noPanic ?_
                  refine wp_region_held_drew (S := fun w' => Bx.Blk w' k9 (cdl d) ∧ Bx.Blk w' k7 (cdl c) ∧ w'.cell? ⟨w.heap.size, 0, none⟩ = some (.int .u64 x.id)) (by kernel_rfl) (by exact ⟨D9.out.blk, C7.out.blk, T0.out.at 0 (v := .int .u64 x.id) rfl⟩) (fun hHeld => ?_)
                  replace bel := Lib.hid (Bx.bel_drewn bel.out)
                  replace T0 := Lib.hid (T0.out.drew)
                  replace R1 := Lib.hid (R1.out.drew)
                  replace R2 := Lib.hid (R2.out.drew)
                  replace O5 := Lib.hid (O5.out.drew)
                  replace C7 := Lib.hid (C7.out.drew)
                  replace D9 := Lib.hid (D9.out.drew)
                  refine wpAnyH_take (i := 0) (oi := ?oz8x0) (v := cdv d) ?hiz8x0 (by kernel_rfl) (by kernel_rfl) (by kernel_rfl) (fun _ _ _ h => h) ?yz8x0 (by assumption) ?rz8x0
                  case hiz8x0 => (simp only [List.getElem?_toArray, List.getElem?_cons_zero]; rfl)
                  case yz8x0 => (refine cd_yields rfl rfl (k9) rfl d ?_; intro w' hS; exact hS.1)
                  try simp only [Act.put, List.setIfInBounds_toArray, List.set_cons_zero, List.set_cons_succ]
                  refine wpAnyH_take (i := 1) (oi := ?oz8x1) (v := ?vz8x1) ?hiz8x1 (by kernel_rfl) (by kernel_rfl) (by kernel_rfl) (fun _ _ _ h => h) ?yz8x1 (by assumption) ?rz8x1
                  case hiz8x1 => (simp only [List.getElem?_toArray, List.getElem?_cons_succ, List.getElem?_cons_zero]; rfl)
                  case yz8x1 => (refine Or.inl ⟨by rfl, ?_⟩; intro w' hSw; (try dsimp only at hSw); go_simp; (try with_reducible rfl))
                  try simp only [Act.put, List.setIfInBounds_toArray, List.set_cons_zero, List.set_cons_succ]
                  refine wpAnyH_take (i := 2) (oi := ?oz8x2) (v := ?vz8x2) ?hiz8x2 (by kernel_rfl) (by kernel_rfl) (by kernel_rfl) (fun _ _ _ h => h) ?yz8x2 (by assumption) ?rz8x2
                  case hiz8x2 => (simp only [List.getElem?_toArray, List.getElem?_cons_succ, List.getElem?_cons_zero]; rfl)
                  case yz8x2 => (refine Or.inl ⟨by rfl, ?_⟩; intro w' hSw; (try dsimp only at hSw); go_simp; (try with_reducible rfl))
                  try simp only [Act.put, List.setIfInBounds_toArray, List.set_cons_zero, List.set_cons_succ]
                  refine wpAnyH_ready (rs := [3]) (by kernel_rfl) (by simp) ?_
                  refine AllReadyH.cons (o := ?oz8x3) ?hiz8x3 ?hstz8x3 AllReadyH.nil
                  case hiz8x3 => (simp only [List.getElem?_toArray, List.getElem?_cons_succ, List.getElem?_cons_zero]; rfl)
                  intro K hK
                  go_simp
                  (go_at_call 35; (with_reducible refine (HFc.out _).mono ?_); rintro e w1 ⟨rfl, hb1⟩)
                  go_wp2_with fail
                  refine hK.out _ _ ⟨Bx.Blk.keep hHeld.1 hb1, Bx.Blk.keep hHeld.2.1 hb1, Bx.keep_cell hb1 hHeld.2.2⟩ (fun hNew => ?_)
                  clear hHeld
                  have hHeld := hNew
                  clear hNew hK K
                  replace bel := Lib.hid (Bx.then_below bel.out hb1)
                  replace T0 := Lib.hid (T0.out.keep hb1)
                  replace R1 := Lib.hid (R1.out.keep hb1)
                  replace R2 := Lib.hid (R2.out.keep hb1)
                  replace O5 := Lib.hid (O5.out.keep hb1)
                  replace C7 := Lib.hid (C7.out.keep hb1)
                  replace D9 := Lib.hid (D9.out.keep hb1)
                  clear hb1
                  refine wpAnyH_take (i := 4) (oi := ?oz8x4) (v := ?vz8x4) ?hiz8x4 (by kernel_rfl) (by kernel_rfl) (by kernel_rfl) (fun _ _ _ h => h) ?yz8x4 (by assumption) ?rz8x4
                  case hiz8x4 => (simp only [List.getElem?_toArray, List.getElem?_cons_succ, List.getElem?_cons_zero]; rfl)
                  case yz8x4 => (refine Or.inl ⟨by rfl, ?_⟩; intro w' hSw; (try dsimp only at hSw); go_simp; (try with_reducible rfl))
                  try simp only [Act.put, List.setIfInBounds_toArray, List.set_cons_zero, List.set_cons_succ]
                  refine wpAnyH_take (i := 5) (oi := ?oz8x5) (v := cdv d) ?hiz8x5 (by kernel_rfl) (by kernel_rfl) (by kernel_rfl) (fun _ _ _ h => h) ?yz8x5 (by assumption) ?rz8x5
                  case hiz8x5 => (simp only [List.getElem?_toArray, List.getElem?_cons_succ, List.getElem?_cons_zero]; rfl)
                  case yz8x5 => (refine cd_yields rfl rfl (k9) rfl d ?_; intro w' hS; exact hS.1)
                  try simp only [Act.put, List.setIfInBounds_toArray, List.set_cons_zero, List.set_cons_succ]
                  refine wpAnyH_take (i := 7) (oi := ?oz8x7) (v := cdv c) ?hiz8x7 (by kernel_rfl) (by kernel_rfl) (by kernel_rfl) (fun _ _ _ h => h) ?yz8x7 (by assumption) ?rz8x7
                  case hiz8x7 => (simp only [List.getElem?_toArray, List.getElem?_cons_succ, List.getElem?_cons_zero]; rfl)
                  case yz8x7 => (refine cd_yields rfl rfl (k7) rfl c ?_; intro w' hS; exact hS.2.1)
                  try simp only [Act.put, List.setIfInBounds_toArray, List.set_cons_zero, List.set_cons_succ]
                  refine wpAnyH_ready (rs := [6]) (by kernel_rfl) (by simp) ?_
                  refine AllReadyH.cons (o := ?oz8x6) ?hiz8x6 ?hstz8x6 AllReadyH.nil
                  case hiz8x6 => (simp only [List.getElem?_toArray, List.getElem?_cons_succ, List.getElem?_cons_zero]; rfl)
                  intro K hK
                  go_simp
                  (go_at_call 36; (with_reducible refine (HWd.out _).mono ?_); rintro e w2 ⟨rfl, hb2⟩)
                  go_wp2_with fail
                  refine hK.out _ _ ⟨Bx.Blk.keep hHeld.1 hb2, Bx.Blk.keep hHeld.2.1 hb2, Bx.keep_cell hb2 hHeld.2.2⟩ (fun hNew => ?_)
                  clear hHeld
                  have hHeld := hNew
                  clear hNew hK K
                  replace bel := Lib.hid (Bx.then_below bel.out hb2)
                  replace T0 := Lib.hid (T0.out.keep hb2)
                  replace R1 := Lib.hid (R1.out.keep hb2)
                  replace R2 := Lib.hid (R2.out.keep hb2)
                  replace O5 := Lib.hid (O5.out.keep hb2)
                  replace C7 := Lib.hid (C7.out.keep hb2)
                  replace D9 := Lib.hid (D9.out.keep hb2)
                  clear hb2
                  refine wpAnyH_ready (rs := [8]) (by kernel_rfl) (by simp) ?_
                  refine AllReadyH.cons (o := ?oz8x8) ?hiz8x8 ?hstz8x8 AllReadyH.nil
                  case hiz8x8 => (simp only [List.getElem?_toArray, List.getElem?_cons_succ, List.getElem?_cons_zero]; rfl)
                  intro K hK
                  go_simp
                  (go_at_call 36; (with_reducible refine (HWc.out _).mono ?_); rintro e w3 ⟨rfl, hb3⟩)
                  go_wp2_with fail
                  refine hK.out _ _ ⟨Bx.Blk.keep hHeld.1 hb3, Bx.Blk.keep hHeld.2.1 hb3, Bx.keep_cell hb3 hHeld.2.2⟩ (fun hNew => ?_)
                  clear hHeld
                  have hHeld := hNew
                  clear hNew hK K
                  replace bel := Lib.hid (Bx.then_below bel.out hb3)
                  replace T0 := Lib.hid (T0.out.keep hb3)
                  replace R1 := Lib.hid (R1.out.keep hb3)
                  replace R2 := Lib.hid (R2.out.keep hb3)
                  replace O5 := Lib.hid (O5.out.keep hb3)
                  replace C7 := Lib.hid (C7.out.keep hb3)
                  replace D9 := Lib.hid (D9.out.keep hb3)
                  clear hb3
                  refine wpAnyH_ready (rs := [9]) (by kernel_rfl) (by simp) ?_
                  refine AllReadyH.cons (o := ?oz8x9) ?hiz8x9 ?hstz8x9 AllReadyH.nil
                  case hiz8x9 => (simp only [List.getElem?_toArray, List.getElem?_cons_succ, List.getElem?_cons_zero]; rfl)
                  intro K hK
                  go_simp
                  (go_at_call 33; (with_reducible refine (HBc.out _).mono ?_); rintro e w4 ⟨rfl, hb4⟩)
                  go_wp2_with fail
                  refine hK.out _ _ ⟨Bx.Blk.keep hHeld.1 hb4, Bx.Blk.keep hHeld.2.1 hb4, Bx.keep_cell hb4 hHeld.2.2⟩ (fun hNew => ?_)
                  clear hHeld
                  have hHeld := hNew
                  clear hNew hK K
                  replace bel := Lib.hid (Bx.then_below bel.out hb4)
                  replace T0 := Lib.hid (T0.out.keep hb4)
                  replace R1 := Lib.hid (R1.out.keep hb4)
                  replace R2 := Lib.hid (R2.out.keep hb4)
                  replace O5 := Lib.hid (O5.out.keep hb4)
                  replace C7 := Lib.hid (C7.out.keep hb4)
                  replace D9 := Lib.hid (D9.out.keep hb4)
                  clear hb4
                  refine wpAnyH_take (i := 10) (oi := ?oz8x10) (v := ?vz8x10) ?hiz8x10 (by kernel_rfl) (by kernel_rfl) (by kernel_rfl) (fun _ _ _ h => h) ?yz8x10 (by assumption) ?rz8x10
                  case hiz8x10 => (simp only [List.getElem?_toArray, List.getElem?_cons_succ, List.getElem?_cons_zero]; rfl)
                  case yz8x10 => (refine Or.inl ⟨by rfl, ?_⟩; intro w' hSw; (try dsimp only at hSw); go_simp; (try with_reducible rfl))
                  try simp only [Act.put, List.setIfInBounds_toArray, List.set_cons_zero, List.set_cons_succ]
                  refine wpAnyH_done (by kernel_rfl) ?_ _
                  refine NoPanic.normal ?_
                  clear hHeld
                  go_wp2_with fail
                  go_roundg g
                  case measure => omega
                  case rel => exact ⟨k + 1, by omega, by go_num, T0.out, R1.out, R2.out, O5.out, bel.out, fun j hj => if e : j = k then (by subst e; rw [hgo.out]; rintro ⟨_, _, h⟩; have h2 := h m hm (by rw [← hd.out]; exact hod.out); rw [← hd.out, hlt2.out] at h2; cases h2) else HG.out j (by omega)⟩

end Elt
end Go.Proofs.Ytkjdnmlaehjmgaa
