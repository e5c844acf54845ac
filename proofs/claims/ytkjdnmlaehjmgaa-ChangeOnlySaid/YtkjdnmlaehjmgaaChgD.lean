/-
  What Hear answers, and the document's.
-/
import Derived.Test.YtkjdnmlaehjmgaaChgB
import Derived.Test.YtkjdnmlaehjmgaaChgC
import Derived.Deep.CutBlock
namespace Go.Proofs.Ytkjdnmlaehjmgaa
open Go.RowKit
namespace Chg
open Pre Crd Tre Elt Rip

theorem put_self (x : Td) (i : Nat) : putT x i (x.cs i) = x := by
  unfold putT
  have e : upd x.cs i (x.cs i) = x.cs := by
    funext j
    unfold upd
    split
    · rename_i h; rw [h]
    · rfl
  rw [e]

set_option maxRecDepth 40000 in
set_option maxHeartbeats 8000000 in
theorem hear_any (x : Td) (i : Nat) (hi : i < 8) (b : Bd) (w : World) : Calls Try.prog 7 #[tdv x, .int .i64 (i : Int), bdv b] w fun e w' => e = .returned (.tuple #[tdv (herT x i b).1, .int .i64 (((herT x i b).2 : Nat) : Int)]) ∧ Below w.heap.size w w' := by
  have hi0 : (0 : Int) ≤ i := by omega
  have hi8 : (i : Int) < 8 := by omega
  have e0 : decide ((i : Int) < 0) = false := by simp
  have e8 : decide ((8 : Int) ≤ i) = false := by simp; omega
  have HP := Lib.hid ports_any
  have HS := Lib.hid start_any
  have HE : Hid (herT x i b = if (x.cs i).up = false then (x, 0) else if tellB b = true then (strT (putT x i (hrA (x.cs i) b)) ((prtI (putT x i (hrA (x.cs i) b)) i : Nat) : Int), prtI (putT x i (hrA (x.cs i) b)) i) else (putT x i (hrA (x.cs i) b), 0)) := Lib.hid rfl
  have hal := zero_at
  have T0 : Hid (Bx.Fre (w.alloc (tdo x)) w.heap.size (tdl x)) := Lib.hid (Bx.Fre.new w (tdl x) 31)
  have bel := Lib.hid (Bx.box_below w (tdo x))
  replace T0 := Lib.hid (T0.out.more (bdo b))
  have B1 : Hid (Bx.Fre ((w.alloc (tdo x)).alloc (bdo b)) (w.heap.size + 1) (bdl b)) := Lib.hid (Bx.Fre.new_at (W := (w.alloc (tdo x))) (k := w.heap.size + 1) (bdl b) 33 (by simp))
  replace bel := Lib.hid (Bx.bel_box bel.out (bdo b))
  replace T0 := Lib.hid (T0.out.more (tdo Td.zero))
  replace B1 := Lib.hid (B1.out.more (tdo Td.zero))
  have R2 : Hid (Bx.Fre (((w.alloc (tdo x)).alloc (bdo b)).alloc (tdo Td.zero)) (w.heap.size + 1 + 1) (tdl Td.zero)) := Lib.hid (Bx.Fre.new_at (W := ((w.alloc (tdo x)).alloc (bdo b))) (k := w.heap.size + 1 + 1) (tdl Td.zero) 31 (by simp))
  replace bel := Lib.hid (Bx.bel_box bel.out (tdo Td.zero))
  go_enter Try.func7, Try.ntmps7
  go_upto_region 1 with fail
  clear hal
  generalize (((w.alloc (tdo x)).alloc (bdo b)).alloc (tdo Td.zero)) = W0 at *
  have q0 : W0.cell? ⟨w.heap.size, 14 + i * 31, none⟩ = some (.bool (x.cs i).up) := cord_cell (x := x) T0.out.blk i 0 hi (by omega) rfl
  rcases Bool.eq_false_or_eq_true (x.cs i).up with h | h
  · replace HE := Lib.hid (HE.out.trans (if_neg (by rw [h]; decide)))
    rw [h] at q0
    clear h
    have HA := Lib.hid (answered_any (x.cs i) b)
    generalize hrA (x.cs i) b = a at *
    go_upto_region 3 with fail
    clear q0
    refine wp_region_noPanic ?_
    refine wp_region_held_drew (S := fun w' => Bx.Blk w' (w.heap.size + 1) (bdl b)) (by kernel_rfl) (by exact B1.out.blk) (fun hHeld => ?_)
    refine wpAnyH_take (i := 0) (oi := ?ot1x1) (v := ?vt1x1) ?hit1x1 (by kernel_rfl) (by kernel_rfl) (by kernel_rfl) (fun _ _ _ h => h) ?yt1x1 (by assumption) ?rt1x1
    case hit1x1 => (simp only [List.getElem?_toArray, List.getElem?_cons_zero]; rfl)
    case yt1x1 => (refine Or.inl ⟨by rfl, ?_⟩; intro w' hSw; (try dsimp only at hSw); go_simp; (try with_reducible rfl))
    try simp only [Act.put, List.setIfInBounds_toArray, List.set_cons_zero, List.set_cons_succ]
    refine wpAnyH_take (i := 1) (oi := ?ot1x2) (v := ?vt1x2) ?hit1x2 (by kernel_rfl) (by kernel_rfl) (by kernel_rfl) (fun _ _ _ h => h) ?yt1x2 (by assumption) ?rt1x2
    case hit1x2 => (simp only [List.getElem?_toArray, List.getElem?_cons_succ, List.getElem?_cons_zero]; rfl)
    case yt1x2 => (refine Or.inl ⟨by rfl, ?_⟩; intro w' hSw; (try dsimp only at hSw); go_simp; (try with_reducible rfl))
    try simp only [Act.put, List.setIfInBounds_toArray, List.set_cons_zero, List.set_cons_succ]
    refine wpAnyH_take (i := 2) (oi := ?ot1x3) (v := ?vt1x3) ?hit1x3 (by kernel_rfl) (by kernel_rfl) (by kernel_rfl) (fun _ _ _ h => h) ?yt1x3 (by assumption) ?rt1x3
    case hit1x3 => (simp only [List.getElem?_toArray, List.getElem?_cons_succ, List.getElem?_cons_zero]; rfl)
    case yt1x3 => (refine Or.inl ⟨by rfl, ?_⟩; intro w' hSw; (try dsimp only at hSw); go_simp; (try with_reducible rfl))
    try simp only [Act.put, List.setIfInBounds_toArray, List.set_cons_zero, List.set_cons_succ]
    refine wpAnyH_take (i := 3) (oi := ?ot1x4) (v := ?vt1x4) ?hit1x4 (by kernel_rfl) (by kernel_rfl) (by kernel_rfl) (fun _ _ _ h => h) ?yt1x4 (by assumption) ?rt1x4
    case hit1x4 => (simp only [List.getElem?_toArray, List.getElem?_cons_succ, List.getElem?_cons_zero]; rfl)
    case yt1x4 => (refine Or.inl ⟨by rfl, ?_⟩; intro w' hSw; (try dsimp only at hSw); go_simp; (try with_reducible rfl))
    try simp only [Act.put, List.setIfInBounds_toArray, List.set_cons_zero, List.set_cons_succ]
    refine wpAnyH_take (i := 5) (oi := ?ot1x5) (v := bdv b) ?hit1x5 (by kernel_rfl) (by kernel_rfl) (by kernel_rfl) (fun _ _ _ h => h) ?yt1x5 (by assumption) ?rt1x5
    case hit1x5 => (simp only [List.getElem?_toArray, List.getElem?_cons_succ, List.getElem?_cons_zero]; rfl)
    case yt1x5 => (refine bd_yields rfl rfl (w.heap.size + 1) rfl b ?_; intro w' hS; exact hS)
    try simp only [Act.put, List.setIfInBounds_toArray, List.set_cons_zero, List.set_cons_succ]
    refine wpAnyH_take (i := 7) (oi := ?ot1x6) (v := ?vt1x6) ?hit1x6 (by kernel_rfl) (by kernel_rfl) (by kernel_rfl) (fun _ _ _ h => h) ?yt1x6 (by assumption) ?rt1x6
    case hit1x6 => (simp only [List.getElem?_toArray, List.getElem?_cons_succ, List.getElem?_cons_zero]; rfl)
    case yt1x6 => (refine Or.inl ⟨by rfl, ?_⟩; intro w' hSw; (try dsimp only at hSw); go_simp; (try with_reducible rfl))
    try simp only [Act.put, List.setIfInBounds_toArray, List.set_cons_zero, List.set_cons_succ]
    refine wpAnyH_ready (rs := [4]) (by kernel_rfl) (by simp) ?_
    refine AllReadyH.cons (o := ?ot1x7) ?hit1x7 ?hstt1x7 AllReadyH.nil
    case hit1x7 => (simp only [List.getElem?_toArray, List.getElem?_cons_succ, List.getElem?_cons_zero]; rfl)
    intro K hK
    rw [if_pos (by rfl)]
    refine ccr_wp rfl (w.heap.size) i (by omega) rfl x T0.out.drew.blk ?_
    refine hK.out _ _ hHeld (fun _ => ?_)
    clear hK K
    try simp only [Act.put, List.setIfInBounds_toArray, List.set_cons_zero, List.set_cons_succ]
    refine wpAnyH_ready (rs := [6]) (by kernel_rfl) (by simp) ?_
    refine AllReadyH.cons (o := ?ot1x9) ?hit1x9 ?hstt1x9 AllReadyH.nil
    case hit1x9 => (simp only [List.getElem?_toArray, List.getElem?_cons_succ, List.getElem?_cons_zero]; rfl)
    intro K hK
    go_simp
    (go_at_call 19; (with_reducible refine (HA.out _).mono ?_); rintro e vt1x10 ⟨rfl, hb⟩)
    go_wp2_with fail
    refine hK.out _ _ (by exact Bx.Blk.keep hHeld hb) (fun hNew => ?_)
    clear hHeld
    have hHeld := hNew
    clear hNew hK K
    replace bel := Lib.hid (Bx.then_below (Bx.bel_drewn bel.out) hb)
    replace T0 := Lib.hid (T0.out.drew.keep hb)
    replace B1 := Lib.hid (B1.out.drew.keep hb)
    replace R2 := Lib.hid (R2.out.drew.keep hb)
    clear hb
    refine wpAnyH_take (i := 8) (oi := ?ot1x11) (v := ?vt1x11) ?hit1x11 (by kernel_rfl) (by kernel_rfl) (by kernel_rfl) (fun _ _ _ h => h) ?yt1x11 (by assumption) ?rt1x11
    case hit1x11 => (simp only [List.getElem?_toArray, List.getElem?_cons_succ, List.getElem?_cons_zero]; rfl)
    case yt1x11 => (refine Or.inl ⟨by rfl, ?_⟩; intro w' hSw; (try dsimp only at hSw); go_simp; (try with_reducible rfl))
    try simp only [Act.put, List.setIfInBounds_toArray, List.set_cons_zero, List.set_cons_succ]
    refine wpAnyH_ready (rs := [9]) (by kernel_rfl) (by simp) ?_
    refine AllReadyH.cons (o := ?ot1x12) ?hit1x12 ?hstt1x12 AllReadyH.nil
    case hit1x12 => (simp only [List.getElem?_toArray, List.getElem?_cons_succ, List.getElem?_cons_zero]; rfl)
    intro K hK
    rw [if_pos (by rfl)]
    refine cc_wp rfl (w.heap.size) i (by omega) rfl a rfl x T0.out ?_
    refine hK.out _ _ (by exact Bx.Blk.apart_at _ _ (by omega) hHeld) (fun hNew => ?_)
    clear hHeld
    have hHeld := hNew
    clear hNew hK K
    try simp only [Act.put]
    replace bel := Lib.hid (Bx.bel_put_at (k := w.heap.size) (cdl a) (14 + i * 31) (by omega) bel.out)
    replace B1 := Lib.hid (B1.out.apart_at (k' := w.heap.size) (cdl a) (14 + i * 31) (by omega))
    replace R2 := Lib.hid (R2.out.apart_at (k' := w.heap.size) (cdl a) (14 + i * 31) (by omega))
    replace T0 := Lib.hid ((Bx.Fre.put_at (cdl a) (14 + i * 31) T0.out).of (m := tdl (putT x i a)) (tdl_upd x i (by omega) a))
    generalize vt1x10.setCells (w.heap.size) (14 + i * 31) (cdl a) = vt1x13 at *
    refine wpAnyH_done (by kernel_rfl) ?_ _
    refine NoPanic.normal ?_
    clear hHeld
    clear HA
    obtain ⟨y, hy⟩ : ∃ y, y = putT x i a := ⟨_, rfl⟩
    rw [← hy] at T0 HE
    clear hy
    by_cases h4 : b.k = 128
    · have g4 : (b.k != 128) = false := by simp [h4]
      have B1_0 := B1.out.at 0 rfl
      replace HE := Lib.hid (HE.out.trans (if_pos (by unfold tellB; simp [h4])))
      have HP2 := Lib.hid (HP.out y (i : Int))
      have HS2 := Lib.hid (HS.out y ((prtI y (i : Int) : Nat) : Int))
      generalize prtI y (i : Int) = n at *
      generalize strT y (n : Int) = u at *
      clear h4
      go_wp2_with (first | ((with_reducible refine td_load ?_ ?_ (w.heap.size) ?_ y ?_ ?_); (· rfl); (· rfl); (· rfl); (· exact T0.out.blk)) | ((with_reducible refine cs_load ?_ ?_ (w.heap.size) ?_ y ?_ ?_); (· rfl); (· rfl); (· rfl); (· exact T0.out.blk)))
      refine (HP2.out _).mono ?_; rintro e w1 ⟨rfl, hb⟩
      replace T0 := Lib.hid (T0.out.keep hb)
      replace B1 := Lib.hid (B1.out.keep hb)
      replace R2 := Lib.hid (R2.out.keep hb)
      replace bel := Lib.hid (Bx.then_below bel.out hb)
      clear hb
      go_wp2_with (first | ((with_reducible refine td_load ?_ ?_ (w.heap.size) ?_ y ?_ ?_); (· rfl); (· rfl); (· rfl); (· exact T0.out.blk)) | ((with_reducible refine cs_load ?_ ?_ (w.heap.size) ?_ y ?_ ?_); (· rfl); (· rfl); (· rfl); (· exact T0.out.blk)))
      refine (HS2.out _).mono ?_; rintro e w2 ⟨rfl, hb⟩
      replace T0 := Lib.hid (T0.out.keep hb)
      replace B1 := Lib.hid (B1.out.keep hb)
      replace R2 := Lib.hid (R2.out.keep hb)
      replace bel := Lib.hid (Bx.then_below bel.out hb)
      clear hb
      go_wp2_with (first | ((with_reducible refine td_store ?_ ?_ (w.heap.size + 1 + 1) u ?_ ?_ (tdl Td.zero) ?_ ?_ ?_); (· rfl); (· rfl); (· rfl); (· rfl); (· exact tdl_len _); (· exact R2.out.own)) | ((with_reducible refine td_load ?_ ?_ (w.heap.size) ?_ y ?_ ?_); (· rfl); (· rfl); (· rfl); (· exact T0.out.blk)) | ((with_reducible refine cs_load ?_ ?_ (w.heap.size) ?_ y ?_ ?_); (· rfl); (· rfl); (· rfl); (· exact T0.out.blk)))
      replace T0 := Lib.hid (T0.out.apart_at (k' := w.heap.size + 1 + 1) (tdl u) 0 (by omega))
      replace B1 := Lib.hid (B1.out.apart_at (k' := w.heap.size + 1 + 1) (tdl u) 0 (by omega))
      replace bel := Lib.hid (Bx.bel_put_at (k := w.heap.size + 1 + 1) (tdl u) 0 (by omega) bel.out)
      replace R2 := Lib.hid (R2.out.full (m := (tdl u)) (by rw [tdl_len, tdl_len]))
      exact bodyPost_ret (v := .tuple #[tdv u, .int .i64 (n : Int)]) (td_result2 Try.results7 rfl rfl R2.out.blk) rfl ⟨by rw [HE.out], bel.out⟩
    · have g4 : (b.k != 128) = true := by simp [h4]
      rcases Bool.eq_false_or_eq_true b.ch with h5 | h5
      · have B1_0 := B1.out.at 0 rfl
        have B1_1 := B1.out.at 1 rfl
        rw [h5] at B1_1
        clear h4
        replace HE := Lib.hid (HE.out.trans (if_pos (by unfold tellB; simp [h5])))
        have HP2 := Lib.hid (HP.out y (i : Int))
        have HS2 := Lib.hid (HS.out y ((prtI y (i : Int) : Nat) : Int))
        generalize prtI y (i : Int) = n at *
        generalize strT y (n : Int) = u at *
        clear h5
        go_wp2_with (first | ((with_reducible refine td_load ?_ ?_ (w.heap.size) ?_ y ?_ ?_); (· rfl); (· rfl); (· rfl); (· exact T0.out.blk)) | ((with_reducible refine cs_load ?_ ?_ (w.heap.size) ?_ y ?_ ?_); (· rfl); (· rfl); (· rfl); (· exact T0.out.blk)))
        refine (HP2.out _).mono ?_; rintro e w1 ⟨rfl, hb⟩
        replace T0 := Lib.hid (T0.out.keep hb)
        replace B1 := Lib.hid (B1.out.keep hb)
        replace R2 := Lib.hid (R2.out.keep hb)
        replace bel := Lib.hid (Bx.then_below bel.out hb)
        clear hb
        go_wp2_with (first | ((with_reducible refine td_load ?_ ?_ (w.heap.size) ?_ y ?_ ?_); (· rfl); (· rfl); (· rfl); (· exact T0.out.blk)) | ((with_reducible refine cs_load ?_ ?_ (w.heap.size) ?_ y ?_ ?_); (· rfl); (· rfl); (· rfl); (· exact T0.out.blk)))
        refine (HS2.out _).mono ?_; rintro e w2 ⟨rfl, hb⟩
        replace T0 := Lib.hid (T0.out.keep hb)
        replace B1 := Lib.hid (B1.out.keep hb)
        replace R2 := Lib.hid (R2.out.keep hb)
        replace bel := Lib.hid (Bx.then_below bel.out hb)
        clear hb
        go_wp2_with (first | ((with_reducible refine td_store ?_ ?_ (w.heap.size + 1 + 1) u ?_ ?_ (tdl Td.zero) ?_ ?_ ?_); (· rfl); (· rfl); (· rfl); (· rfl); (· exact tdl_len _); (· exact R2.out.own)) | ((with_reducible refine td_load ?_ ?_ (w.heap.size) ?_ y ?_ ?_); (· rfl); (· rfl); (· rfl); (· exact T0.out.blk)) | ((with_reducible refine cs_load ?_ ?_ (w.heap.size) ?_ y ?_ ?_); (· rfl); (· rfl); (· rfl); (· exact T0.out.blk)))
        replace T0 := Lib.hid (T0.out.apart_at (k' := w.heap.size + 1 + 1) (tdl u) 0 (by omega))
        replace B1 := Lib.hid (B1.out.apart_at (k' := w.heap.size + 1 + 1) (tdl u) 0 (by omega))
        replace bel := Lib.hid (Bx.bel_put_at (k := w.heap.size + 1 + 1) (tdl u) 0 (by omega) bel.out)
        replace R2 := Lib.hid (R2.out.full (m := (tdl u)) (by rw [tdl_len, tdl_len]))
        exact bodyPost_ret (v := .tuple #[tdv u, .int .i64 (n : Int)]) (td_result2 Try.results7 rfl rfl R2.out.blk) rfl ⟨by rw [HE.out], bel.out⟩
      · replace HE := Lib.hid (HE.out.trans (if_neg (by unfold tellB; simp [h4, h5])))
        have B1_0 := B1.out.at 0 rfl
        have B1_1 := B1.out.at 1 rfl
        rw [h5] at B1_1
        clear h4 h5
        go_wp2_with (first | ((with_reducible refine td_store ?_ ?_ (w.heap.size + 1 + 1) y ?_ ?_ (tdl Td.zero) ?_ ?_ ?_); (· rfl); (· rfl); (· rfl); (· rfl); (· exact tdl_len _); (· exact R2.out.own)) | ((with_reducible refine td_load ?_ ?_ (w.heap.size) ?_ y ?_ ?_); (· rfl); (· rfl); (· rfl); (· exact T0.out.blk)) | ((with_reducible refine cs_load ?_ ?_ (w.heap.size) ?_ y ?_ ?_); (· rfl); (· rfl); (· rfl); (· exact T0.out.blk)))
        replace T0 := Lib.hid (T0.out.apart_at (k' := w.heap.size + 1 + 1) (tdl y) 0 (by omega))
        replace B1 := Lib.hid (B1.out.apart_at (k' := w.heap.size + 1 + 1) (tdl y) 0 (by omega))
        replace bel := Lib.hid (Bx.bel_put_at (k := w.heap.size + 1 + 1) (tdl y) 0 (by omega) bel.out)
        replace R2 := Lib.hid (R2.out.full (m := (tdl y)) (by rw [tdl_len, tdl_len]))
        exact bodyPost_ret (v := .tuple #[tdv y, .int .i64 0]) (td_result2 Try.results7 rfl rfl R2.out.blk) rfl ⟨by rw [HE.out]; first | done | rfl, bel.out⟩
  · replace HE := Lib.hid (HE.out.trans (if_pos h))
    rw [h] at q0
    clear h
    go_wp2_with (first | ((with_reducible refine td_store ?_ ?_ (w.heap.size + 1 + 1) x ?_ ?_ (tdl Td.zero) ?_ ?_ ?_); (· rfl); (· rfl); (· rfl); (· rfl); (· exact tdl_len _); (· exact R2.out.own)) | ((with_reducible refine td_load ?_ ?_ (w.heap.size) ?_ x ?_ ?_); (· rfl); (· rfl); (· rfl); (· exact T0.out.blk)) | ((with_reducible refine cs_load ?_ ?_ (w.heap.size) ?_ x ?_ ?_); (· rfl); (· rfl); (· rfl); (· exact T0.out.blk)))
    replace T0 := Lib.hid (T0.out.apart_at (k' := w.heap.size + 1 + 1) (tdl x) 0 (by omega))
    replace B1 := Lib.hid (B1.out.apart_at (k' := w.heap.size + 1 + 1) (tdl x) 0 (by omega))
    replace bel := Lib.hid (Bx.bel_put_at (k := w.heap.size + 1 + 1) (tdl x) 0 (by omega) bel.out)
    replace R2 := Lib.hid (R2.out.full (m := (tdl x)) (by rw [tdl_len, tdl_len]))
    exact bodyPost_ret (v := .tuple #[tdv x, .int .i64 0]) (td_result2 Try.results7 rfl rfl R2.out.blk) rfl ⟨by rw [HE.out]; first | done | rfl, bel.out⟩

set_option maxRecDepth 40000 in
set_option maxHeartbeats 8000000 in
theorem hear_out (x : Td) (i : Int) (b : Bd) (w : World) (h : i < 0 ∨ 8 ≤ i) : Calls Try.prog 7 #[tdv x, .int .i64 i, bdv b] w fun e w' => e = .returned (.tuple #[tdv x, .int .i64 0]) ∧ Below w.heap.size w w' := by
  have hal := zero_at
  have T0 : Hid (Bx.Fre (w.alloc (tdo x)) w.heap.size (tdl x)) := Lib.hid (Bx.Fre.new w (tdl x) 31)
  have bel := Lib.hid (Bx.box_below w (tdo x))
  replace T0 := Lib.hid (T0.out.more (bdo b))
  have B1 : Hid (Bx.Fre ((w.alloc (tdo x)).alloc (bdo b)) (w.heap.size + 1) (bdl b)) := Lib.hid (Bx.Fre.new_at (W := (w.alloc (tdo x))) (k := w.heap.size + 1) (bdl b) 33 (by simp))
  replace bel := Lib.hid (Bx.bel_box bel.out (bdo b))
  replace T0 := Lib.hid (T0.out.more (tdo Td.zero))
  replace B1 := Lib.hid (B1.out.more (tdo Td.zero))
  have R2 : Hid (Bx.Fre (((w.alloc (tdo x)).alloc (bdo b)).alloc (tdo Td.zero)) (w.heap.size + 1 + 1) (tdl Td.zero)) := Lib.hid (Bx.Fre.new_at (W := ((w.alloc (tdo x)).alloc (bdo b))) (k := w.heap.size + 1 + 1) (tdl Td.zero) 31 (by simp))
  replace bel := Lib.hid (Bx.bel_box bel.out (tdo Td.zero))
  go_enter Try.func7, Try.ntmps7
  go_upto_region 1 with fail
  clear hal
  generalize (((w.alloc (tdo x)).alloc (bdo b)).alloc (tdo Td.zero)) = W0 at *
  by_cases h0 : i < 0
  · have e0 : decide (i < 0) = true := by simp [h0]
    go_wp2_with (first | ((with_reducible refine td_store ?_ ?_ (w.heap.size + 1 + 1) x ?_ ?_ (tdl Td.zero) ?_ ?_ ?_); (· rfl); (· rfl); (· rfl); (· rfl); (· exact tdl_len _); (· exact R2.out.own)) | ((with_reducible refine td_load ?_ ?_ (w.heap.size) ?_ x ?_ ?_); (· rfl); (· rfl); (· rfl); (· exact T0.out.blk)) | ((with_reducible refine cs_load ?_ ?_ (w.heap.size) ?_ x ?_ ?_); (· rfl); (· rfl); (· rfl); (· exact T0.out.blk)))
    replace T0 := Lib.hid (T0.out.apart_at (k' := w.heap.size + 1 + 1) (tdl x) 0 (by omega))
    replace B1 := Lib.hid (B1.out.apart_at (k' := w.heap.size + 1 + 1) (tdl x) 0 (by omega))
    replace bel := Lib.hid (Bx.bel_put_at (k := w.heap.size + 1 + 1) (tdl x) 0 (by omega) bel.out)
    replace R2 := Lib.hid (R2.out.full (m := (tdl x)) (by rw [tdl_len, tdl_len]))
    exact bodyPost_ret (v := .tuple #[tdv x, .int .i64 0]) (td_result2 Try.results7 rfl rfl R2.out.blk) rfl ⟨rfl, bel.out⟩
  · have h8 : 8 ≤ i := by omega
    have e0 : decide (i < 0) = false := by simp; omega
    have e8 : decide (8 ≤ i) = true := by simp [h8]
    go_wp2_with (first | ((with_reducible refine td_store ?_ ?_ (w.heap.size + 1 + 1) x ?_ ?_ (tdl Td.zero) ?_ ?_ ?_); (· rfl); (· rfl); (· rfl); (· rfl); (· exact tdl_len _); (· exact R2.out.own)) | ((with_reducible refine td_load ?_ ?_ (w.heap.size) ?_ x ?_ ?_); (· rfl); (· rfl); (· rfl); (· exact T0.out.blk)) | ((with_reducible refine cs_load ?_ ?_ (w.heap.size) ?_ x ?_ ?_); (· rfl); (· rfl); (· rfl); (· exact T0.out.blk)))
    replace T0 := Lib.hid (T0.out.apart_at (k' := w.heap.size + 1 + 1) (tdl x) 0 (by omega))
    replace B1 := Lib.hid (B1.out.apart_at (k' := w.heap.size + 1 + 1) (tdl x) 0 (by omega))
    replace bel := Lib.hid (Bx.bel_put_at (k := w.heap.size + 1 + 1) (tdl x) 0 (by omega) bel.out)
    replace R2 := Lib.hid (R2.out.full (m := (tdl x)) (by rw [tdl_len, tdl_len]))
    exact bodyPost_ret (v := .tuple #[tdv x, .int .i64 0]) (td_result2 Try.results7 rfl rfl R2.out.blk) rfl ⟨rfl, bel.out⟩

set_option maxRecDepth 40000 in
set_option maxHeartbeats 8000000 in
theorem rhear_any (x : Td) (i : Nat) (hi : i < 8) (b : Bd) (w : World) : Calls Try.prog 8 #[tdv x, .int .i64 (i : Int), bdv b] w fun e w' => e = .returned (.tuple #[tdv (herT x i b).1, .int .i64 (((herT x i b).2 : Nat) : Int)]) ∧ Below w.heap.size w w' := by
  have hi0 : (0 : Int) ≤ i := by omega
  have hi8 : (i : Int) < 8 := by omega
  have e0 : decide ((i : Int) < 0) = false := by simp
  have e8 : decide ((8 : Int) ≤ i) = false := by simp; omega
  have HP := Lib.hid rports_any
  have HS := Lib.hid rstart_any
  have HE : Hid (herT x i b = if (x.cs i).up = false then (x, 0) else if tellB b = true then (strT (putT x i (hrA (x.cs i) b)) ((prtI (putT x i (hrA (x.cs i) b)) i : Nat) : Int), prtI (putT x i (hrA (x.cs i) b)) i) else (putT x i (hrA (x.cs i) b), 0)) := Lib.hid rfl
  have hal := zero_at
  have T0 : Hid (Bx.Fre (w.alloc (tdo x)) w.heap.size (tdl x)) := Lib.hid (Bx.Fre.new w (tdl x) 31)
  have bel := Lib.hid (Bx.box_below w (tdo x))
  replace T0 := Lib.hid (T0.out.more (bdo b))
  have B1 : Hid (Bx.Fre ((w.alloc (tdo x)).alloc (bdo b)) (w.heap.size + 1) (bdl b)) := Lib.hid (Bx.Fre.new_at (W := (w.alloc (tdo x))) (k := w.heap.size + 1) (bdl b) 33 (by simp))
  replace bel := Lib.hid (Bx.bel_box bel.out (bdo b))
  replace T0 := Lib.hid (T0.out.more (tdo Td.zero))
  replace B1 := Lib.hid (B1.out.more (tdo Td.zero))
  have R2 : Hid (Bx.Fre (((w.alloc (tdo x)).alloc (bdo b)).alloc (tdo Td.zero)) (w.heap.size + 1 + 1) (tdl Td.zero)) := Lib.hid (Bx.Fre.new_at (W := ((w.alloc (tdo x)).alloc (bdo b))) (k := w.heap.size + 1 + 1) (tdl Td.zero) 31 (by simp))
  replace bel := Lib.hid (Bx.bel_box bel.out (tdo Td.zero))
  go_enter Try.func8, Try.ntmps8
  go_upto_region 1 with fail
  clear hal
  generalize (((w.alloc (tdo x)).alloc (bdo b)).alloc (tdo Td.zero)) = W0 at *
  have q0 : W0.cell? ⟨w.heap.size, 14 + i * 31, none⟩ = some (.bool (x.cs i).up) := cord_cell (x := x) T0.out.blk i 0 hi (by omega) rfl
  rcases Bool.eq_false_or_eq_true (x.cs i).up with h | h
  · replace HE := Lib.hid (HE.out.trans (if_neg (by rw [h]; decide)))
    rw [h] at q0
    clear h
    have HA : Hid (hrA (x.cs i) b = if b.k = 128 then { x.cs i with ack := decide ((x.cs i).role = 3), tel := true } else if b.ac = true then { x.cs i with chg := 0 } else x.cs i) := Lib.hid rfl
    have h03 : w.heap.size + 1 + 1 < W0.heap.size := R2.out.2.1
    have U0 := T0
    replace T0 := Lib.hid (T0.out.more (cdo (x.cs i)))
    replace B1 := Lib.hid (B1.out.more (cdo (x.cs i)))
    replace R2 := Lib.hid (R2.out.more (cdo (x.cs i)))
    have C8 : Hid (Bx.Fre (W0.alloc (cdo (x.cs i))) W0.heap.size (cdl (x.cs i))) := Lib.hid (Bx.Fre.new W0 (cdl (x.cs i)) 28)
    replace bel := Lib.hid (Bx.bel_box bel.out (cdo (x.cs i)))
    go_upto_region 4 with (first | ((with_reducible refine cc_load ?_ ?_ (w.heap.size) i hi ?_ x ?_ ?_); (· rfl); (· rfl); (· rfl); (· first | exact U0.out.blk | exact (U0.out.more (.cells (cdl Cd.zero).toArray 28)).blk)) | ((with_reducible refine cd_fresh ?_ ?_ (W0.heap.size) (x.cs i) ?_ ?_ W0 (cdl Cd.zero) ?_ ?_ ?_ ?_); (· rfl); (· rfl); (· rfl); (· rfl); (· rfl); (· rfl); (· first | rfl | (simp; done))))
    clear U0 q0
    have HQ := Lib.hid (put_self x i)
    obtain ⟨c, hc⟩ : ∃ c, c = x.cs i := ⟨_, rfl⟩
    rw [← hc] at C8 T0 B1 R2 bel HA HE HQ ⊢
    obtain ⟨k8, hk8⟩ : ∃ k, k = W0.heap.size := ⟨_, rfl⟩
    rw [← hk8] at C8 h03 ⊢
    generalize W0.alloc (cdo c) = w0 at *
    clear hk8 hc W0
    by_cases h : b.k = 128
    · replace HA := Lib.hid (HA.out.trans (if_pos h))
      have g : (b.k == 128) = true := by simp [h]
      clear h
      have B1_0 := B1.out.at 0 rfl
      go_upto_region 5 with fail
      clear B1_0
      by_cases h3 : c.role = 3
      · have g3 : (c.role == 3) = true := by simp [h3]
        rw [decide_eq_true h3] at HA
        clear h3
        have C8_13 := C8.out.at 13 rfl
        have C8_23 := C8.out.at 23 rfl
        have C8_22 := C8.out.at 22 rfl
        have C8f23 := C8.out.2.2 23
        have C8f22 := C8.out.2.2 22
        replace T0 := Lib.hid (T0.out.other (k' := k8) (o := 23) (x := .bool true) (by omega))
        replace B1 := Lib.hid (B1.out.other (k' := k8) (o := 23) (x := .bool true) (by omega))
        replace R2 := Lib.hid (R2.out.other (k' := k8) (o := 23) (x := .bool true) (by omega))
        replace bel := Lib.hid (Bx.bel_set (k := k8) (o := 23) (x := .bool true) (by omega) bel.out)
        replace C8 := Lib.hid ((C8.out.set (23) (.bool true)).of (m := (cdl { c with ack := true })) (by first | rfl | simp [enc, tenc]))
        replace T0 := Lib.hid (T0.out.other (k' := k8) (o := 22) (x := .bool true) (by omega))
        replace B1 := Lib.hid (B1.out.other (k' := k8) (o := 22) (x := .bool true) (by omega))
        replace R2 := Lib.hid (R2.out.other (k' := k8) (o := 22) (x := .bool true) (by omega))
        replace bel := Lib.hid (Bx.bel_set (k := k8) (o := 22) (x := .bool true) (by omega) bel.out)
        replace C8 := Lib.hid ((C8.out.set (22) (.bool true)).of (m := (cdl { c with ack := true, tel := true })) (by first | rfl | simp [enc, tenc]))
        go_upto_region 6 with fail
        clear C8_13 C8_23 C8_22 C8f23 C8f22
        generalize ((w0.setCell ⟨k8, 23, none⟩ (.bool true)).setCell ⟨k8, 22, none⟩ (.bool true)) = W6 at *
        have T9 := T0
        have C9 := C8
        replace B1 := Lib.hid (B1.out.apart_at (k' := w.heap.size) (cdl { c with ack := true, tel := true }) (14 + i * 31) (by omega))
        replace R2 := Lib.hid (R2.out.apart_at (k' := w.heap.size) (cdl { c with ack := true, tel := true }) (14 + i * 31) (by omega))
        replace C8 := Lib.hid (C8.out.apart_at (k' := w.heap.size) (cdl { c with ack := true, tel := true }) (14 + i * 31) (by omega))
        replace bel := Lib.hid (Bx.bel_put_at (k := w.heap.size) (cdl { c with ack := true, tel := true }) (14 + i * 31) (by omega) bel.out)
        replace T0 := Lib.hid ((Bx.Fre.put_at (cdl { c with ack := true, tel := true }) (14 + i * 31) T0.out).of (m := (tdl (putT x i { c with ack := true, tel := true }))) (tdl_upd x i hi { c with ack := true, tel := true }))
        go_upto_region 10 with (first | ((with_reducible refine cc_store ?_ ?_ (w.heap.size) i hi ?_ { c with ack := true, tel := true } ?_ x ?_ ?_); (· rfl); (· rfl); (· rfl); (· rfl); (· exact T9.out)) | ((with_reducible refine cd_load ?_ ?_ (k8) ?_ { c with ack := true, tel := true } ?_ ?_); (· rfl); (· rfl); (· rfl); (· exact C9.out.blk)))
        clear T9 C9
        generalize (W6.setCells (w.heap.size) (14 + i * 31) (cdl { c with ack := true, tel := true })) = W10 at *
        rw [HA.out] at HE
        clear HA
        obtain ⟨y, hy⟩ : ∃ y, y = putT x i { c with ack := true, tel := true } := ⟨_, rfl⟩
        rw [← hy] at T0 HE
        clear hy
        by_cases h4 : b.k = 128
        · have g4 : (b.k != 128) = false := by simp [h4]
          have B1_0 := B1.out.at 0 rfl
          replace HE := Lib.hid (HE.out.trans (if_pos (by unfold tellB; simp [h4])))
          have HP2 := Lib.hid (HP.out y (i : Int))
          have HS2 := Lib.hid (HS.out y ((prtI y (i : Int) : Nat) : Int))
          generalize prtI y (i : Int) = n at *
          generalize strT y (n : Int) = u at *
          clear h4
          go_wp2_with (first | ((with_reducible refine td_load ?_ ?_ (w.heap.size) ?_ y ?_ ?_); (· rfl); (· rfl); (· rfl); (· exact T0.out.blk)) | ((with_reducible refine cs_load ?_ ?_ (w.heap.size) ?_ y ?_ ?_); (· rfl); (· rfl); (· rfl); (· exact T0.out.blk)))
          refine (HP2.out _).mono ?_; rintro e w1 ⟨rfl, hb⟩
          replace T0 := Lib.hid (T0.out.keep hb)
          replace B1 := Lib.hid (B1.out.keep hb)
          replace R2 := Lib.hid (R2.out.keep hb)
          replace C8 := Lib.hid (C8.out.keep hb)
          replace bel := Lib.hid (Bx.then_below bel.out hb)
          clear hb
          go_wp2_with (first | ((with_reducible refine td_load ?_ ?_ (w.heap.size) ?_ y ?_ ?_); (· rfl); (· rfl); (· rfl); (· exact T0.out.blk)) | ((with_reducible refine cs_load ?_ ?_ (w.heap.size) ?_ y ?_ ?_); (· rfl); (· rfl); (· rfl); (· exact T0.out.blk)))
          refine (HS2.out _).mono ?_; rintro e w2 ⟨rfl, hb⟩
          replace T0 := Lib.hid (T0.out.keep hb)
          replace B1 := Lib.hid (B1.out.keep hb)
          replace R2 := Lib.hid (R2.out.keep hb)
          replace C8 := Lib.hid (C8.out.keep hb)
          replace bel := Lib.hid (Bx.then_below bel.out hb)
          clear hb
          go_wp2_with (first | ((with_reducible refine td_store ?_ ?_ (w.heap.size + 1 + 1) u ?_ ?_ (tdl Td.zero) ?_ ?_ ?_); (· rfl); (· rfl); (· rfl); (· rfl); (· exact tdl_len _); (· exact R2.out.own)) | ((with_reducible refine td_load ?_ ?_ (w.heap.size) ?_ y ?_ ?_); (· rfl); (· rfl); (· rfl); (· exact T0.out.blk)) | ((with_reducible refine cs_load ?_ ?_ (w.heap.size) ?_ y ?_ ?_); (· rfl); (· rfl); (· rfl); (· exact T0.out.blk)))
          replace T0 := Lib.hid (T0.out.apart_at (k' := w.heap.size + 1 + 1) (tdl u) 0 (by omega))
          replace B1 := Lib.hid (B1.out.apart_at (k' := w.heap.size + 1 + 1) (tdl u) 0 (by omega))
          replace C8 := Lib.hid (C8.out.apart_at (k' := w.heap.size + 1 + 1) (tdl u) 0 (by omega))
          replace bel := Lib.hid (Bx.bel_put_at (k := w.heap.size + 1 + 1) (tdl u) 0 (by omega) bel.out)
          replace R2 := Lib.hid (R2.out.full (m := (tdl u)) (by rw [tdl_len, tdl_len]))
          exact bodyPost_ret (v := .tuple #[tdv u, .int .i64 (n : Int)]) (td_result2 Try.results8 rfl rfl R2.out.blk) rfl ⟨by rw [HE.out], bel.out⟩
        · have g4 : (b.k != 128) = true := by simp [h4]
          rcases Bool.eq_false_or_eq_true b.ch with h5 | h5
          · have B1_0 := B1.out.at 0 rfl
            have B1_1 := B1.out.at 1 rfl
            rw [h5] at B1_1
            clear h4
            replace HE := Lib.hid (HE.out.trans (if_pos (by unfold tellB; simp [h5])))
            have HP2 := Lib.hid (HP.out y (i : Int))
            have HS2 := Lib.hid (HS.out y ((prtI y (i : Int) : Nat) : Int))
            generalize prtI y (i : Int) = n at *
            generalize strT y (n : Int) = u at *
            clear h5
            go_wp2_with (first | ((with_reducible refine td_load ?_ ?_ (w.heap.size) ?_ y ?_ ?_); (· rfl); (· rfl); (· rfl); (· exact T0.out.blk)) | ((with_reducible refine cs_load ?_ ?_ (w.heap.size) ?_ y ?_ ?_); (· rfl); (· rfl); (· rfl); (· exact T0.out.blk)))
            refine (HP2.out _).mono ?_; rintro e w1 ⟨rfl, hb⟩
            replace T0 := Lib.hid (T0.out.keep hb)
            replace B1 := Lib.hid (B1.out.keep hb)
            replace R2 := Lib.hid (R2.out.keep hb)
            replace C8 := Lib.hid (C8.out.keep hb)
            replace bel := Lib.hid (Bx.then_below bel.out hb)
            clear hb
            go_wp2_with (first | ((with_reducible refine td_load ?_ ?_ (w.heap.size) ?_ y ?_ ?_); (· rfl); (· rfl); (· rfl); (· exact T0.out.blk)) | ((with_reducible refine cs_load ?_ ?_ (w.heap.size) ?_ y ?_ ?_); (· rfl); (· rfl); (· rfl); (· exact T0.out.blk)))
            refine (HS2.out _).mono ?_; rintro e w2 ⟨rfl, hb⟩
            replace T0 := Lib.hid (T0.out.keep hb)
            replace B1 := Lib.hid (B1.out.keep hb)
            replace R2 := Lib.hid (R2.out.keep hb)
            replace C8 := Lib.hid (C8.out.keep hb)
            replace bel := Lib.hid (Bx.then_below bel.out hb)
            clear hb
            go_wp2_with (first | ((with_reducible refine td_store ?_ ?_ (w.heap.size + 1 + 1) u ?_ ?_ (tdl Td.zero) ?_ ?_ ?_); (· rfl); (· rfl); (· rfl); (· rfl); (· exact tdl_len _); (· exact R2.out.own)) | ((with_reducible refine td_load ?_ ?_ (w.heap.size) ?_ y ?_ ?_); (· rfl); (· rfl); (· rfl); (· exact T0.out.blk)) | ((with_reducible refine cs_load ?_ ?_ (w.heap.size) ?_ y ?_ ?_); (· rfl); (· rfl); (· rfl); (· exact T0.out.blk)))
            replace T0 := Lib.hid (T0.out.apart_at (k' := w.heap.size + 1 + 1) (tdl u) 0 (by omega))
            replace B1 := Lib.hid (B1.out.apart_at (k' := w.heap.size + 1 + 1) (tdl u) 0 (by omega))
            replace C8 := Lib.hid (C8.out.apart_at (k' := w.heap.size + 1 + 1) (tdl u) 0 (by omega))
            replace bel := Lib.hid (Bx.bel_put_at (k := w.heap.size + 1 + 1) (tdl u) 0 (by omega) bel.out)
            replace R2 := Lib.hid (R2.out.full (m := (tdl u)) (by rw [tdl_len, tdl_len]))
            exact bodyPost_ret (v := .tuple #[tdv u, .int .i64 (n : Int)]) (td_result2 Try.results8 rfl rfl R2.out.blk) rfl ⟨by rw [HE.out], bel.out⟩
          · replace HE := Lib.hid (HE.out.trans (if_neg (by unfold tellB; simp [h4, h5])))
            have B1_0 := B1.out.at 0 rfl
            have B1_1 := B1.out.at 1 rfl
            rw [h5] at B1_1
            clear h4 h5
            go_wp2_with (first | ((with_reducible refine td_store ?_ ?_ (w.heap.size + 1 + 1) y ?_ ?_ (tdl Td.zero) ?_ ?_ ?_); (· rfl); (· rfl); (· rfl); (· rfl); (· exact tdl_len _); (· exact R2.out.own)) | ((with_reducible refine td_load ?_ ?_ (w.heap.size) ?_ y ?_ ?_); (· rfl); (· rfl); (· rfl); (· exact T0.out.blk)) | ((with_reducible refine cs_load ?_ ?_ (w.heap.size) ?_ y ?_ ?_); (· rfl); (· rfl); (· rfl); (· exact T0.out.blk)))
            replace T0 := Lib.hid (T0.out.apart_at (k' := w.heap.size + 1 + 1) (tdl y) 0 (by omega))
            replace B1 := Lib.hid (B1.out.apart_at (k' := w.heap.size + 1 + 1) (tdl y) 0 (by omega))
            replace C8 := Lib.hid (C8.out.apart_at (k' := w.heap.size + 1 + 1) (tdl y) 0 (by omega))
            replace bel := Lib.hid (Bx.bel_put_at (k := w.heap.size + 1 + 1) (tdl y) 0 (by omega) bel.out)
            replace R2 := Lib.hid (R2.out.full (m := (tdl y)) (by rw [tdl_len, tdl_len]))
            exact bodyPost_ret (v := .tuple #[tdv y, .int .i64 0]) (td_result2 Try.results8 rfl rfl R2.out.blk) rfl ⟨by rw [HE.out]; first | done | rfl, bel.out⟩
      · have g3 : (c.role == 3) = false := by simp [h3]
        rw [decide_eq_false h3] at HA
        clear h3
        have C8_13 := C8.out.at 13 rfl
        have C8_23 := C8.out.at 23 rfl
        have C8_22 := C8.out.at 22 rfl
        have C8f23 := C8.out.2.2 23
        have C8f22 := C8.out.2.2 22
        replace T0 := Lib.hid (T0.out.other (k' := k8) (o := 23) (x := .bool false) (by omega))
        replace B1 := Lib.hid (B1.out.other (k' := k8) (o := 23) (x := .bool false) (by omega))
        replace R2 := Lib.hid (R2.out.other (k' := k8) (o := 23) (x := .bool false) (by omega))
        replace bel := Lib.hid (Bx.bel_set (k := k8) (o := 23) (x := .bool false) (by omega) bel.out)
        replace C8 := Lib.hid ((C8.out.set (23) (.bool false)).of (m := (cdl { c with ack := false })) (by first | rfl | simp [enc, tenc]))
        replace T0 := Lib.hid (T0.out.other (k' := k8) (o := 22) (x := .bool true) (by omega))
        replace B1 := Lib.hid (B1.out.other (k' := k8) (o := 22) (x := .bool true) (by omega))
        replace R2 := Lib.hid (R2.out.other (k' := k8) (o := 22) (x := .bool true) (by omega))
        replace bel := Lib.hid (Bx.bel_set (k := k8) (o := 22) (x := .bool true) (by omega) bel.out)
        replace C8 := Lib.hid ((C8.out.set (22) (.bool true)).of (m := (cdl { c with ack := false, tel := true })) (by first | rfl | simp [enc, tenc]))
        go_upto_region 6 with fail
        clear C8_13 C8_23 C8_22 C8f23 C8f22
        generalize ((w0.setCell ⟨k8, 23, none⟩ (.bool false)).setCell ⟨k8, 22, none⟩ (.bool true)) = W6 at *
        have T9 := T0
        have C9 := C8
        replace B1 := Lib.hid (B1.out.apart_at (k' := w.heap.size) (cdl { c with ack := false, tel := true }) (14 + i * 31) (by omega))
        replace R2 := Lib.hid (R2.out.apart_at (k' := w.heap.size) (cdl { c with ack := false, tel := true }) (14 + i * 31) (by omega))
        replace C8 := Lib.hid (C8.out.apart_at (k' := w.heap.size) (cdl { c with ack := false, tel := true }) (14 + i * 31) (by omega))
        replace bel := Lib.hid (Bx.bel_put_at (k := w.heap.size) (cdl { c with ack := false, tel := true }) (14 + i * 31) (by omega) bel.out)
        replace T0 := Lib.hid ((Bx.Fre.put_at (cdl { c with ack := false, tel := true }) (14 + i * 31) T0.out).of (m := (tdl (putT x i { c with ack := false, tel := true }))) (tdl_upd x i hi { c with ack := false, tel := true }))
        go_upto_region 10 with (first | ((with_reducible refine cc_store ?_ ?_ (w.heap.size) i hi ?_ { c with ack := false, tel := true } ?_ x ?_ ?_); (· rfl); (· rfl); (· rfl); (· rfl); (· exact T9.out)) | ((with_reducible refine cd_load ?_ ?_ (k8) ?_ { c with ack := false, tel := true } ?_ ?_); (· rfl); (· rfl); (· rfl); (· exact C9.out.blk)))
        clear T9 C9
        generalize (W6.setCells (w.heap.size) (14 + i * 31) (cdl { c with ack := false, tel := true })) = W10 at *
        rw [HA.out] at HE
        clear HA
        obtain ⟨y, hy⟩ : ∃ y, y = putT x i { c with ack := false, tel := true } := ⟨_, rfl⟩
        rw [← hy] at T0 HE
        clear hy
        by_cases h4 : b.k = 128
        · have g4 : (b.k != 128) = false := by simp [h4]
          have B1_0 := B1.out.at 0 rfl
          replace HE := Lib.hid (HE.out.trans (if_pos (by unfold tellB; simp [h4])))
          have HP2 := Lib.hid (HP.out y (i : Int))
          have HS2 := Lib.hid (HS.out y ((prtI y (i : Int) : Nat) : Int))
          generalize prtI y (i : Int) = n at *
          generalize strT y (n : Int) = u at *
          clear h4
          go_wp2_with (first | ((with_reducible refine td_load ?_ ?_ (w.heap.size) ?_ y ?_ ?_); (· rfl); (· rfl); (· rfl); (· exact T0.out.blk)) | ((with_reducible refine cs_load ?_ ?_ (w.heap.size) ?_ y ?_ ?_); (· rfl); (· rfl); (· rfl); (· exact T0.out.blk)))
          refine (HP2.out _).mono ?_; rintro e w1 ⟨rfl, hb⟩
          replace T0 := Lib.hid (T0.out.keep hb)
          replace B1 := Lib.hid (B1.out.keep hb)
          replace R2 := Lib.hid (R2.out.keep hb)
          replace C8 := Lib.hid (C8.out.keep hb)
          replace bel := Lib.hid (Bx.then_below bel.out hb)
          clear hb
          go_wp2_with (first | ((with_reducible refine td_load ?_ ?_ (w.heap.size) ?_ y ?_ ?_); (· rfl); (· rfl); (· rfl); (· exact T0.out.blk)) | ((with_reducible refine cs_load ?_ ?_ (w.heap.size) ?_ y ?_ ?_); (· rfl); (· rfl); (· rfl); (· exact T0.out.blk)))
          refine (HS2.out _).mono ?_; rintro e w2 ⟨rfl, hb⟩
          replace T0 := Lib.hid (T0.out.keep hb)
          replace B1 := Lib.hid (B1.out.keep hb)
          replace R2 := Lib.hid (R2.out.keep hb)
          replace C8 := Lib.hid (C8.out.keep hb)
          replace bel := Lib.hid (Bx.then_below bel.out hb)
          clear hb
          go_wp2_with (first | ((with_reducible refine td_store ?_ ?_ (w.heap.size + 1 + 1) u ?_ ?_ (tdl Td.zero) ?_ ?_ ?_); (· rfl); (· rfl); (· rfl); (· rfl); (· exact tdl_len _); (· exact R2.out.own)) | ((with_reducible refine td_load ?_ ?_ (w.heap.size) ?_ y ?_ ?_); (· rfl); (· rfl); (· rfl); (· exact T0.out.blk)) | ((with_reducible refine cs_load ?_ ?_ (w.heap.size) ?_ y ?_ ?_); (· rfl); (· rfl); (· rfl); (· exact T0.out.blk)))
          replace T0 := Lib.hid (T0.out.apart_at (k' := w.heap.size + 1 + 1) (tdl u) 0 (by omega))
          replace B1 := Lib.hid (B1.out.apart_at (k' := w.heap.size + 1 + 1) (tdl u) 0 (by omega))
          replace C8 := Lib.hid (C8.out.apart_at (k' := w.heap.size + 1 + 1) (tdl u) 0 (by omega))
          replace bel := Lib.hid (Bx.bel_put_at (k := w.heap.size + 1 + 1) (tdl u) 0 (by omega) bel.out)
          replace R2 := Lib.hid (R2.out.full (m := (tdl u)) (by rw [tdl_len, tdl_len]))
          exact bodyPost_ret (v := .tuple #[tdv u, .int .i64 (n : Int)]) (td_result2 Try.results8 rfl rfl R2.out.blk) rfl ⟨by rw [HE.out], bel.out⟩
        · have g4 : (b.k != 128) = true := by simp [h4]
          rcases Bool.eq_false_or_eq_true b.ch with h5 | h5
          · have B1_0 := B1.out.at 0 rfl
            have B1_1 := B1.out.at 1 rfl
            rw [h5] at B1_1
            clear h4
            replace HE := Lib.hid (HE.out.trans (if_pos (by unfold tellB; simp [h5])))
            have HP2 := Lib.hid (HP.out y (i : Int))
            have HS2 := Lib.hid (HS.out y ((prtI y (i : Int) : Nat) : Int))
            generalize prtI y (i : Int) = n at *
            generalize strT y (n : Int) = u at *
            clear h5
            go_wp2_with (first | ((with_reducible refine td_load ?_ ?_ (w.heap.size) ?_ y ?_ ?_); (· rfl); (· rfl); (· rfl); (· exact T0.out.blk)) | ((with_reducible refine cs_load ?_ ?_ (w.heap.size) ?_ y ?_ ?_); (· rfl); (· rfl); (· rfl); (· exact T0.out.blk)))
            refine (HP2.out _).mono ?_; rintro e w1 ⟨rfl, hb⟩
            replace T0 := Lib.hid (T0.out.keep hb)
            replace B1 := Lib.hid (B1.out.keep hb)
            replace R2 := Lib.hid (R2.out.keep hb)
            replace C8 := Lib.hid (C8.out.keep hb)
            replace bel := Lib.hid (Bx.then_below bel.out hb)
            clear hb
            go_wp2_with (first | ((with_reducible refine td_load ?_ ?_ (w.heap.size) ?_ y ?_ ?_); (· rfl); (· rfl); (· rfl); (· exact T0.out.blk)) | ((with_reducible refine cs_load ?_ ?_ (w.heap.size) ?_ y ?_ ?_); (· rfl); (· rfl); (· rfl); (· exact T0.out.blk)))
            refine (HS2.out _).mono ?_; rintro e w2 ⟨rfl, hb⟩
            replace T0 := Lib.hid (T0.out.keep hb)
            replace B1 := Lib.hid (B1.out.keep hb)
            replace R2 := Lib.hid (R2.out.keep hb)
            replace C8 := Lib.hid (C8.out.keep hb)
            replace bel := Lib.hid (Bx.then_below bel.out hb)
            clear hb
            go_wp2_with (first | ((with_reducible refine td_store ?_ ?_ (w.heap.size + 1 + 1) u ?_ ?_ (tdl Td.zero) ?_ ?_ ?_); (· rfl); (· rfl); (· rfl); (· rfl); (· exact tdl_len _); (· exact R2.out.own)) | ((with_reducible refine td_load ?_ ?_ (w.heap.size) ?_ y ?_ ?_); (· rfl); (· rfl); (· rfl); (· exact T0.out.blk)) | ((with_reducible refine cs_load ?_ ?_ (w.heap.size) ?_ y ?_ ?_); (· rfl); (· rfl); (· rfl); (· exact T0.out.blk)))
            replace T0 := Lib.hid (T0.out.apart_at (k' := w.heap.size + 1 + 1) (tdl u) 0 (by omega))
            replace B1 := Lib.hid (B1.out.apart_at (k' := w.heap.size + 1 + 1) (tdl u) 0 (by omega))
            replace C8 := Lib.hid (C8.out.apart_at (k' := w.heap.size + 1 + 1) (tdl u) 0 (by omega))
            replace bel := Lib.hid (Bx.bel_put_at (k := w.heap.size + 1 + 1) (tdl u) 0 (by omega) bel.out)
            replace R2 := Lib.hid (R2.out.full (m := (tdl u)) (by rw [tdl_len, tdl_len]))
            exact bodyPost_ret (v := .tuple #[tdv u, .int .i64 (n : Int)]) (td_result2 Try.results8 rfl rfl R2.out.blk) rfl ⟨by rw [HE.out], bel.out⟩
          · replace HE := Lib.hid (HE.out.trans (if_neg (by unfold tellB; simp [h4, h5])))
            have B1_0 := B1.out.at 0 rfl
            have B1_1 := B1.out.at 1 rfl
            rw [h5] at B1_1
            clear h4 h5
            go_wp2_with (first | ((with_reducible refine td_store ?_ ?_ (w.heap.size + 1 + 1) y ?_ ?_ (tdl Td.zero) ?_ ?_ ?_); (· rfl); (· rfl); (· rfl); (· rfl); (· exact tdl_len _); (· exact R2.out.own)) | ((with_reducible refine td_load ?_ ?_ (w.heap.size) ?_ y ?_ ?_); (· rfl); (· rfl); (· rfl); (· exact T0.out.blk)) | ((with_reducible refine cs_load ?_ ?_ (w.heap.size) ?_ y ?_ ?_); (· rfl); (· rfl); (· rfl); (· exact T0.out.blk)))
            replace T0 := Lib.hid (T0.out.apart_at (k' := w.heap.size + 1 + 1) (tdl y) 0 (by omega))
            replace B1 := Lib.hid (B1.out.apart_at (k' := w.heap.size + 1 + 1) (tdl y) 0 (by omega))
            replace C8 := Lib.hid (C8.out.apart_at (k' := w.heap.size + 1 + 1) (tdl y) 0 (by omega))
            replace bel := Lib.hid (Bx.bel_put_at (k := w.heap.size + 1 + 1) (tdl y) 0 (by omega) bel.out)
            replace R2 := Lib.hid (R2.out.full (m := (tdl y)) (by rw [tdl_len, tdl_len]))
            exact bodyPost_ret (v := .tuple #[tdv y, .int .i64 0]) (td_result2 Try.results8 rfl rfl R2.out.blk) rfl ⟨by rw [HE.out]; first | done | rfl, bel.out⟩
    · replace HA := Lib.hid (HA.out.trans (if_neg h))
      have g : (b.k == 128) = false := by simp [h]
      clear h
      have B1_0 := B1.out.at 0 rfl
      have B1_7 := B1.out.at 7 rfl
      rcases Bool.eq_false_or_eq_true b.ac with h | h
      · replace HA := Lib.hid (HA.out.trans (if_pos h))
        rw [h] at B1_7
        clear h
        go_upto_region 8 with fail
        have C8_27 := C8.out.at 27 rfl
        have C8f27 := C8.out.2.2 27
        replace T0 := Lib.hid (T0.out.other (k' := k8) (o := 27) (x := .int .i64 0) (by omega))
        replace B1 := Lib.hid (B1.out.other (k' := k8) (o := 27) (x := .int .i64 0) (by omega))
        replace R2 := Lib.hid (R2.out.other (k' := k8) (o := 27) (x := .int .i64 0) (by omega))
        replace bel := Lib.hid (Bx.bel_set (k := k8) (o := 27) (x := .int .i64 0) (by omega) bel.out)
        replace C8 := Lib.hid ((C8.out.set (27) (.int .i64 0)).of (m := (cdl { c with chg := 0 })) (by first | rfl | simp [enc, tenc]))
        go_upto_region 9 with fail
        clear C8_27 C8f27
        generalize (w0.setCell ⟨k8, 27, none⟩ (.int .i64 0)) = W9 at *
        have T9 := T0
        have C9 := C8
        replace B1 := Lib.hid (B1.out.apart_at (k' := w.heap.size) (cdl { c with chg := 0 }) (14 + i * 31) (by omega))
        replace R2 := Lib.hid (R2.out.apart_at (k' := w.heap.size) (cdl { c with chg := 0 }) (14 + i * 31) (by omega))
        replace C8 := Lib.hid (C8.out.apart_at (k' := w.heap.size) (cdl { c with chg := 0 }) (14 + i * 31) (by omega))
        replace bel := Lib.hid (Bx.bel_put_at (k := w.heap.size) (cdl { c with chg := 0 }) (14 + i * 31) (by omega) bel.out)
        replace T0 := Lib.hid ((Bx.Fre.put_at (cdl { c with chg := 0 }) (14 + i * 31) T0.out).of (m := (tdl (putT x i { c with chg := 0 }))) (tdl_upd x i hi { c with chg := 0 }))
        go_upto_region 10 with (first | ((with_reducible refine cc_store ?_ ?_ (w.heap.size) i hi ?_ { c with chg := 0 } ?_ x ?_ ?_); (· rfl); (· rfl); (· rfl); (· rfl); (· exact T9.out)) | ((with_reducible refine cd_load ?_ ?_ (k8) ?_ { c with chg := 0 } ?_ ?_); (· rfl); (· rfl); (· rfl); (· exact C9.out.blk)))
        clear T9 C9
        generalize (W9.setCells (w.heap.size) (14 + i * 31) (cdl { c with chg := 0 })) = W10 at *
        rw [HA.out] at HE
        clear HA
        obtain ⟨y, hy⟩ : ∃ y, y = putT x i { c with chg := 0 } := ⟨_, rfl⟩
        rw [← hy] at T0 HE
        clear hy
        by_cases h4 : b.k = 128
        · have g4 : (b.k != 128) = false := by simp [h4]
          have B1_0 := B1.out.at 0 rfl
          replace HE := Lib.hid (HE.out.trans (if_pos (by unfold tellB; simp [h4])))
          have HP2 := Lib.hid (HP.out y (i : Int))
          have HS2 := Lib.hid (HS.out y ((prtI y (i : Int) : Nat) : Int))
          generalize prtI y (i : Int) = n at *
          generalize strT y (n : Int) = u at *
          clear h4
          go_wp2_with (first | ((with_reducible refine td_load ?_ ?_ (w.heap.size) ?_ y ?_ ?_); (· rfl); (· rfl); (· rfl); (· exact T0.out.blk)) | ((with_reducible refine cs_load ?_ ?_ (w.heap.size) ?_ y ?_ ?_); (· rfl); (· rfl); (· rfl); (· exact T0.out.blk)))
          refine (HP2.out _).mono ?_; rintro e w1 ⟨rfl, hb⟩
          replace T0 := Lib.hid (T0.out.keep hb)
          replace B1 := Lib.hid (B1.out.keep hb)
          replace R2 := Lib.hid (R2.out.keep hb)
          replace C8 := Lib.hid (C8.out.keep hb)
          replace bel := Lib.hid (Bx.then_below bel.out hb)
          clear hb
          go_wp2_with (first | ((with_reducible refine td_load ?_ ?_ (w.heap.size) ?_ y ?_ ?_); (· rfl); (· rfl); (· rfl); (· exact T0.out.blk)) | ((with_reducible refine cs_load ?_ ?_ (w.heap.size) ?_ y ?_ ?_); (· rfl); (· rfl); (· rfl); (· exact T0.out.blk)))
          refine (HS2.out _).mono ?_; rintro e w2 ⟨rfl, hb⟩
          replace T0 := Lib.hid (T0.out.keep hb)
          replace B1 := Lib.hid (B1.out.keep hb)
          replace R2 := Lib.hid (R2.out.keep hb)
          replace C8 := Lib.hid (C8.out.keep hb)
          replace bel := Lib.hid (Bx.then_below bel.out hb)
          clear hb
          go_wp2_with (first | ((with_reducible refine td_store ?_ ?_ (w.heap.size + 1 + 1) u ?_ ?_ (tdl Td.zero) ?_ ?_ ?_); (· rfl); (· rfl); (· rfl); (· rfl); (· exact tdl_len _); (· exact R2.out.own)) | ((with_reducible refine td_load ?_ ?_ (w.heap.size) ?_ y ?_ ?_); (· rfl); (· rfl); (· rfl); (· exact T0.out.blk)) | ((with_reducible refine cs_load ?_ ?_ (w.heap.size) ?_ y ?_ ?_); (· rfl); (· rfl); (· rfl); (· exact T0.out.blk)))
          replace T0 := Lib.hid (T0.out.apart_at (k' := w.heap.size + 1 + 1) (tdl u) 0 (by omega))
          replace B1 := Lib.hid (B1.out.apart_at (k' := w.heap.size + 1 + 1) (tdl u) 0 (by omega))
          replace C8 := Lib.hid (C8.out.apart_at (k' := w.heap.size + 1 + 1) (tdl u) 0 (by omega))
          replace bel := Lib.hid (Bx.bel_put_at (k := w.heap.size + 1 + 1) (tdl u) 0 (by omega) bel.out)
          replace R2 := Lib.hid (R2.out.full (m := (tdl u)) (by rw [tdl_len, tdl_len]))
          exact bodyPost_ret (v := .tuple #[tdv u, .int .i64 (n : Int)]) (td_result2 Try.results8 rfl rfl R2.out.blk) rfl ⟨by rw [HE.out], bel.out⟩
        · have g4 : (b.k != 128) = true := by simp [h4]
          rcases Bool.eq_false_or_eq_true b.ch with h5 | h5
          · have B1_0 := B1.out.at 0 rfl
            have B1_1 := B1.out.at 1 rfl
            rw [h5] at B1_1
            clear h4
            replace HE := Lib.hid (HE.out.trans (if_pos (by unfold tellB; simp [h5])))
            have HP2 := Lib.hid (HP.out y (i : Int))
            have HS2 := Lib.hid (HS.out y ((prtI y (i : Int) : Nat) : Int))
            generalize prtI y (i : Int) = n at *
            generalize strT y (n : Int) = u at *
            clear h5
            go_wp2_with (first | ((with_reducible refine td_load ?_ ?_ (w.heap.size) ?_ y ?_ ?_); (· rfl); (· rfl); (· rfl); (· exact T0.out.blk)) | ((with_reducible refine cs_load ?_ ?_ (w.heap.size) ?_ y ?_ ?_); (· rfl); (· rfl); (· rfl); (· exact T0.out.blk)))
            refine (HP2.out _).mono ?_; rintro e w1 ⟨rfl, hb⟩
            replace T0 := Lib.hid (T0.out.keep hb)
            replace B1 := Lib.hid (B1.out.keep hb)
            replace R2 := Lib.hid (R2.out.keep hb)
            replace C8 := Lib.hid (C8.out.keep hb)
            replace bel := Lib.hid (Bx.then_below bel.out hb)
            clear hb
            go_wp2_with (first | ((with_reducible refine td_load ?_ ?_ (w.heap.size) ?_ y ?_ ?_); (· rfl); (· rfl); (· rfl); (· exact T0.out.blk)) | ((with_reducible refine cs_load ?_ ?_ (w.heap.size) ?_ y ?_ ?_); (· rfl); (· rfl); (· rfl); (· exact T0.out.blk)))
            refine (HS2.out _).mono ?_; rintro e w2 ⟨rfl, hb⟩
            replace T0 := Lib.hid (T0.out.keep hb)
            replace B1 := Lib.hid (B1.out.keep hb)
            replace R2 := Lib.hid (R2.out.keep hb)
            replace C8 := Lib.hid (C8.out.keep hb)
            replace bel := Lib.hid (Bx.then_below bel.out hb)
            clear hb
            go_wp2_with (first | ((with_reducible refine td_store ?_ ?_ (w.heap.size + 1 + 1) u ?_ ?_ (tdl Td.zero) ?_ ?_ ?_); (· rfl); (· rfl); (· rfl); (· rfl); (· exact tdl_len _); (· exact R2.out.own)) | ((with_reducible refine td_load ?_ ?_ (w.heap.size) ?_ y ?_ ?_); (· rfl); (· rfl); (· rfl); (· exact T0.out.blk)) | ((with_reducible refine cs_load ?_ ?_ (w.heap.size) ?_ y ?_ ?_); (· rfl); (· rfl); (· rfl); (· exact T0.out.blk)))
            replace T0 := Lib.hid (T0.out.apart_at (k' := w.heap.size + 1 + 1) (tdl u) 0 (by omega))
            replace B1 := Lib.hid (B1.out.apart_at (k' := w.heap.size + 1 + 1) (tdl u) 0 (by omega))
            replace C8 := Lib.hid (C8.out.apart_at (k' := w.heap.size + 1 + 1) (tdl u) 0 (by omega))
            replace bel := Lib.hid (Bx.bel_put_at (k := w.heap.size + 1 + 1) (tdl u) 0 (by omega) bel.out)
            replace R2 := Lib.hid (R2.out.full (m := (tdl u)) (by rw [tdl_len, tdl_len]))
            exact bodyPost_ret (v := .tuple #[tdv u, .int .i64 (n : Int)]) (td_result2 Try.results8 rfl rfl R2.out.blk) rfl ⟨by rw [HE.out], bel.out⟩
          · replace HE := Lib.hid (HE.out.trans (if_neg (by unfold tellB; simp [h4, h5])))
            have B1_0 := B1.out.at 0 rfl
            have B1_1 := B1.out.at 1 rfl
            rw [h5] at B1_1
            clear h4 h5
            go_wp2_with (first | ((with_reducible refine td_store ?_ ?_ (w.heap.size + 1 + 1) y ?_ ?_ (tdl Td.zero) ?_ ?_ ?_); (· rfl); (· rfl); (· rfl); (· rfl); (· exact tdl_len _); (· exact R2.out.own)) | ((with_reducible refine td_load ?_ ?_ (w.heap.size) ?_ y ?_ ?_); (· rfl); (· rfl); (· rfl); (· exact T0.out.blk)) | ((with_reducible refine cs_load ?_ ?_ (w.heap.size) ?_ y ?_ ?_); (· rfl); (· rfl); (· rfl); (· exact T0.out.blk)))
            replace T0 := Lib.hid (T0.out.apart_at (k' := w.heap.size + 1 + 1) (tdl y) 0 (by omega))
            replace B1 := Lib.hid (B1.out.apart_at (k' := w.heap.size + 1 + 1) (tdl y) 0 (by omega))
            replace C8 := Lib.hid (C8.out.apart_at (k' := w.heap.size + 1 + 1) (tdl y) 0 (by omega))
            replace bel := Lib.hid (Bx.bel_put_at (k := w.heap.size + 1 + 1) (tdl y) 0 (by omega) bel.out)
            replace R2 := Lib.hid (R2.out.full (m := (tdl y)) (by rw [tdl_len, tdl_len]))
            exact bodyPost_ret (v := .tuple #[tdv y, .int .i64 0]) (td_result2 Try.results8 rfl rfl R2.out.blk) rfl ⟨by rw [HE.out]; first | done | rfl, bel.out⟩
      · replace HA := Lib.hid (HA.out.trans (if_neg (by rw [h]; decide)))
        rw [h] at B1_7
        clear h
        go_upto_region 10 with fail
        obtain ⟨y, hy⟩ : ∃ y, y = x := ⟨_, rfl⟩
        rw [HA.out, show putT x i c = y from HQ.out.trans hy.symm] at HE
        replace T0 := Lib.hid (T0.out.of (m := tdl y) (by rw [hy]))
        clear HA HQ hy
        by_cases h4 : b.k = 128
        · have g4 : (b.k != 128) = false := by simp [h4]
          have B1_0 := B1.out.at 0 rfl
          replace HE := Lib.hid (HE.out.trans (if_pos (by unfold tellB; simp [h4])))
          have HP2 := Lib.hid (HP.out y (i : Int))
          have HS2 := Lib.hid (HS.out y ((prtI y (i : Int) : Nat) : Int))
          generalize prtI y (i : Int) = n at *
          generalize strT y (n : Int) = u at *
          clear h4
          go_wp2_with (first | ((with_reducible refine td_load ?_ ?_ (w.heap.size) ?_ y ?_ ?_); (· rfl); (· rfl); (· rfl); (· exact T0.out.blk)) | ((with_reducible refine cs_load ?_ ?_ (w.heap.size) ?_ y ?_ ?_); (· rfl); (· rfl); (· rfl); (· exact T0.out.blk)))
          refine (HP2.out _).mono ?_; rintro e w1 ⟨rfl, hb⟩
          replace T0 := Lib.hid (T0.out.keep hb)
          replace B1 := Lib.hid (B1.out.keep hb)
          replace R2 := Lib.hid (R2.out.keep hb)
          replace C8 := Lib.hid (C8.out.keep hb)
          replace bel := Lib.hid (Bx.then_below bel.out hb)
          clear hb
          go_wp2_with (first | ((with_reducible refine td_load ?_ ?_ (w.heap.size) ?_ y ?_ ?_); (· rfl); (· rfl); (· rfl); (· exact T0.out.blk)) | ((with_reducible refine cs_load ?_ ?_ (w.heap.size) ?_ y ?_ ?_); (· rfl); (· rfl); (· rfl); (· exact T0.out.blk)))
          refine (HS2.out _).mono ?_; rintro e w2 ⟨rfl, hb⟩
          replace T0 := Lib.hid (T0.out.keep hb)
          replace B1 := Lib.hid (B1.out.keep hb)
          replace R2 := Lib.hid (R2.out.keep hb)
          replace C8 := Lib.hid (C8.out.keep hb)
          replace bel := Lib.hid (Bx.then_below bel.out hb)
          clear hb
          go_wp2_with (first | ((with_reducible refine td_store ?_ ?_ (w.heap.size + 1 + 1) u ?_ ?_ (tdl Td.zero) ?_ ?_ ?_); (· rfl); (· rfl); (· rfl); (· rfl); (· exact tdl_len _); (· exact R2.out.own)) | ((with_reducible refine td_load ?_ ?_ (w.heap.size) ?_ y ?_ ?_); (· rfl); (· rfl); (· rfl); (· exact T0.out.blk)) | ((with_reducible refine cs_load ?_ ?_ (w.heap.size) ?_ y ?_ ?_); (· rfl); (· rfl); (· rfl); (· exact T0.out.blk)))
          replace T0 := Lib.hid (T0.out.apart_at (k' := w.heap.size + 1 + 1) (tdl u) 0 (by omega))
          replace B1 := Lib.hid (B1.out.apart_at (k' := w.heap.size + 1 + 1) (tdl u) 0 (by omega))
          replace C8 := Lib.hid (C8.out.apart_at (k' := w.heap.size + 1 + 1) (tdl u) 0 (by omega))
          replace bel := Lib.hid (Bx.bel_put_at (k := w.heap.size + 1 + 1) (tdl u) 0 (by omega) bel.out)
          replace R2 := Lib.hid (R2.out.full (m := (tdl u)) (by rw [tdl_len, tdl_len]))
          exact bodyPost_ret (v := .tuple #[tdv u, .int .i64 (n : Int)]) (td_result2 Try.results8 rfl rfl R2.out.blk) rfl ⟨by rw [HE.out], bel.out⟩
        · have g4 : (b.k != 128) = true := by simp [h4]
          rcases Bool.eq_false_or_eq_true b.ch with h5 | h5
          · have B1_0 := B1.out.at 0 rfl
            have B1_1 := B1.out.at 1 rfl
            rw [h5] at B1_1
            clear h4
            replace HE := Lib.hid (HE.out.trans (if_pos (by unfold tellB; simp [h5])))
            have HP2 := Lib.hid (HP.out y (i : Int))
            have HS2 := Lib.hid (HS.out y ((prtI y (i : Int) : Nat) : Int))
            generalize prtI y (i : Int) = n at *
            generalize strT y (n : Int) = u at *
            clear h5
            go_wp2_with (first | ((with_reducible refine td_load ?_ ?_ (w.heap.size) ?_ y ?_ ?_); (· rfl); (· rfl); (· rfl); (· exact T0.out.blk)) | ((with_reducible refine cs_load ?_ ?_ (w.heap.size) ?_ y ?_ ?_); (· rfl); (· rfl); (· rfl); (· exact T0.out.blk)))
            refine (HP2.out _).mono ?_; rintro e w1 ⟨rfl, hb⟩
            replace T0 := Lib.hid (T0.out.keep hb)
            replace B1 := Lib.hid (B1.out.keep hb)
            replace R2 := Lib.hid (R2.out.keep hb)
            replace C8 := Lib.hid (C8.out.keep hb)
            replace bel := Lib.hid (Bx.then_below bel.out hb)
            clear hb
            go_wp2_with (first | ((with_reducible refine td_load ?_ ?_ (w.heap.size) ?_ y ?_ ?_); (· rfl); (· rfl); (· rfl); (· exact T0.out.blk)) | ((with_reducible refine cs_load ?_ ?_ (w.heap.size) ?_ y ?_ ?_); (· rfl); (· rfl); (· rfl); (· exact T0.out.blk)))
            refine (HS2.out _).mono ?_; rintro e w2 ⟨rfl, hb⟩
            replace T0 := Lib.hid (T0.out.keep hb)
            replace B1 := Lib.hid (B1.out.keep hb)
            replace R2 := Lib.hid (R2.out.keep hb)
            replace C8 := Lib.hid (C8.out.keep hb)
            replace bel := Lib.hid (Bx.then_below bel.out hb)
            clear hb
            go_wp2_with (first | ((with_reducible refine td_store ?_ ?_ (w.heap.size + 1 + 1) u ?_ ?_ (tdl Td.zero) ?_ ?_ ?_); (· rfl); (· rfl); (· rfl); (· rfl); (· exact tdl_len _); (· exact R2.out.own)) | ((with_reducible refine td_load ?_ ?_ (w.heap.size) ?_ y ?_ ?_); (· rfl); (· rfl); (· rfl); (· exact T0.out.blk)) | ((with_reducible refine cs_load ?_ ?_ (w.heap.size) ?_ y ?_ ?_); (· rfl); (· rfl); (· rfl); (· exact T0.out.blk)))
            replace T0 := Lib.hid (T0.out.apart_at (k' := w.heap.size + 1 + 1) (tdl u) 0 (by omega))
            replace B1 := Lib.hid (B1.out.apart_at (k' := w.heap.size + 1 + 1) (tdl u) 0 (by omega))
            replace C8 := Lib.hid (C8.out.apart_at (k' := w.heap.size + 1 + 1) (tdl u) 0 (by omega))
            replace bel := Lib.hid (Bx.bel_put_at (k := w.heap.size + 1 + 1) (tdl u) 0 (by omega) bel.out)
            replace R2 := Lib.hid (R2.out.full (m := (tdl u)) (by rw [tdl_len, tdl_len]))
            exact bodyPost_ret (v := .tuple #[tdv u, .int .i64 (n : Int)]) (td_result2 Try.results8 rfl rfl R2.out.blk) rfl ⟨by rw [HE.out], bel.out⟩
          · replace HE := Lib.hid (HE.out.trans (if_neg (by unfold tellB; simp [h4, h5])))
            have B1_0 := B1.out.at 0 rfl
            have B1_1 := B1.out.at 1 rfl
            rw [h5] at B1_1
            clear h4 h5
            go_wp2_with (first | ((with_reducible refine td_store ?_ ?_ (w.heap.size + 1 + 1) y ?_ ?_ (tdl Td.zero) ?_ ?_ ?_); (· rfl); (· rfl); (· rfl); (· rfl); (· exact tdl_len _); (· exact R2.out.own)) | ((with_reducible refine td_load ?_ ?_ (w.heap.size) ?_ y ?_ ?_); (· rfl); (· rfl); (· rfl); (· exact T0.out.blk)) | ((with_reducible refine cs_load ?_ ?_ (w.heap.size) ?_ y ?_ ?_); (· rfl); (· rfl); (· rfl); (· exact T0.out.blk)))
            replace T0 := Lib.hid (T0.out.apart_at (k' := w.heap.size + 1 + 1) (tdl y) 0 (by omega))
            replace B1 := Lib.hid (B1.out.apart_at (k' := w.heap.size + 1 + 1) (tdl y) 0 (by omega))
            replace C8 := Lib.hid (C8.out.apart_at (k' := w.heap.size + 1 + 1) (tdl y) 0 (by omega))
            replace bel := Lib.hid (Bx.bel_put_at (k := w.heap.size + 1 + 1) (tdl y) 0 (by omega) bel.out)
            replace R2 := Lib.hid (R2.out.full (m := (tdl y)) (by rw [tdl_len, tdl_len]))
            exact bodyPost_ret (v := .tuple #[tdv y, .int .i64 0]) (td_result2 Try.results8 rfl rfl R2.out.blk) rfl ⟨by rw [HE.out]; first | done | rfl, bel.out⟩
  · replace HE := Lib.hid (HE.out.trans (if_pos h))
    rw [h] at q0
    clear h
    go_wp2_with (first | ((with_reducible refine td_store ?_ ?_ (w.heap.size + 1 + 1) x ?_ ?_ (tdl Td.zero) ?_ ?_ ?_); (· rfl); (· rfl); (· rfl); (· rfl); (· exact tdl_len _); (· exact R2.out.own)) | ((with_reducible refine td_load ?_ ?_ (w.heap.size) ?_ x ?_ ?_); (· rfl); (· rfl); (· rfl); (· exact T0.out.blk)) | ((with_reducible refine cs_load ?_ ?_ (w.heap.size) ?_ x ?_ ?_); (· rfl); (· rfl); (· rfl); (· exact T0.out.blk)))
    replace T0 := Lib.hid (T0.out.apart_at (k' := w.heap.size + 1 + 1) (tdl x) 0 (by omega))
    replace B1 := Lib.hid (B1.out.apart_at (k' := w.heap.size + 1 + 1) (tdl x) 0 (by omega))
    replace bel := Lib.hid (Bx.bel_put_at (k := w.heap.size + 1 + 1) (tdl x) 0 (by omega) bel.out)
    replace R2 := Lib.hid (R2.out.full (m := (tdl x)) (by rw [tdl_len, tdl_len]))
    exact bodyPost_ret (v := .tuple #[tdv x, .int .i64 0]) (td_result2 Try.results8 rfl rfl R2.out.blk) rfl ⟨by rw [HE.out]; first | done | rfl, bel.out⟩

set_option maxRecDepth 40000 in
set_option maxHeartbeats 8000000 in
theorem rhear_out (x : Td) (i : Int) (b : Bd) (w : World) (h : i < 0 ∨ 8 ≤ i) : Calls Try.prog 8 #[tdv x, .int .i64 i, bdv b] w fun e w' => e = .returned (.tuple #[tdv x, .int .i64 0]) ∧ Below w.heap.size w w' := by
  have hal := zero_at
  have T0 : Hid (Bx.Fre (w.alloc (tdo x)) w.heap.size (tdl x)) := Lib.hid (Bx.Fre.new w (tdl x) 31)
  have bel := Lib.hid (Bx.box_below w (tdo x))
  replace T0 := Lib.hid (T0.out.more (bdo b))
  have B1 : Hid (Bx.Fre ((w.alloc (tdo x)).alloc (bdo b)) (w.heap.size + 1) (bdl b)) := Lib.hid (Bx.Fre.new_at (W := (w.alloc (tdo x))) (k := w.heap.size + 1) (bdl b) 33 (by simp))
  replace bel := Lib.hid (Bx.bel_box bel.out (bdo b))
  replace T0 := Lib.hid (T0.out.more (tdo Td.zero))
  replace B1 := Lib.hid (B1.out.more (tdo Td.zero))
  have R2 : Hid (Bx.Fre (((w.alloc (tdo x)).alloc (bdo b)).alloc (tdo Td.zero)) (w.heap.size + 1 + 1) (tdl Td.zero)) := Lib.hid (Bx.Fre.new_at (W := ((w.alloc (tdo x)).alloc (bdo b))) (k := w.heap.size + 1 + 1) (tdl Td.zero) 31 (by simp))
  replace bel := Lib.hid (Bx.bel_box bel.out (tdo Td.zero))
  go_enter Try.func8, Try.ntmps8
  go_upto_region 1 with fail
  clear hal
  generalize (((w.alloc (tdo x)).alloc (bdo b)).alloc (tdo Td.zero)) = W0 at *
  by_cases h0 : i < 0
  · have e0 : decide (i < 0) = true := by simp [h0]
    go_wp2_with (first | ((with_reducible refine td_store ?_ ?_ (w.heap.size + 1 + 1) x ?_ ?_ (tdl Td.zero) ?_ ?_ ?_); (· rfl); (· rfl); (· rfl); (· rfl); (· exact tdl_len _); (· exact R2.out.own)) | ((with_reducible refine td_load ?_ ?_ (w.heap.size) ?_ x ?_ ?_); (· rfl); (· rfl); (· rfl); (· exact T0.out.blk)) | ((with_reducible refine cs_load ?_ ?_ (w.heap.size) ?_ x ?_ ?_); (· rfl); (· rfl); (· rfl); (· exact T0.out.blk)))
    replace T0 := Lib.hid (T0.out.apart_at (k' := w.heap.size + 1 + 1) (tdl x) 0 (by omega))
    replace B1 := Lib.hid (B1.out.apart_at (k' := w.heap.size + 1 + 1) (tdl x) 0 (by omega))
    replace bel := Lib.hid (Bx.bel_put_at (k := w.heap.size + 1 + 1) (tdl x) 0 (by omega) bel.out)
    replace R2 := Lib.hid (R2.out.full (m := (tdl x)) (by rw [tdl_len, tdl_len]))
    exact bodyPost_ret (v := .tuple #[tdv x, .int .i64 0]) (td_result2 Try.results8 rfl rfl R2.out.blk) rfl ⟨rfl, bel.out⟩
  · have h8 : 8 ≤ i := by omega
    have e0 : decide (i < 0) = false := by simp; omega
    have e8 : decide (8 ≤ i) = true := by simp [h8]
    go_wp2_with (first | ((with_reducible refine td_store ?_ ?_ (w.heap.size + 1 + 1) x ?_ ?_ (tdl Td.zero) ?_ ?_ ?_); (· rfl); (· rfl); (· rfl); (· rfl); (· exact tdl_len _); (· exact R2.out.own)) | ((with_reducible refine td_load ?_ ?_ (w.heap.size) ?_ x ?_ ?_); (· rfl); (· rfl); (· rfl); (· exact T0.out.blk)) | ((with_reducible refine cs_load ?_ ?_ (w.heap.size) ?_ x ?_ ?_); (· rfl); (· rfl); (· rfl); (· exact T0.out.blk)))
    replace T0 := Lib.hid (T0.out.apart_at (k' := w.heap.size + 1 + 1) (tdl x) 0 (by omega))
    replace B1 := Lib.hid (B1.out.apart_at (k' := w.heap.size + 1 + 1) (tdl x) 0 (by omega))
    replace bel := Lib.hid (Bx.bel_put_at (k := w.heap.size + 1 + 1) (tdl x) 0 (by omega) bel.out)
    replace R2 := Lib.hid (R2.out.full (m := (tdl x)) (by rw [tdl_len, tdl_len]))
    exact bodyPost_ret (v := .tuple #[tdv x, .int .i64 0]) (td_result2 Try.results8 rfl rfl R2.out.blk) rfl ⟨rfl, bel.out⟩

end Chg
end Go.Proofs.Ytkjdnmlaehjmgaa
