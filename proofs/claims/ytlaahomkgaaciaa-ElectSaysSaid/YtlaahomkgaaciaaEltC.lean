/-
  What the document's Root answers.
-/
import Derived.Test.YtlaahomkgaaciaaEltA
import Derived.Deep.LoopGhost
import Derived.Deep.CutBlock
namespace Go.Proofs.Ytlaahomkgaaciaa
open Go.RowKit
namespace Elt
open Pre Crd Tre

theorem rootN_p (x : Td) : ∀ n : Nat, (rootN x n).p < n
  | 0 => by show (-1 : Int) < 0; omega
  | n + 1 => by
    have ih := rootN_p x n
    rw [rootN]
    unfold stepR
    split
    · show (n : Int) < _; omega
    · omega

set_option maxRecDepth 40000 in
set_option maxHeartbeats 8000000 in
theorem rroot_any (x : Td) (w : World) : Calls Try.prog 7 #[tdv x] w fun e w' => e = .returned (.tuple #[vv (rootR x).v, tmv (rootR x).t, .int .i64 (rootR x).p]) ∧ Below w.heap.size w w' := by
  have HO : Hid (∀ w, Calls Try.prog 20 #[.int .u64 x.id] w fun e w' => e = .returned (vv (ownV x.id)) ∧ Below w.heap.size w w') := Lib.hid (fun w => rown_any x.id w)
  have HB := Lib.hid rbetter_any
  obtain ⟨o, ho⟩ : ∃ o, o = ownV x.id := ⟨_, rfl⟩
  rw [← ho] at HO
  replace ho := Lib.hid ho
  have T0 : Hid (Bx.Fre (w.alloc (tdo x)) w.heap.size (tdl x)) := Lib.hid (Bx.Fre.new w (tdl x) 31)
  have bel := Lib.hid (Bx.box_below w (tdo x))
  replace T0 := Lib.hid (T0.out.more (vo ⟨0, 0, 0, 0⟩))
  have R1 : Hid (Bx.Fre ((w.alloc (tdo x)).alloc (vo ⟨0, 0, 0, 0⟩)) (w.heap.size + 1) (enc ⟨0, 0, 0, 0⟩)) := Lib.hid (Bx.Fre.new_at (W := (w.alloc (tdo x))) (k := w.heap.size + 1) (enc ⟨0, 0, 0, 0⟩) 26 (by simp))
  replace bel := Lib.hid (Bx.bel_box bel.out (vo ⟨0, 0, 0, 0⟩))
  replace T0 := Lib.hid (T0.out.more (tmo ⟨0, 0, 0, 0⟩))
  replace R1 := Lib.hid (R1.out.more (tmo ⟨0, 0, 0, 0⟩))
  have R2 : Hid (Bx.Fre (((w.alloc (tdo x)).alloc (vo ⟨0, 0, 0, 0⟩)).alloc (tmo ⟨0, 0, 0, 0⟩)) (w.heap.size + 1 + 1) (tenc ⟨0, 0, 0, 0⟩)) := Lib.hid (Bx.Fre.new_at (W := ((w.alloc (tdo x)).alloc (vo ⟨0, 0, 0, 0⟩))) (k := w.heap.size + 1 + 1) (tenc ⟨0, 0, 0, 0⟩) 24 (by simp))
  replace bel := Lib.hid (Bx.bel_box bel.out (tmo ⟨0, 0, 0, 0⟩))
  go_enter Try.func7, Try.ntmps7
  go_wp2_with fail
  generalize (((w.alloc (tdo x)).alloc (vo ⟨0, 0, 0, 0⟩)).alloc (tmo ⟨0, 0, 0, 0⟩)) = W0 at *
  try simp only [Act.put]
  go_cut [5, 6, 7] (fun s5 s6 s7 wx => ∃ k5 k6 : Nat, s5 = .pointer (some ⟨k5, 0, none⟩) ∧ s6 = .pointer (some ⟨k6, 0, none⟩) ∧ s7 = .int .i64 (-1) ∧ (w.heap.size + 1 + 1 < k5 ∧ w.heap.size + 1 + 1 < k6 ∧ k5 ≠ k6) ∧ Below w.heap.size w wx ∧ Bx.Fre wx w.heap.size (tdl x) ∧ Bx.Fre wx (w.heap.size + 1) (enc ⟨0, 0, 0, 0⟩) ∧ Bx.Fre wx (w.heap.size + 1 + 1) (tenc ⟨0, 0, 0, 0⟩) ∧ Bx.Fre wx k5 (enc o) ∧ Bx.Fre wx k6 (tenc x.own))
  case first =>
    refine wp_region_noPanic ?_
    refine wp_region_held_drew (S := fun w' => w'.cell? ⟨w.heap.size, 0, none⟩ = some (.int .u64 x.id) ∧ w'.cell? ⟨w.heap.size, 1, none⟩ = some (.int .i64 x.own.a) ∧ w'.cell? ⟨w.heap.size, 2, none⟩ = some (.int .i64 x.own.m) ∧ w'.cell? ⟨w.heap.size, 3, none⟩ = some (.int .i64 x.own.h) ∧ w'.cell? ⟨w.heap.size, 4, none⟩ = some (.int .i64 x.own.d)) (by kernel_rfl) (by exact ⟨T0.out.at 0 (v := .int .u64 x.id) rfl, T0.out.at 1 (v := .int .i64 x.own.a) rfl, T0.out.at 2 (v := .int .i64 x.own.m) rfl, T0.out.at 3 (v := .int .i64 x.own.h) rfl, T0.out.at 4 (v := .int .i64 x.own.d) rfl⟩) (fun hHeld => ?_)
    refine wpAnyH_take (i := 0) (oi := ?ot1x1) (v := ?vt1x1) ?hit1x1 (by kernel_rfl) (by kernel_rfl) (by kernel_rfl) (fun _ _ _ h => h) ?yt1x1 (by assumption) ?rt1x1
    case hit1x1 => (simp only [List.getElem?_toArray, List.getElem?_cons_zero]; rfl)
    case yt1x1 => (refine Or.inl ⟨by rfl, ?_⟩; intro w' hSw; (try dsimp only at hSw); go_simp; (try with_reducible rfl))
    try simp only [Act.put, List.setIfInBounds_toArray, List.set_cons_zero, List.set_cons_succ]
    refine wpAnyH_take (i := 1) (oi := ?ot1x2) (v := ?vt1x2) ?hit1x2 (by kernel_rfl) (by kernel_rfl) (by kernel_rfl) (fun _ _ _ h => h) ?yt1x2 (by assumption) ?rt1x2
    case hit1x2 => (simp only [List.getElem?_toArray, List.getElem?_cons_succ, List.getElem?_cons_zero]; rfl)
    case yt1x2 => (refine Or.inl ⟨by rfl, ?_⟩; intro w' hSw; (try dsimp only at hSw); go_simp; (try with_reducible rfl))
    try simp only [Act.put, List.setIfInBounds_toArray, List.set_cons_zero, List.set_cons_succ]
    refine wpAnyH_take (i := 3) (oi := ?ot1x3) (v := ?vt1x3) ?hit1x3 (by kernel_rfl) (by kernel_rfl) (by kernel_rfl) (fun _ _ _ h => h) ?yt1x3 (by assumption) ?rt1x3
    case hit1x3 => (simp only [List.getElem?_toArray, List.getElem?_cons_succ, List.getElem?_cons_zero]; rfl)
    case yt1x3 => (refine Or.inl ⟨by rfl, ?_⟩; intro w' hSw; (try dsimp only at hSw); go_simp; (try with_reducible rfl))
    try simp only [Act.put, List.setIfInBounds_toArray, List.set_cons_zero, List.set_cons_succ]
    refine wpAnyH_take (i := 4) (oi := ?ot1x4) (v := ?vt1x4) ?hit1x4 (by kernel_rfl) (by kernel_rfl) (by kernel_rfl) (fun _ _ _ h => h) ?yt1x4 (by assumption) ?rt1x4
    case hit1x4 => (simp only [List.getElem?_toArray, List.getElem?_cons_succ, List.getElem?_cons_zero]; rfl)
    case yt1x4 => (refine Or.inl ⟨by rfl, ?_⟩; intro w' hSw; (try dsimp only at hSw); go_simp; (try with_reducible rfl))
    try simp only [Act.put, List.setIfInBounds_toArray, List.set_cons_zero, List.set_cons_succ]
    refine wpAnyH_ready (rs := [2, 5, 6]) (by kernel_rfl) (by simp) ?_
    refine AllReadyH.cons (o := ?ot1x5) ?hit1x5 ?hstt1x5 (AllReadyH.cons (o := ?ot1x6) ?hit1x6 ?hstt1x6 (AllReadyH.cons (o := ?ot1x7) ?hit1x7 ?hstt1x7 AllReadyH.nil))
    case hit1x5 => (simp only [List.getElem?_toArray, List.getElem?_cons_succ, List.getElem?_cons_zero]; rfl)
    case hit1x6 => (simp only [List.getElem?_toArray, List.getElem?_cons_succ, List.getElem?_cons_zero]; rfl)
    case hit1x7 => (simp only [List.getElem?_toArray, List.getElem?_cons_succ, List.getElem?_cons_zero]; rfl)
    case hstt1x5 =>
      intro K hK
      go_simp
      (go_at_call 20; (with_reducible refine (HO.out _).mono ?_); rintro e vt1x8 ⟨rfl, hb⟩)
      go_wp2_with fail
      refine hK.out _ _ ⟨Bx.keep_cell hb hHeld.1, Bx.keep_cell hb hHeld.2.1, Bx.keep_cell hb hHeld.2.2.1, Bx.keep_cell hb hHeld.2.2.2.1, Bx.keep_cell hb hHeld.2.2.2.2⟩ (fun hNew => ?_)
      clear hHeld
      have hHeld := hNew
      clear hNew hK K
      replace bel := Lib.hid (Bx.then_below (Bx.bel_drewn bel.out) hb)
      replace T0 := Lib.hid (T0.out.drew.keep hb)
      replace R1 := Lib.hid (R1.out.drew.keep hb)
      replace R2 := Lib.hid (R2.out.drew.keep hb)
      clear hb
      refine wpAnyH_ready (rs := [5, 6]) (by kernel_rfl) (by simp) ?_
      refine AllReadyH.cons (o := ?ot1x9) ?hit1x9 ?hstt1x9 (AllReadyH.cons (o := ?ot1x10) ?hit1x10 ?hstt1x10 AllReadyH.nil)
      case hit1x9 => (simp only [List.getElem?_toArray, List.getElem?_cons_succ, List.getElem?_cons_zero]; rfl)
      case hit1x10 => (simp only [List.getElem?_toArray, List.getElem?_cons_succ, List.getElem?_cons_zero]; rfl)
      case hstt1x9 =>
        intro K hK
        go_simp
        refine hK.out _ _ ⟨Bx.kept_new hHeld.1, Bx.kept_new hHeld.2.1, Bx.kept_new hHeld.2.2.1, Bx.kept_new hHeld.2.2.2.1, Bx.kept_new hHeld.2.2.2.2⟩ (fun hNew => ?_)
        clear hHeld
        have hHeld := hNew
        clear hNew hK K
        have hB5T0 : w.heap.size < vt1x8.heap.size := T0.out.2.1
        have hB5R1 : w.heap.size + 1 < vt1x8.heap.size := R1.out.2.1
        have hB5R2 : w.heap.size + 1 + 1 < vt1x8.heap.size := R2.out.2.1
        replace bel : Hid (Below w.heap.size w (vt1x8.alloc (vo ⟨0, 0, 0, 0⟩))) := Lib.hid ((Bx.bel_box bel.out (vo ⟨0, 0, 0, 0⟩)))
        replace T0 : Hid (Bx.Fre (vt1x8.alloc (vo ⟨0, 0, 0, 0⟩)) (w.heap.size) (tdl x)) := Lib.hid (T0.out.more (vo ⟨0, 0, 0, 0⟩))
        replace R1 : Hid (Bx.Fre (vt1x8.alloc (vo ⟨0, 0, 0, 0⟩)) (w.heap.size + 1) (enc ⟨0, 0, 0, 0⟩)) := Lib.hid (R1.out.more (vo ⟨0, 0, 0, 0⟩))
        replace R2 : Hid (Bx.Fre (vt1x8.alloc (vo ⟨0, 0, 0, 0⟩)) (w.heap.size + 1 + 1) (tenc ⟨0, 0, 0, 0⟩)) := Lib.hid (R2.out.more (vo ⟨0, 0, 0, 0⟩))
        have B5 : Hid (Bx.Fre (vt1x8.alloc (vo ⟨0, 0, 0, 0⟩)) vt1x8.heap.size (enc ⟨0, 0, 0, 0⟩)) := Lib.hid (Bx.Fre.new vt1x8 (enc ⟨0, 0, 0, 0⟩) 26)
        generalize (vt1x8.alloc (vo ⟨0, 0, 0, 0⟩)) = vt1x11 at *
        generalize vt1x8.heap.size = kB5 at *
        refine wpAnyH_ready (rs := [6]) (by kernel_rfl) (by simp) ?_
        refine AllReadyH.cons (o := ?ot1x12) ?hit1x12 ?hstt1x12 AllReadyH.nil
        case hit1x12 => (simp only [List.getElem?_toArray, List.getElem?_cons_succ, List.getElem?_cons_zero]; rfl)
        intro K hK
        go_simp
        refine hK.out _ _ ⟨Bx.kept_new hHeld.1, Bx.kept_new hHeld.2.1, Bx.kept_new hHeld.2.2.1, Bx.kept_new hHeld.2.2.2.1, Bx.kept_new hHeld.2.2.2.2⟩ (fun hNew => ?_)
        clear hHeld
        have hHeld := hNew
        clear hNew hK K
        have hB6T0 : w.heap.size < vt1x11.heap.size := T0.out.2.1
        have hB6R1 : w.heap.size + 1 < vt1x11.heap.size := R1.out.2.1
        have hB6R2 : w.heap.size + 1 + 1 < vt1x11.heap.size := R2.out.2.1
        have hB6B5 : kB5 < vt1x11.heap.size := B5.out.2.1
        replace bel : Hid (Below w.heap.size w (vt1x11.alloc (tmo ⟨0, 0, 0, 0⟩))) := Lib.hid ((Bx.bel_box bel.out (tmo ⟨0, 0, 0, 0⟩)))
        replace T0 : Hid (Bx.Fre (vt1x11.alloc (tmo ⟨0, 0, 0, 0⟩)) (w.heap.size) (tdl x)) := Lib.hid (T0.out.more (tmo ⟨0, 0, 0, 0⟩))
        replace R1 : Hid (Bx.Fre (vt1x11.alloc (tmo ⟨0, 0, 0, 0⟩)) (w.heap.size + 1) (enc ⟨0, 0, 0, 0⟩)) := Lib.hid (R1.out.more (tmo ⟨0, 0, 0, 0⟩))
        replace R2 : Hid (Bx.Fre (vt1x11.alloc (tmo ⟨0, 0, 0, 0⟩)) (w.heap.size + 1 + 1) (tenc ⟨0, 0, 0, 0⟩)) := Lib.hid (R2.out.more (tmo ⟨0, 0, 0, 0⟩))
        replace B5 : Hid (Bx.Fre (vt1x11.alloc (tmo ⟨0, 0, 0, 0⟩)) (kB5) (enc ⟨0, 0, 0, 0⟩)) := Lib.hid (B5.out.more (tmo ⟨0, 0, 0, 0⟩))
        have B6 : Hid (Bx.Fre (vt1x11.alloc (tmo ⟨0, 0, 0, 0⟩)) vt1x11.heap.size (tenc ⟨0, 0, 0, 0⟩)) := Lib.hid (Bx.Fre.new vt1x11 (tenc ⟨0, 0, 0, 0⟩) 24)
        generalize (vt1x11.alloc (tmo ⟨0, 0, 0, 0⟩)) = vt1x13 at *
        generalize vt1x11.heap.size = kB6 at *
        refine wpAnyH_ready (rs := [7]) (by kernel_rfl) (by simp) ?_
        refine AllReadyH.cons (o := ?ot1x14) ?hit1x14 ?hstt1x14 AllReadyH.nil
        case hit1x14 => (simp only [List.getElem?_toArray, List.getElem?_cons_succ, List.getElem?_cons_zero]; rfl)
        intro K hK
        rw [if_pos (by rfl)]
        refine vec_wp rfl (kB5) 0 rfl o rfl (enc ⟨0, 0, 0, 0⟩) (by simp [enc]) B5.out ?_
        refine hK.out _ _ ⟨Bx.cell_apart_at _ _ (by omega) hHeld.1, Bx.cell_apart_at _ _ (by omega) hHeld.2.1, Bx.cell_apart_at _ _ (by omega) hHeld.2.2.1, Bx.cell_apart_at _ _ (by omega) hHeld.2.2.2.1, Bx.cell_apart_at _ _ (by omega) hHeld.2.2.2.2⟩ (fun hNew => ?_)
        clear hHeld
        have hHeld := hNew
        clear hNew hK K
        try simp only [Act.put]
        replace bel := Lib.hid (Bx.bel_put_at (k := kB5) (enc o) 0 (by omega) bel.out)
        replace T0 := Lib.hid (T0.out.apart_at (k' := kB5) (enc o) 0 (by omega))
        replace R1 := Lib.hid (R1.out.apart_at (k' := kB5) (enc o) 0 (by omega))
        replace R2 := Lib.hid (R2.out.apart_at (k' := kB5) (enc o) 0 (by omega))
        replace B6 := Lib.hid (B6.out.apart_at (k' := kB5) (enc o) 0 (by omega))
        replace B5 := Lib.hid ((Bx.Fre.put_at (enc o) 0 B5.out).of (m := (enc o)) rfl)
        generalize vt1x13.setCells (kB5) 0 (enc o) = vt1x15 at *
        refine wpAnyH_ready (rs := [8]) (by kernel_rfl) (by simp) ?_
        refine AllReadyH.cons (o := ?ot1x16) ?hit1x16 ?hstt1x16 AllReadyH.nil
        case hit1x16 => (simp only [List.getElem?_toArray, List.getElem?_cons_succ, List.getElem?_cons_zero]; rfl)
        intro K hK
        rw [if_pos (by rfl)]
        refine tm_wp rfl (kB6) 0 rfl x.own rfl (tenc ⟨0, 0, 0, 0⟩) (by simp [tenc]) B6.out ?_
        refine hK.out _ _ ⟨Bx.cell_apart_at _ _ (by omega) hHeld.1, Bx.cell_apart_at _ _ (by omega) hHeld.2.1, Bx.cell_apart_at _ _ (by omega) hHeld.2.2.1, Bx.cell_apart_at _ _ (by omega) hHeld.2.2.2.1, Bx.cell_apart_at _ _ (by omega) hHeld.2.2.2.2⟩ (fun hNew => ?_)
        clear hHeld
        have hHeld := hNew
        clear hNew hK K
        try simp only [Act.put]
        replace bel := Lib.hid (Bx.bel_put_at (k := kB6) (tenc x.own) 0 (by omega) bel.out)
        replace T0 := Lib.hid (T0.out.apart_at (k' := kB6) (tenc x.own) 0 (by omega))
        replace R1 := Lib.hid (R1.out.apart_at (k' := kB6) (tenc x.own) 0 (by omega))
        replace R2 := Lib.hid (R2.out.apart_at (k' := kB6) (tenc x.own) 0 (by omega))
        replace B5 := Lib.hid (B5.out.apart_at (k' := kB6) (tenc x.own) 0 (by omega))
        replace B6 := Lib.hid ((Bx.Fre.put_at (tenc x.own) 0 B6.out).of (m := (tenc x.own)) rfl)
        generalize vt1x15.setCells (kB6) 0 (tenc x.own) = vt1x17 at *
        refine wpAnyH_take (i := 9) (oi := ?ot1x18) (v := ?vt1x18) ?hit1x18 (by kernel_rfl) (by kernel_rfl) (by kernel_rfl) (fun _ _ _ h => h) ?yt1x18 (by assumption) ?rt1x18
        case hit1x18 => (simp only [List.getElem?_toArray, List.getElem?_cons_succ, List.getElem?_cons_zero]; rfl)
        case yt1x18 => (refine Or.inl ⟨by rfl, ?_⟩; intro w' hSw; (try dsimp only at hSw); go_simp; (try with_reducible rfl))
        try simp only [Act.put, List.setIfInBounds_toArray, List.set_cons_zero, List.set_cons_succ]
        refine wpAnyH_done (by kernel_rfl) ?_ _
        refine NoPanic.normal ?_
        go_wp2_with fail
        go_meet
        exact ⟨_, _, rfl, rfl, rfl, by omega, bel.out, T0.out, R1.out, R2.out, B5.out, B6.out⟩
      case hstt1x10 =>
        intro K hK
        go_simp
        refine hK.out _ _ ⟨Bx.kept_new hHeld.1, Bx.kept_new hHeld.2.1, Bx.kept_new hHeld.2.2.1, Bx.kept_new hHeld.2.2.2.1, Bx.kept_new hHeld.2.2.2.2⟩ (fun hNew => ?_)
        clear hHeld
        have hHeld := hNew
        clear hNew hK K
        have hB6T0 : w.heap.size < vt1x8.heap.size := T0.out.2.1
        have hB6R1 : w.heap.size + 1 < vt1x8.heap.size := R1.out.2.1
        have hB6R2 : w.heap.size + 1 + 1 < vt1x8.heap.size := R2.out.2.1
        replace bel : Hid (Below w.heap.size w (vt1x8.alloc (tmo ⟨0, 0, 0, 0⟩))) := Lib.hid ((Bx.bel_box bel.out (tmo ⟨0, 0, 0, 0⟩)))
        replace T0 : Hid (Bx.Fre (vt1x8.alloc (tmo ⟨0, 0, 0, 0⟩)) (w.heap.size) (tdl x)) := Lib.hid (T0.out.more (tmo ⟨0, 0, 0, 0⟩))
        replace R1 : Hid (Bx.Fre (vt1x8.alloc (tmo ⟨0, 0, 0, 0⟩)) (w.heap.size + 1) (enc ⟨0, 0, 0, 0⟩)) := Lib.hid (R1.out.more (tmo ⟨0, 0, 0, 0⟩))
        replace R2 : Hid (Bx.Fre (vt1x8.alloc (tmo ⟨0, 0, 0, 0⟩)) (w.heap.size + 1 + 1) (tenc ⟨0, 0, 0, 0⟩)) := Lib.hid (R2.out.more (tmo ⟨0, 0, 0, 0⟩))
        have B6 : Hid (Bx.Fre (vt1x8.alloc (tmo ⟨0, 0, 0, 0⟩)) vt1x8.heap.size (tenc ⟨0, 0, 0, 0⟩)) := Lib.hid (Bx.Fre.new vt1x8 (tenc ⟨0, 0, 0, 0⟩) 24)
        generalize (vt1x8.alloc (tmo ⟨0, 0, 0, 0⟩)) = vt1x19 at *
        generalize vt1x8.heap.size = kB6 at *
        refine wpAnyH_ready (rs := [5]) (by kernel_rfl) (by simp) ?_
        refine AllReadyH.cons (o := ?ot1x20) ?hit1x20 ?hstt1x20 AllReadyH.nil
        case hit1x20 => (simp only [List.getElem?_toArray, List.getElem?_cons_succ, List.getElem?_cons_zero]; rfl)
        intro K hK
        go_simp
        refine hK.out _ _ ⟨Bx.kept_new hHeld.1, Bx.kept_new hHeld.2.1, Bx.kept_new hHeld.2.2.1, Bx.kept_new hHeld.2.2.2.1, Bx.kept_new hHeld.2.2.2.2⟩ (fun hNew => ?_)
        clear hHeld
        have hHeld := hNew
        clear hNew hK K
        have hB5T0 : w.heap.size < vt1x19.heap.size := T0.out.2.1
        have hB5R1 : w.heap.size + 1 < vt1x19.heap.size := R1.out.2.1
        have hB5R2 : w.heap.size + 1 + 1 < vt1x19.heap.size := R2.out.2.1
        have hB5B6 : kB6 < vt1x19.heap.size := B6.out.2.1
        replace bel : Hid (Below w.heap.size w (vt1x19.alloc (vo ⟨0, 0, 0, 0⟩))) := Lib.hid ((Bx.bel_box bel.out (vo ⟨0, 0, 0, 0⟩)))
        replace T0 : Hid (Bx.Fre (vt1x19.alloc (vo ⟨0, 0, 0, 0⟩)) (w.heap.size) (tdl x)) := Lib.hid (T0.out.more (vo ⟨0, 0, 0, 0⟩))
        replace R1 : Hid (Bx.Fre (vt1x19.alloc (vo ⟨0, 0, 0, 0⟩)) (w.heap.size + 1) (enc ⟨0, 0, 0, 0⟩)) := Lib.hid (R1.out.more (vo ⟨0, 0, 0, 0⟩))
        replace R2 : Hid (Bx.Fre (vt1x19.alloc (vo ⟨0, 0, 0, 0⟩)) (w.heap.size + 1 + 1) (tenc ⟨0, 0, 0, 0⟩)) := Lib.hid (R2.out.more (vo ⟨0, 0, 0, 0⟩))
        replace B6 : Hid (Bx.Fre (vt1x19.alloc (vo ⟨0, 0, 0, 0⟩)) (kB6) (tenc ⟨0, 0, 0, 0⟩)) := Lib.hid (B6.out.more (vo ⟨0, 0, 0, 0⟩))
        have B5 : Hid (Bx.Fre (vt1x19.alloc (vo ⟨0, 0, 0, 0⟩)) vt1x19.heap.size (enc ⟨0, 0, 0, 0⟩)) := Lib.hid (Bx.Fre.new vt1x19 (enc ⟨0, 0, 0, 0⟩) 26)
        generalize (vt1x19.alloc (vo ⟨0, 0, 0, 0⟩)) = vt1x21 at *
        generalize vt1x19.heap.size = kB5 at *
        refine wpAnyH_ready (rs := [7]) (by kernel_rfl) (by simp) ?_
        refine AllReadyH.cons (o := ?ot1x22) ?hit1x22 ?hstt1x22 AllReadyH.nil
        case hit1x22 => (simp only [List.getElem?_toArray, List.getElem?_cons_succ, List.getElem?_cons_zero]; rfl)
        intro K hK
        rw [if_pos (by rfl)]
        refine vec_wp rfl (kB5) 0 rfl o rfl (enc ⟨0, 0, 0, 0⟩) (by simp [enc]) B5.out ?_
        refine hK.out _ _ ⟨Bx.cell_apart_at _ _ (by omega) hHeld.1, Bx.cell_apart_at _ _ (by omega) hHeld.2.1, Bx.cell_apart_at _ _ (by omega) hHeld.2.2.1, Bx.cell_apart_at _ _ (by omega) hHeld.2.2.2.1, Bx.cell_apart_at _ _ (by omega) hHeld.2.2.2.2⟩ (fun hNew => ?_)
        clear hHeld
        have hHeld := hNew
        clear hNew hK K
        try simp only [Act.put]
        replace bel := Lib.hid (Bx.bel_put_at (k := kB5) (enc o) 0 (by omega) bel.out)
        replace T0 := Lib.hid (T0.out.apart_at (k' := kB5) (enc o) 0 (by omega))
        replace R1 := Lib.hid (R1.out.apart_at (k' := kB5) (enc o) 0 (by omega))
        replace R2 := Lib.hid (R2.out.apart_at (k' := kB5) (enc o) 0 (by omega))
        replace B6 := Lib.hid (B6.out.apart_at (k' := kB5) (enc o) 0 (by omega))
        replace B5 := Lib.hid ((Bx.Fre.put_at (enc o) 0 B5.out).of (m := (enc o)) rfl)
        generalize vt1x21.setCells (kB5) 0 (enc o) = vt1x23 at *
        refine wpAnyH_ready (rs := [8]) (by kernel_rfl) (by simp) ?_
        refine AllReadyH.cons (o := ?ot1x24) ?hit1x24 ?hstt1x24 AllReadyH.nil
        case hit1x24 => (simp only [List.getElem?_toArray, List.getElem?_cons_succ, List.getElem?_cons_zero]; rfl)
        intro K hK
        rw [if_pos (by rfl)]
        refine tm_wp rfl (kB6) 0 rfl x.own rfl (tenc ⟨0, 0, 0, 0⟩) (by simp [tenc]) B6.out ?_
        refine hK.out _ _ ⟨Bx.cell_apart_at _ _ (by omega) hHeld.1, Bx.cell_apart_at _ _ (by omega) hHeld.2.1, Bx.cell_apart_at _ _ (by omega) hHeld.2.2.1, Bx.cell_apart_at _ _ (by omega) hHeld.2.2.2.1, Bx.cell_apart_at _ _ (by omega) hHeld.2.2.2.2⟩ (fun hNew => ?_)
        clear hHeld
        have hHeld := hNew
        clear hNew hK K
        try simp only [Act.put]
        replace bel := Lib.hid (Bx.bel_put_at (k := kB6) (tenc x.own) 0 (by omega) bel.out)
        replace T0 := Lib.hid (T0.out.apart_at (k' := kB6) (tenc x.own) 0 (by omega))
        replace R1 := Lib.hid (R1.out.apart_at (k' := kB6) (tenc x.own) 0 (by omega))
        replace R2 := Lib.hid (R2.out.apart_at (k' := kB6) (tenc x.own) 0 (by omega))
        replace B5 := Lib.hid (B5.out.apart_at (k' := kB6) (tenc x.own) 0 (by omega))
        replace B6 := Lib.hid ((Bx.Fre.put_at (tenc x.own) 0 B6.out).of (m := (tenc x.own)) rfl)
        generalize vt1x23.setCells (kB6) 0 (tenc x.own) = vt1x25 at *
        refine wpAnyH_take (i := 9) (oi := ?ot1x26) (v := ?vt1x26) ?hit1x26 (by kernel_rfl) (by kernel_rfl) (by kernel_rfl) (fun _ _ _ h => h) ?yt1x26 (by assumption) ?rt1x26
        case hit1x26 => (simp only [List.getElem?_toArray, List.getElem?_cons_succ, List.getElem?_cons_zero]; rfl)
        case yt1x26 => (refine Or.inl ⟨by rfl, ?_⟩; intro w' hSw; (try dsimp only at hSw); go_simp; (try with_reducible rfl))
        try simp only [Act.put, List.setIfInBounds_toArray, List.set_cons_zero, List.set_cons_succ]
        refine wpAnyH_done (by kernel_rfl) ?_ _
        refine NoPanic.normal ?_
        go_wp2_with fail
        go_meet
        exact ⟨_, _, rfl, rfl, rfl, by omega, bel.out, T0.out, R1.out, R2.out, B5.out, B6.out⟩
    case hstt1x6 =>
      intro K hK
      go_simp
      refine hK.out _ _ ⟨Bx.kept_new hHeld.1, Bx.kept_new hHeld.2.1, Bx.kept_new hHeld.2.2.1, Bx.kept_new hHeld.2.2.2.1, Bx.kept_new hHeld.2.2.2.2⟩ (fun hNew => ?_)
      clear hHeld
      have hHeld := hNew
      clear hNew hK K
      have hB5T0 : w.heap.size < W0.heap.size := T0.out.2.1
      have hB5R1 : w.heap.size + 1 < W0.heap.size := R1.out.2.1
      have hB5R2 : w.heap.size + 1 + 1 < W0.heap.size := R2.out.2.1
      replace bel : Hid (Below w.heap.size w (W0.alloc (vo ⟨0, 0, 0, 0⟩)).drew) := Lib.hid (Bx.bel_drewn (Bx.bel_box bel.out (vo ⟨0, 0, 0, 0⟩)))
      replace T0 : Hid (Bx.Fre (W0.alloc (vo ⟨0, 0, 0, 0⟩)).drew (w.heap.size) (tdl x)) := Lib.hid (T0.out.more (vo ⟨0, 0, 0, 0⟩))
      replace R1 : Hid (Bx.Fre (W0.alloc (vo ⟨0, 0, 0, 0⟩)).drew (w.heap.size + 1) (enc ⟨0, 0, 0, 0⟩)) := Lib.hid (R1.out.more (vo ⟨0, 0, 0, 0⟩))
      replace R2 : Hid (Bx.Fre (W0.alloc (vo ⟨0, 0, 0, 0⟩)).drew (w.heap.size + 1 + 1) (tenc ⟨0, 0, 0, 0⟩)) := Lib.hid (R2.out.more (vo ⟨0, 0, 0, 0⟩))
      have B5 : Hid (Bx.Fre (W0.alloc (vo ⟨0, 0, 0, 0⟩)).drew W0.heap.size (enc ⟨0, 0, 0, 0⟩)) := Lib.hid (Bx.Fre.new W0 (enc ⟨0, 0, 0, 0⟩) 26)
      generalize (W0.alloc (vo ⟨0, 0, 0, 0⟩)).drew = vt1x27 at *
      generalize W0.heap.size = kB5 at *
      refine wpAnyH_ready (rs := [2, 6]) (by kernel_rfl) (by simp) ?_
      refine AllReadyH.cons (o := ?ot1x28) ?hit1x28 ?hstt1x28 (AllReadyH.cons (o := ?ot1x29) ?hit1x29 ?hstt1x29 AllReadyH.nil)
      case hit1x28 => (simp only [List.getElem?_toArray, List.getElem?_cons_succ, List.getElem?_cons_zero]; rfl)
      case hit1x29 => (simp only [List.getElem?_toArray, List.getElem?_cons_succ, List.getElem?_cons_zero]; rfl)
      case hstt1x28 =>
        intro K hK
        go_simp
        (go_at_call 20; (with_reducible refine (HO.out _).mono ?_); rintro e vt1x30 ⟨rfl, hb⟩)
        go_wp2_with fail
        refine hK.out _ _ ⟨Bx.keep_cell hb hHeld.1, Bx.keep_cell hb hHeld.2.1, Bx.keep_cell hb hHeld.2.2.1, Bx.keep_cell hb hHeld.2.2.2.1, Bx.keep_cell hb hHeld.2.2.2.2⟩ (fun hNew => ?_)
        clear hHeld
        have hHeld := hNew
        clear hNew hK K
        replace bel := Lib.hid (Bx.then_below bel.out hb)
        replace T0 := Lib.hid (T0.out.keep hb)
        replace R1 := Lib.hid (R1.out.keep hb)
        replace R2 := Lib.hid (R2.out.keep hb)
        replace B5 := Lib.hid (B5.out.keep hb)
        clear hb
        refine wpAnyH_ready (rs := [6]) (by kernel_rfl) (by simp) ?_
        refine AllReadyH.cons (o := ?ot1x31) ?hit1x31 ?hstt1x31 AllReadyH.nil
        case hit1x31 => (simp only [List.getElem?_toArray, List.getElem?_cons_succ, List.getElem?_cons_zero]; rfl)
        intro K hK
        go_simp
        refine hK.out _ _ ⟨Bx.kept_new hHeld.1, Bx.kept_new hHeld.2.1, Bx.kept_new hHeld.2.2.1, Bx.kept_new hHeld.2.2.2.1, Bx.kept_new hHeld.2.2.2.2⟩ (fun hNew => ?_)
        clear hHeld
        have hHeld := hNew
        clear hNew hK K
        have hB6T0 : w.heap.size < vt1x30.heap.size := T0.out.2.1
        have hB6R1 : w.heap.size + 1 < vt1x30.heap.size := R1.out.2.1
        have hB6R2 : w.heap.size + 1 + 1 < vt1x30.heap.size := R2.out.2.1
        have hB6B5 : kB5 < vt1x30.heap.size := B5.out.2.1
        replace bel : Hid (Below w.heap.size w (vt1x30.alloc (tmo ⟨0, 0, 0, 0⟩))) := Lib.hid ((Bx.bel_box bel.out (tmo ⟨0, 0, 0, 0⟩)))
        replace T0 : Hid (Bx.Fre (vt1x30.alloc (tmo ⟨0, 0, 0, 0⟩)) (w.heap.size) (tdl x)) := Lib.hid (T0.out.more (tmo ⟨0, 0, 0, 0⟩))
        replace R1 : Hid (Bx.Fre (vt1x30.alloc (tmo ⟨0, 0, 0, 0⟩)) (w.heap.size + 1) (enc ⟨0, 0, 0, 0⟩)) := Lib.hid (R1.out.more (tmo ⟨0, 0, 0, 0⟩))
        replace R2 : Hid (Bx.Fre (vt1x30.alloc (tmo ⟨0, 0, 0, 0⟩)) (w.heap.size + 1 + 1) (tenc ⟨0, 0, 0, 0⟩)) := Lib.hid (R2.out.more (tmo ⟨0, 0, 0, 0⟩))
        replace B5 : Hid (Bx.Fre (vt1x30.alloc (tmo ⟨0, 0, 0, 0⟩)) (kB5) (enc ⟨0, 0, 0, 0⟩)) := Lib.hid (B5.out.more (tmo ⟨0, 0, 0, 0⟩))
        have B6 : Hid (Bx.Fre (vt1x30.alloc (tmo ⟨0, 0, 0, 0⟩)) vt1x30.heap.size (tenc ⟨0, 0, 0, 0⟩)) := Lib.hid (Bx.Fre.new vt1x30 (tenc ⟨0, 0, 0, 0⟩) 24)
        generalize (vt1x30.alloc (tmo ⟨0, 0, 0, 0⟩)) = vt1x32 at *
        generalize vt1x30.heap.size = kB6 at *
        refine wpAnyH_ready (rs := [7]) (by kernel_rfl) (by simp) ?_
        refine AllReadyH.cons (o := ?ot1x33) ?hit1x33 ?hstt1x33 AllReadyH.nil
        case hit1x33 => (simp only [List.getElem?_toArray, List.getElem?_cons_succ, List.getElem?_cons_zero]; rfl)
        intro K hK
        rw [if_pos (by rfl)]
        refine vec_wp rfl (kB5) 0 rfl o rfl (enc ⟨0, 0, 0, 0⟩) (by simp [enc]) B5.out ?_
        refine hK.out _ _ ⟨Bx.cell_apart_at _ _ (by omega) hHeld.1, Bx.cell_apart_at _ _ (by omega) hHeld.2.1, Bx.cell_apart_at _ _ (by omega) hHeld.2.2.1, Bx.cell_apart_at _ _ (by omega) hHeld.2.2.2.1, Bx.cell_apart_at _ _ (by omega) hHeld.2.2.2.2⟩ (fun hNew => ?_)
        clear hHeld
        have hHeld := hNew
        clear hNew hK K
        try simp only [Act.put]
        replace bel := Lib.hid (Bx.bel_put_at (k := kB5) (enc o) 0 (by omega) bel.out)
        replace T0 := Lib.hid (T0.out.apart_at (k' := kB5) (enc o) 0 (by omega))
        replace R1 := Lib.hid (R1.out.apart_at (k' := kB5) (enc o) 0 (by omega))
        replace R2 := Lib.hid (R2.out.apart_at (k' := kB5) (enc o) 0 (by omega))
        replace B6 := Lib.hid (B6.out.apart_at (k' := kB5) (enc o) 0 (by omega))
        replace B5 := Lib.hid ((Bx.Fre.put_at (enc o) 0 B5.out).of (m := (enc o)) rfl)
        generalize vt1x32.setCells (kB5) 0 (enc o) = vt1x34 at *
        refine wpAnyH_ready (rs := [8]) (by kernel_rfl) (by simp) ?_
        refine AllReadyH.cons (o := ?ot1x35) ?hit1x35 ?hstt1x35 AllReadyH.nil
        case hit1x35 => (simp only [List.getElem?_toArray, List.getElem?_cons_succ, List.getElem?_cons_zero]; rfl)
        intro K hK
        rw [if_pos (by rfl)]
        refine tm_wp rfl (kB6) 0 rfl x.own rfl (tenc ⟨0, 0, 0, 0⟩) (by simp [tenc]) B6.out ?_
        refine hK.out _ _ ⟨Bx.cell_apart_at _ _ (by omega) hHeld.1, Bx.cell_apart_at _ _ (by omega) hHeld.2.1, Bx.cell_apart_at _ _ (by omega) hHeld.2.2.1, Bx.cell_apart_at _ _ (by omega) hHeld.2.2.2.1, Bx.cell_apart_at _ _ (by omega) hHeld.2.2.2.2⟩ (fun hNew => ?_)
        clear hHeld
        have hHeld := hNew
        clear hNew hK K
        try simp only [Act.put]
        replace bel := Lib.hid (Bx.bel_put_at (k := kB6) (tenc x.own) 0 (by omega) bel.out)
        replace T0 := Lib.hid (T0.out.apart_at (k' := kB6) (tenc x.own) 0 (by omega))
        replace R1 := Lib.hid (R1.out.apart_at (k' := kB6) (tenc x.own) 0 (by omega))
        replace R2 := Lib.hid (R2.out.apart_at (k' := kB6) (tenc x.own) 0 (by omega))
        replace B5 := Lib.hid (B5.out.apart_at (k' := kB6) (tenc x.own) 0 (by omega))
        replace B6 := Lib.hid ((Bx.Fre.put_at (tenc x.own) 0 B6.out).of (m := (tenc x.own)) rfl)
        generalize vt1x34.setCells (kB6) 0 (tenc x.own) = vt1x36 at *
        refine wpAnyH_take (i := 9) (oi := ?ot1x37) (v := ?vt1x37) ?hit1x37 (by kernel_rfl) (by kernel_rfl) (by kernel_rfl) (fun _ _ _ h => h) ?yt1x37 (by assumption) ?rt1x37
        case hit1x37 => (simp only [List.getElem?_toArray, List.getElem?_cons_succ, List.getElem?_cons_zero]; rfl)
        case yt1x37 => (refine Or.inl ⟨by rfl, ?_⟩; intro w' hSw; (try dsimp only at hSw); go_simp; (try with_reducible rfl))
        try simp only [Act.put, List.setIfInBounds_toArray, List.set_cons_zero, List.set_cons_succ]
        refine wpAnyH_done (by kernel_rfl) ?_ _
        refine NoPanic.normal ?_
        go_wp2_with fail
        go_meet
        exact ⟨_, _, rfl, rfl, rfl, by omega, bel.out, T0.out, R1.out, R2.out, B5.out, B6.out⟩
      case hstt1x29 =>
        intro K hK
        go_simp
        refine hK.out _ _ ⟨Bx.kept_new hHeld.1, Bx.kept_new hHeld.2.1, Bx.kept_new hHeld.2.2.1, Bx.kept_new hHeld.2.2.2.1, Bx.kept_new hHeld.2.2.2.2⟩ (fun hNew => ?_)
        clear hHeld
        have hHeld := hNew
        clear hNew hK K
        have hB6T0 : w.heap.size < vt1x27.heap.size := T0.out.2.1
        have hB6R1 : w.heap.size + 1 < vt1x27.heap.size := R1.out.2.1
        have hB6R2 : w.heap.size + 1 + 1 < vt1x27.heap.size := R2.out.2.1
        have hB6B5 : kB5 < vt1x27.heap.size := B5.out.2.1
        replace bel : Hid (Below w.heap.size w (vt1x27.alloc (tmo ⟨0, 0, 0, 0⟩))) := Lib.hid ((Bx.bel_box bel.out (tmo ⟨0, 0, 0, 0⟩)))
        replace T0 : Hid (Bx.Fre (vt1x27.alloc (tmo ⟨0, 0, 0, 0⟩)) (w.heap.size) (tdl x)) := Lib.hid (T0.out.more (tmo ⟨0, 0, 0, 0⟩))
        replace R1 : Hid (Bx.Fre (vt1x27.alloc (tmo ⟨0, 0, 0, 0⟩)) (w.heap.size + 1) (enc ⟨0, 0, 0, 0⟩)) := Lib.hid (R1.out.more (tmo ⟨0, 0, 0, 0⟩))
        replace R2 : Hid (Bx.Fre (vt1x27.alloc (tmo ⟨0, 0, 0, 0⟩)) (w.heap.size + 1 + 1) (tenc ⟨0, 0, 0, 0⟩)) := Lib.hid (R2.out.more (tmo ⟨0, 0, 0, 0⟩))
        replace B5 : Hid (Bx.Fre (vt1x27.alloc (tmo ⟨0, 0, 0, 0⟩)) (kB5) (enc ⟨0, 0, 0, 0⟩)) := Lib.hid (B5.out.more (tmo ⟨0, 0, 0, 0⟩))
        have B6 : Hid (Bx.Fre (vt1x27.alloc (tmo ⟨0, 0, 0, 0⟩)) vt1x27.heap.size (tenc ⟨0, 0, 0, 0⟩)) := Lib.hid (Bx.Fre.new vt1x27 (tenc ⟨0, 0, 0, 0⟩) 24)
        generalize (vt1x27.alloc (tmo ⟨0, 0, 0, 0⟩)) = vt1x38 at *
        generalize vt1x27.heap.size = kB6 at *
        refine wpAnyH_ready (rs := [2]) (by kernel_rfl) (by simp) ?_
        refine AllReadyH.cons (o := ?ot1x39) ?hit1x39 ?hstt1x39 AllReadyH.nil
        case hit1x39 => (simp only [List.getElem?_toArray, List.getElem?_cons_succ, List.getElem?_cons_zero]; rfl)
        intro K hK
        go_simp
        (go_at_call 20; (with_reducible refine (HO.out _).mono ?_); rintro e vt1x40 ⟨rfl, hb⟩)
        go_wp2_with fail
        refine hK.out _ _ ⟨Bx.keep_cell hb hHeld.1, Bx.keep_cell hb hHeld.2.1, Bx.keep_cell hb hHeld.2.2.1, Bx.keep_cell hb hHeld.2.2.2.1, Bx.keep_cell hb hHeld.2.2.2.2⟩ (fun hNew => ?_)
        clear hHeld
        have hHeld := hNew
        clear hNew hK K
        replace bel := Lib.hid (Bx.then_below bel.out hb)
        replace T0 := Lib.hid (T0.out.keep hb)
        replace R1 := Lib.hid (R1.out.keep hb)
        replace R2 := Lib.hid (R2.out.keep hb)
        replace B5 := Lib.hid (B5.out.keep hb)
        replace B6 := Lib.hid (B6.out.keep hb)
        clear hb
        refine wpAnyH_ready (rs := [7]) (by kernel_rfl) (by simp) ?_
        refine AllReadyH.cons (o := ?ot1x41) ?hit1x41 ?hstt1x41 AllReadyH.nil
        case hit1x41 => (simp only [List.getElem?_toArray, List.getElem?_cons_succ, List.getElem?_cons_zero]; rfl)
        intro K hK
        rw [if_pos (by rfl)]
        refine vec_wp rfl (kB5) 0 rfl o rfl (enc ⟨0, 0, 0, 0⟩) (by simp [enc]) B5.out ?_
        refine hK.out _ _ ⟨Bx.cell_apart_at _ _ (by omega) hHeld.1, Bx.cell_apart_at _ _ (by omega) hHeld.2.1, Bx.cell_apart_at _ _ (by omega) hHeld.2.2.1, Bx.cell_apart_at _ _ (by omega) hHeld.2.2.2.1, Bx.cell_apart_at _ _ (by omega) hHeld.2.2.2.2⟩ (fun hNew => ?_)
        clear hHeld
        have hHeld := hNew
        clear hNew hK K
        try simp only [Act.put]
        replace bel := Lib.hid (Bx.bel_put_at (k := kB5) (enc o) 0 (by omega) bel.out)
        replace T0 := Lib.hid (T0.out.apart_at (k' := kB5) (enc o) 0 (by omega))
        replace R1 := Lib.hid (R1.out.apart_at (k' := kB5) (enc o) 0 (by omega))
        replace R2 := Lib.hid (R2.out.apart_at (k' := kB5) (enc o) 0 (by omega))
        replace B6 := Lib.hid (B6.out.apart_at (k' := kB5) (enc o) 0 (by omega))
        replace B5 := Lib.hid ((Bx.Fre.put_at (enc o) 0 B5.out).of (m := (enc o)) rfl)
        generalize vt1x40.setCells (kB5) 0 (enc o) = vt1x42 at *
        refine wpAnyH_ready (rs := [8]) (by kernel_rfl) (by simp) ?_
        refine AllReadyH.cons (o := ?ot1x43) ?hit1x43 ?hstt1x43 AllReadyH.nil
        case hit1x43 => (simp only [List.getElem?_toArray, List.getElem?_cons_succ, List.getElem?_cons_zero]; rfl)
        intro K hK
        rw [if_pos (by rfl)]
        refine tm_wp rfl (kB6) 0 rfl x.own rfl (tenc ⟨0, 0, 0, 0⟩) (by simp [tenc]) B6.out ?_
        refine hK.out _ _ ⟨Bx.cell_apart_at _ _ (by omega) hHeld.1, Bx.cell_apart_at _ _ (by omega) hHeld.2.1, Bx.cell_apart_at _ _ (by omega) hHeld.2.2.1, Bx.cell_apart_at _ _ (by omega) hHeld.2.2.2.1, Bx.cell_apart_at _ _ (by omega) hHeld.2.2.2.2⟩ (fun hNew => ?_)
        clear hHeld
        have hHeld := hNew
        clear hNew hK K
        try simp only [Act.put]
        replace bel := Lib.hid (Bx.bel_put_at (k := kB6) (tenc x.own) 0 (by omega) bel.out)
        replace T0 := Lib.hid (T0.out.apart_at (k' := kB6) (tenc x.own) 0 (by omega))
        replace R1 := Lib.hid (R1.out.apart_at (k' := kB6) (tenc x.own) 0 (by omega))
        replace R2 := Lib.hid (R2.out.apart_at (k' := kB6) (tenc x.own) 0 (by omega))
        replace B5 := Lib.hid (B5.out.apart_at (k' := kB6) (tenc x.own) 0 (by omega))
        replace B6 := Lib.hid ((Bx.Fre.put_at (tenc x.own) 0 B6.out).of (m := (tenc x.own)) rfl)
        generalize vt1x42.setCells (kB6) 0 (tenc x.own) = vt1x44 at *
        refine wpAnyH_take (i := 9) (oi := ?ot1x45) (v := ?vt1x45) ?hit1x45 (by kernel_rfl) (by kernel_rfl) (by kernel_rfl) (fun _ _ _ h => h) ?yt1x45 (by assumption) ?rt1x45
        case hit1x45 => (simp only [List.getElem?_toArray, List.getElem?_cons_succ, List.getElem?_cons_zero]; rfl)
        case yt1x45 => (refine Or.inl ⟨by rfl, ?_⟩; intro w' hSw; (try dsimp only at hSw); go_simp; (try with_reducible rfl))
        try simp only [Act.put, List.setIfInBounds_toArray, List.set_cons_zero, List.set_cons_succ]
        refine wpAnyH_done (by kernel_rfl) ?_ _
        refine NoPanic.normal ?_
        go_wp2_with fail
        go_meet
        exact ⟨_, _, rfl, rfl, rfl, by omega, bel.out, T0.out, R1.out, R2.out, B5.out, B6.out⟩
    case hstt1x7 =>
      intro K hK
      go_simp
      refine hK.out _ _ ⟨Bx.kept_new hHeld.1, Bx.kept_new hHeld.2.1, Bx.kept_new hHeld.2.2.1, Bx.kept_new hHeld.2.2.2.1, Bx.kept_new hHeld.2.2.2.2⟩ (fun hNew => ?_)
      clear hHeld
      have hHeld := hNew
      clear hNew hK K
      have hB6T0 : w.heap.size < W0.heap.size := T0.out.2.1
      have hB6R1 : w.heap.size + 1 < W0.heap.size := R1.out.2.1
      have hB6R2 : w.heap.size + 1 + 1 < W0.heap.size := R2.out.2.1
      replace bel : Hid (Below w.heap.size w (W0.alloc (tmo ⟨0, 0, 0, 0⟩)).drew) := Lib.hid (Bx.bel_drewn (Bx.bel_box bel.out (tmo ⟨0, 0, 0, 0⟩)))
      replace T0 : Hid (Bx.Fre (W0.alloc (tmo ⟨0, 0, 0, 0⟩)).drew (w.heap.size) (tdl x)) := Lib.hid (T0.out.more (tmo ⟨0, 0, 0, 0⟩))
      replace R1 : Hid (Bx.Fre (W0.alloc (tmo ⟨0, 0, 0, 0⟩)).drew (w.heap.size + 1) (enc ⟨0, 0, 0, 0⟩)) := Lib.hid (R1.out.more (tmo ⟨0, 0, 0, 0⟩))
      replace R2 : Hid (Bx.Fre (W0.alloc (tmo ⟨0, 0, 0, 0⟩)).drew (w.heap.size + 1 + 1) (tenc ⟨0, 0, 0, 0⟩)) := Lib.hid (R2.out.more (tmo ⟨0, 0, 0, 0⟩))
      have B6 : Hid (Bx.Fre (W0.alloc (tmo ⟨0, 0, 0, 0⟩)).drew W0.heap.size (tenc ⟨0, 0, 0, 0⟩)) := Lib.hid (Bx.Fre.new W0 (tenc ⟨0, 0, 0, 0⟩) 24)
      generalize (W0.alloc (tmo ⟨0, 0, 0, 0⟩)).drew = vt1x46 at *
      generalize W0.heap.size = kB6 at *
      refine wpAnyH_ready (rs := [2, 5]) (by kernel_rfl) (by simp) ?_
      refine AllReadyH.cons (o := ?ot1x47) ?hit1x47 ?hstt1x47 (AllReadyH.cons (o := ?ot1x48) ?hit1x48 ?hstt1x48 AllReadyH.nil)
      case hit1x47 => (simp only [List.getElem?_toArray, List.getElem?_cons_succ, List.getElem?_cons_zero]; rfl)
      case hit1x48 => (simp only [List.getElem?_toArray, List.getElem?_cons_succ, List.getElem?_cons_zero]; rfl)
      case hstt1x47 =>
        intro K hK
        go_simp
        (go_at_call 20; (with_reducible refine (HO.out _).mono ?_); rintro e vt1x49 ⟨rfl, hb⟩)
        go_wp2_with fail
        refine hK.out _ _ ⟨Bx.keep_cell hb hHeld.1, Bx.keep_cell hb hHeld.2.1, Bx.keep_cell hb hHeld.2.2.1, Bx.keep_cell hb hHeld.2.2.2.1, Bx.keep_cell hb hHeld.2.2.2.2⟩ (fun hNew => ?_)
        clear hHeld
        have hHeld := hNew
        clear hNew hK K
        replace bel := Lib.hid (Bx.then_below bel.out hb)
        replace T0 := Lib.hid (T0.out.keep hb)
        replace R1 := Lib.hid (R1.out.keep hb)
        replace R2 := Lib.hid (R2.out.keep hb)
        replace B6 := Lib.hid (B6.out.keep hb)
        clear hb
        refine wpAnyH_ready (rs := [5]) (by kernel_rfl) (by simp) ?_
        refine AllReadyH.cons (o := ?ot1x50) ?hit1x50 ?hstt1x50 AllReadyH.nil
        case hit1x50 => (simp only [List.getElem?_toArray, List.getElem?_cons_succ, List.getElem?_cons_zero]; rfl)
        intro K hK
        go_simp
        refine hK.out _ _ ⟨Bx.kept_new hHeld.1, Bx.kept_new hHeld.2.1, Bx.kept_new hHeld.2.2.1, Bx.kept_new hHeld.2.2.2.1, Bx.kept_new hHeld.2.2.2.2⟩ (fun hNew => ?_)
        clear hHeld
        have hHeld := hNew
        clear hNew hK K
        have hB5T0 : w.heap.size < vt1x49.heap.size := T0.out.2.1
        have hB5R1 : w.heap.size + 1 < vt1x49.heap.size := R1.out.2.1
        have hB5R2 : w.heap.size + 1 + 1 < vt1x49.heap.size := R2.out.2.1
        have hB5B6 : kB6 < vt1x49.heap.size := B6.out.2.1
        replace bel : Hid (Below w.heap.size w (vt1x49.alloc (vo ⟨0, 0, 0, 0⟩))) := Lib.hid ((Bx.bel_box bel.out (vo ⟨0, 0, 0, 0⟩)))
        replace T0 : Hid (Bx.Fre (vt1x49.alloc (vo ⟨0, 0, 0, 0⟩)) (w.heap.size) (tdl x)) := Lib.hid (T0.out.more (vo ⟨0, 0, 0, 0⟩))
        replace R1 : Hid (Bx.Fre (vt1x49.alloc (vo ⟨0, 0, 0, 0⟩)) (w.heap.size + 1) (enc ⟨0, 0, 0, 0⟩)) := Lib.hid (R1.out.more (vo ⟨0, 0, 0, 0⟩))
        replace R2 : Hid (Bx.Fre (vt1x49.alloc (vo ⟨0, 0, 0, 0⟩)) (w.heap.size + 1 + 1) (tenc ⟨0, 0, 0, 0⟩)) := Lib.hid (R2.out.more (vo ⟨0, 0, 0, 0⟩))
        replace B6 : Hid (Bx.Fre (vt1x49.alloc (vo ⟨0, 0, 0, 0⟩)) (kB6) (tenc ⟨0, 0, 0, 0⟩)) := Lib.hid (B6.out.more (vo ⟨0, 0, 0, 0⟩))
        have B5 : Hid (Bx.Fre (vt1x49.alloc (vo ⟨0, 0, 0, 0⟩)) vt1x49.heap.size (enc ⟨0, 0, 0, 0⟩)) := Lib.hid (Bx.Fre.new vt1x49 (enc ⟨0, 0, 0, 0⟩) 26)
        generalize (vt1x49.alloc (vo ⟨0, 0, 0, 0⟩)) = vt1x51 at *
        generalize vt1x49.heap.size = kB5 at *
        refine wpAnyH_ready (rs := [7]) (by kernel_rfl) (by simp) ?_
        refine AllReadyH.cons (o := ?ot1x52) ?hit1x52 ?hstt1x52 AllReadyH.nil
        case hit1x52 => (simp only [List.getElem?_toArray, List.getElem?_cons_succ, List.getElem?_cons_zero]; rfl)
        intro K hK
        rw [if_pos (by rfl)]
        refine vec_wp rfl (kB5) 0 rfl o rfl (enc ⟨0, 0, 0, 0⟩) (by simp [enc]) B5.out ?_
        refine hK.out _ _ ⟨Bx.cell_apart_at _ _ (by omega) hHeld.1, Bx.cell_apart_at _ _ (by omega) hHeld.2.1, Bx.cell_apart_at _ _ (by omega) hHeld.2.2.1, Bx.cell_apart_at _ _ (by omega) hHeld.2.2.2.1, Bx.cell_apart_at _ _ (by omega) hHeld.2.2.2.2⟩ (fun hNew => ?_)
        clear hHeld
        have hHeld := hNew
        clear hNew hK K
        try simp only [Act.put]
        replace bel := Lib.hid (Bx.bel_put_at (k := kB5) (enc o) 0 (by omega) bel.out)
        replace T0 := Lib.hid (T0.out.apart_at (k' := kB5) (enc o) 0 (by omega))
        replace R1 := Lib.hid (R1.out.apart_at (k' := kB5) (enc o) 0 (by omega))
        replace R2 := Lib.hid (R2.out.apart_at (k' := kB5) (enc o) 0 (by omega))
        replace B6 := Lib.hid (B6.out.apart_at (k' := kB5) (enc o) 0 (by omega))
        replace B5 := Lib.hid ((Bx.Fre.put_at (enc o) 0 B5.out).of (m := (enc o)) rfl)
        generalize vt1x51.setCells (kB5) 0 (enc o) = vt1x53 at *
        refine wpAnyH_ready (rs := [8]) (by kernel_rfl) (by simp) ?_
        refine AllReadyH.cons (o := ?ot1x54) ?hit1x54 ?hstt1x54 AllReadyH.nil
        case hit1x54 => (simp only [List.getElem?_toArray, List.getElem?_cons_succ, List.getElem?_cons_zero]; rfl)
        intro K hK
        rw [if_pos (by rfl)]
        refine tm_wp rfl (kB6) 0 rfl x.own rfl (tenc ⟨0, 0, 0, 0⟩) (by simp [tenc]) B6.out ?_
        refine hK.out _ _ ⟨Bx.cell_apart_at _ _ (by omega) hHeld.1, Bx.cell_apart_at _ _ (by omega) hHeld.2.1, Bx.cell_apart_at _ _ (by omega) hHeld.2.2.1, Bx.cell_apart_at _ _ (by omega) hHeld.2.2.2.1, Bx.cell_apart_at _ _ (by omega) hHeld.2.2.2.2⟩ (fun hNew => ?_)
        clear hHeld
        have hHeld := hNew
        clear hNew hK K
        try simp only [Act.put]
        replace bel := Lib.hid (Bx.bel_put_at (k := kB6) (tenc x.own) 0 (by omega) bel.out)
        replace T0 := Lib.hid (T0.out.apart_at (k' := kB6) (tenc x.own) 0 (by omega))
        replace R1 := Lib.hid (R1.out.apart_at (k' := kB6) (tenc x.own) 0 (by omega))
        replace R2 := Lib.hid (R2.out.apart_at (k' := kB6) (tenc x.own) 0 (by omega))
        replace B5 := Lib.hid (B5.out.apart_at (k' := kB6) (tenc x.own) 0 (by omega))
        replace B6 := Lib.hid ((Bx.Fre.put_at (tenc x.own) 0 B6.out).of (m := (tenc x.own)) rfl)
        generalize vt1x53.setCells (kB6) 0 (tenc x.own) = vt1x55 at *
        refine wpAnyH_take (i := 9) (oi := ?ot1x56) (v := ?vt1x56) ?hit1x56 (by kernel_rfl) (by kernel_rfl) (by kernel_rfl) (fun _ _ _ h => h) ?yt1x56 (by assumption) ?rt1x56
        case hit1x56 => (simp only [List.getElem?_toArray, List.getElem?_cons_succ, List.getElem?_cons_zero]; rfl)
        case yt1x56 => (refine Or.inl ⟨by rfl, ?_⟩; intro w' hSw; (try dsimp only at hSw); go_simp; (try with_reducible rfl))
        try simp only [Act.put, List.setIfInBounds_toArray, List.set_cons_zero, List.set_cons_succ]
        refine wpAnyH_done (by kernel_rfl) ?_ _
        refine NoPanic.normal ?_
        go_wp2_with fail
        go_meet
        exact ⟨_, _, rfl, rfl, rfl, by omega, bel.out, T0.out, R1.out, R2.out, B5.out, B6.out⟩
      case hstt1x48 =>
        intro K hK
        go_simp
        refine hK.out _ _ ⟨Bx.kept_new hHeld.1, Bx.kept_new hHeld.2.1, Bx.kept_new hHeld.2.2.1, Bx.kept_new hHeld.2.2.2.1, Bx.kept_new hHeld.2.2.2.2⟩ (fun hNew => ?_)
        clear hHeld
        have hHeld := hNew
        clear hNew hK K
        have hB5T0 : w.heap.size < vt1x46.heap.size := T0.out.2.1
        have hB5R1 : w.heap.size + 1 < vt1x46.heap.size := R1.out.2.1
        have hB5R2 : w.heap.size + 1 + 1 < vt1x46.heap.size := R2.out.2.1
        have hB5B6 : kB6 < vt1x46.heap.size := B6.out.2.1
        replace bel : Hid (Below w.heap.size w (vt1x46.alloc (vo ⟨0, 0, 0, 0⟩))) := Lib.hid ((Bx.bel_box bel.out (vo ⟨0, 0, 0, 0⟩)))
        replace T0 : Hid (Bx.Fre (vt1x46.alloc (vo ⟨0, 0, 0, 0⟩)) (w.heap.size) (tdl x)) := Lib.hid (T0.out.more (vo ⟨0, 0, 0, 0⟩))
        replace R1 : Hid (Bx.Fre (vt1x46.alloc (vo ⟨0, 0, 0, 0⟩)) (w.heap.size + 1) (enc ⟨0, 0, 0, 0⟩)) := Lib.hid (R1.out.more (vo ⟨0, 0, 0, 0⟩))
        replace R2 : Hid (Bx.Fre (vt1x46.alloc (vo ⟨0, 0, 0, 0⟩)) (w.heap.size + 1 + 1) (tenc ⟨0, 0, 0, 0⟩)) := Lib.hid (R2.out.more (vo ⟨0, 0, 0, 0⟩))
        replace B6 : Hid (Bx.Fre (vt1x46.alloc (vo ⟨0, 0, 0, 0⟩)) (kB6) (tenc ⟨0, 0, 0, 0⟩)) := Lib.hid (B6.out.more (vo ⟨0, 0, 0, 0⟩))
        have B5 : Hid (Bx.Fre (vt1x46.alloc (vo ⟨0, 0, 0, 0⟩)) vt1x46.heap.size (enc ⟨0, 0, 0, 0⟩)) := Lib.hid (Bx.Fre.new vt1x46 (enc ⟨0, 0, 0, 0⟩) 26)
        generalize (vt1x46.alloc (vo ⟨0, 0, 0, 0⟩)) = vt1x57 at *
        generalize vt1x46.heap.size = kB5 at *
        refine wpAnyH_ready (rs := [2]) (by kernel_rfl) (by simp) ?_
        refine AllReadyH.cons (o := ?ot1x58) ?hit1x58 ?hstt1x58 AllReadyH.nil
        case hit1x58 => (simp only [List.getElem?_toArray, List.getElem?_cons_succ, List.getElem?_cons_zero]; rfl)
        intro K hK
        go_simp
        (go_at_call 20; (with_reducible refine (HO.out _).mono ?_); rintro e vt1x59 ⟨rfl, hb⟩)
        go_wp2_with fail
        refine hK.out _ _ ⟨Bx.keep_cell hb hHeld.1, Bx.keep_cell hb hHeld.2.1, Bx.keep_cell hb hHeld.2.2.1, Bx.keep_cell hb hHeld.2.2.2.1, Bx.keep_cell hb hHeld.2.2.2.2⟩ (fun hNew => ?_)
        clear hHeld
        have hHeld := hNew
        clear hNew hK K
        replace bel := Lib.hid (Bx.then_below bel.out hb)
        replace T0 := Lib.hid (T0.out.keep hb)
        replace R1 := Lib.hid (R1.out.keep hb)
        replace R2 := Lib.hid (R2.out.keep hb)
        replace B6 := Lib.hid (B6.out.keep hb)
        replace B5 := Lib.hid (B5.out.keep hb)
        clear hb
        refine wpAnyH_ready (rs := [7]) (by kernel_rfl) (by simp) ?_
        refine AllReadyH.cons (o := ?ot1x60) ?hit1x60 ?hstt1x60 AllReadyH.nil
        case hit1x60 => (simp only [List.getElem?_toArray, List.getElem?_cons_succ, List.getElem?_cons_zero]; rfl)
        intro K hK
        rw [if_pos (by rfl)]
        refine vec_wp rfl (kB5) 0 rfl o rfl (enc ⟨0, 0, 0, 0⟩) (by simp [enc]) B5.out ?_
        refine hK.out _ _ ⟨Bx.cell_apart_at _ _ (by omega) hHeld.1, Bx.cell_apart_at _ _ (by omega) hHeld.2.1, Bx.cell_apart_at _ _ (by omega) hHeld.2.2.1, Bx.cell_apart_at _ _ (by omega) hHeld.2.2.2.1, Bx.cell_apart_at _ _ (by omega) hHeld.2.2.2.2⟩ (fun hNew => ?_)
        clear hHeld
        have hHeld := hNew
        clear hNew hK K
        try simp only [Act.put]
        replace bel := Lib.hid (Bx.bel_put_at (k := kB5) (enc o) 0 (by omega) bel.out)
        replace T0 := Lib.hid (T0.out.apart_at (k' := kB5) (enc o) 0 (by omega))
        replace R1 := Lib.hid (R1.out.apart_at (k' := kB5) (enc o) 0 (by omega))
        replace R2 := Lib.hid (R2.out.apart_at (k' := kB5) (enc o) 0 (by omega))
        replace B6 := Lib.hid (B6.out.apart_at (k' := kB5) (enc o) 0 (by omega))
        replace B5 := Lib.hid ((Bx.Fre.put_at (enc o) 0 B5.out).of (m := (enc o)) rfl)
        generalize vt1x59.setCells (kB5) 0 (enc o) = vt1x61 at *
        refine wpAnyH_ready (rs := [8]) (by kernel_rfl) (by simp) ?_
        refine AllReadyH.cons (o := ?ot1x62) ?hit1x62 ?hstt1x62 AllReadyH.nil
        case hit1x62 => (simp only [List.getElem?_toArray, List.getElem?_cons_succ, List.getElem?_cons_zero]; rfl)
        intro K hK
        rw [if_pos (by rfl)]
        refine tm_wp rfl (kB6) 0 rfl x.own rfl (tenc ⟨0, 0, 0, 0⟩) (by simp [tenc]) B6.out ?_
        refine hK.out _ _ ⟨Bx.cell_apart_at _ _ (by omega) hHeld.1, Bx.cell_apart_at _ _ (by omega) hHeld.2.1, Bx.cell_apart_at _ _ (by omega) hHeld.2.2.1, Bx.cell_apart_at _ _ (by omega) hHeld.2.2.2.1, Bx.cell_apart_at _ _ (by omega) hHeld.2.2.2.2⟩ (fun hNew => ?_)
        clear hHeld
        have hHeld := hNew
        clear hNew hK K
        try simp only [Act.put]
        replace bel := Lib.hid (Bx.bel_put_at (k := kB6) (tenc x.own) 0 (by omega) bel.out)
        replace T0 := Lib.hid (T0.out.apart_at (k' := kB6) (tenc x.own) 0 (by omega))
        replace R1 := Lib.hid (R1.out.apart_at (k' := kB6) (tenc x.own) 0 (by omega))
        replace R2 := Lib.hid (R2.out.apart_at (k' := kB6) (tenc x.own) 0 (by omega))
        replace B5 := Lib.hid (B5.out.apart_at (k' := kB6) (tenc x.own) 0 (by omega))
        replace B6 := Lib.hid ((Bx.Fre.put_at (tenc x.own) 0 B6.out).of (m := (tenc x.own)) rfl)
        generalize vt1x61.setCells (kB6) 0 (tenc x.own) = vt1x63 at *
        refine wpAnyH_take (i := 9) (oi := ?ot1x64) (v := ?vt1x64) ?hit1x64 (by kernel_rfl) (by kernel_rfl) (by kernel_rfl) (fun _ _ _ h => h) ?yt1x64 (by assumption) ?rt1x64
        case hit1x64 => (simp only [List.getElem?_toArray, List.getElem?_cons_succ, List.getElem?_cons_zero]; rfl)
        case yt1x64 => (refine Or.inl ⟨by rfl, ?_⟩; intro w' hSw; (try dsimp only at hSw); go_simp; (try with_reducible rfl))
        try simp only [Act.put, List.setIfInBounds_toArray, List.set_cons_zero, List.set_cons_succ]
        refine wpAnyH_done (by kernel_rfl) ?_ _
        refine NoPanic.normal ?_
        go_wp2_with fail
        go_meet
        exact ⟨_, _, rfl, rfl, rfl, by omega, bel.out, T0.out, R1.out, R2.out, B5.out, B6.out⟩
  case rest =>
    clear T0 R1 R2 bel
    obtain ⟨k5, k6, rfl, rfl, rfl, ⟨h5, h6, h56⟩, bel, T0, R1, R2, B5, B6⟩ := hcut
    replace bel := Lib.hid bel
    replace T0 := Lib.hid T0
    replace R1 := Lib.hid R1
    replace R2 := Lib.hid R2
    replace B5 := Lib.hid B5
    replace B6 := Lib.hid B6
    go_wp2_with (first | ((with_reducible refine td_load ?_ ?_ (w.heap.size) ?_ x ?_ ?_); (· rfl); (· rfl); (· rfl); (· exact T0.out.blk)) | ((with_reducible refine cs_load ?_ ?_ (w.heap.size) ?_ x ?_ ?_); (· rfl); (· rfl); (· rfl); (· exact T0.out.blk)))
    go_loopg [7, 18] 8 (fun g s7 s18 wr => ∃ k : Nat, k + g = 8 ∧ s18 = .int .i64 k ∧ s7 = .int .i64 (rootN x k).p ∧ Aside (Bx.Fre wr w.heap.size (tdl x)) ∧ Aside (Bx.Fre wr (w.heap.size + 1) (enc ⟨0, 0, 0, 0⟩)) ∧ Aside (Bx.Fre wr (w.heap.size + 1 + 1) (tenc ⟨0, 0, 0, 0⟩)) ∧ Aside (Bx.Fre wr k5 (enc (rootN x k).v)) ∧ Aside (Bx.Fre wr k6 (tenc (rootN x k).t)) ∧ Aside (Below w.heap.size w wr))
    case atStart => exact ⟨0, by omega, rfl, rfl, T0.out, R1.out, R2.out, by rw [show (rootN x 0).v = o from ho.out.symm]; exact B5.out, B6.out, bel.out⟩
    case round =>
      clear T0 R1 R2 B5 B6 bel
      obtain ⟨k, hkg, rfl, rfl, T0, R1, R2, B5, B6, bel⟩ := hrel
      cases gk with
      | zero =>
        have hkz : ¬ ((k : Int) < 8) := by omega
        obtain rfl : k = 8 := by omega
        obtain ⟨r, hr⟩ : ∃ r, r = rootR x := ⟨_, rfl⟩
        rw [show rootN x 8 = r from hr.symm] at B5 B6 ⊢
        replace hr := Lib.hid hr
        go_wp2_with (first | ((with_reducible refine td_load ?_ ?_ (w.heap.size) ?_ x ?_ ?_); (· rfl); (· rfl); (· rfl); (· exact T0.out.blk)) | ((with_reducible refine cs_load ?_ ?_ (w.heap.size) ?_ x ?_ ?_); (· rfl); (· rfl); (· rfl); (· exact T0.out.blk)))
        refine wp_region_noPanic ?_
        refine wp_region_held_drew (S := fun w' => w'.cell? ⟨k5, 0, none⟩ = some (.int .u64 r.v.r) ∧ w'.cell? ⟨k5, 1, none⟩ = some (.int .u64 r.v.c) ∧ w'.cell? ⟨k5, 2, none⟩ = some (.int .u64 r.v.b) ∧ w'.cell? ⟨k5, 3, none⟩ = some (.int .i64 r.v.p) ∧ w'.cell? ⟨k6, 0, none⟩ = some (.int .i64 r.t.a) ∧ w'.cell? ⟨k6, 1, none⟩ = some (.int .i64 r.t.m) ∧ w'.cell? ⟨k6, 2, none⟩ = some (.int .i64 r.t.h) ∧ w'.cell? ⟨k6, 3, none⟩ = some (.int .i64 r.t.d)) (by kernel_rfl) (by exact ⟨B5.out.at 0 rfl, B5.out.at 1 rfl, B5.out.at 2 rfl, B5.out.at 3 rfl, B6.out.at 0 rfl, B6.out.at 1 rfl, B6.out.at 2 rfl, B6.out.at 3 rfl⟩) (fun hHeld => ?_)
        replace bel := Lib.hid (Bx.bel_drewn bel.out)
        replace T0 := Lib.hid (T0.out.drew)
        replace R1 := Lib.hid (R1.out.drew)
        replace R2 := Lib.hid (R2.out.drew)
        replace B5 := Lib.hid (B5.out.drew)
        replace B6 := Lib.hid (B6.out.drew)
        refine wpAnyH_take (i := 0) (oi := ?oz2x0) (v := ?vz2x0) ?hiz2x0 (by kernel_rfl) (by kernel_rfl) (by kernel_rfl) (fun _ _ _ h => h) ?yz2x0 (by assumption) ?rz2x0
        case hiz2x0 => (simp only [List.getElem?_toArray, List.getElem?_cons_zero]; rfl)
        case yz2x0 => (refine Or.inl ⟨by rfl, ?_⟩; intro w' hSw; (try dsimp only at hSw); go_simp; (try with_reducible rfl))
        try simp only [Act.put, List.setIfInBounds_toArray, List.set_cons_zero, List.set_cons_succ]
        refine wpAnyH_take (i := 1) (oi := ?oz2x1) (v := ?vz2x1) ?hiz2x1 (by kernel_rfl) (by kernel_rfl) (by kernel_rfl) (fun _ _ _ h => h) ?yz2x1 (by assumption) ?rz2x1
        case hiz2x1 => (simp only [List.getElem?_toArray, List.getElem?_cons_succ, List.getElem?_cons_zero]; rfl)
        case yz2x1 => (refine Or.inl ⟨by rfl, ?_⟩; intro w' hSw; (try dsimp only at hSw); go_simp; (try with_reducible rfl))
        try simp only [Act.put, List.setIfInBounds_toArray, List.set_cons_zero, List.set_cons_succ]
        refine wpAnyH_take (i := 2) (oi := ?oz2x2) (v := ?vz2x2) ?hiz2x2 (by kernel_rfl) (by kernel_rfl) (by kernel_rfl) (fun _ _ _ h => h) ?yz2x2 (by assumption) ?rz2x2
        case hiz2x2 => (simp only [List.getElem?_toArray, List.getElem?_cons_succ, List.getElem?_cons_zero]; rfl)
        case yz2x2 => (refine Or.inl ⟨by rfl, ?_⟩; intro w' hSw; (try dsimp only at hSw); go_simp; (try with_reducible rfl))
        try simp only [Act.put, List.setIfInBounds_toArray, List.set_cons_zero, List.set_cons_succ]
        refine wpAnyH_ready (rs := [3]) (by kernel_rfl) (by simp) ?_
        refine AllReadyH.cons (o := ?oz2x3) ?hiz2x3 ?hstz2x3 AllReadyH.nil
        case hiz2x3 => (simp only [List.getElem?_toArray, List.getElem?_cons_succ, List.getElem?_cons_zero]; rfl)
        intro K hK
        rw [if_pos (by rfl)]
        refine vec_wp rfl (w.heap.size + 1) 0 rfl r.v rfl (enc ⟨0, 0, 0, 0⟩) (by simp [enc]) R1.out ?_
        refine hK.out _ _ ⟨Bx.cell_apart_at _ _ (by omega) hHeld.1, Bx.cell_apart_at _ _ (by omega) hHeld.2.1, Bx.cell_apart_at _ _ (by omega) hHeld.2.2.1, Bx.cell_apart_at _ _ (by omega) hHeld.2.2.2.1, Bx.cell_apart_at _ _ (by omega) hHeld.2.2.2.2.1, Bx.cell_apart_at _ _ (by omega) hHeld.2.2.2.2.2.1, Bx.cell_apart_at _ _ (by omega) hHeld.2.2.2.2.2.2.1, Bx.cell_apart_at _ _ (by omega) hHeld.2.2.2.2.2.2.2⟩ (fun hNew => ?_)
        clear hHeld
        have hHeld := hNew
        clear hNew hK K
        try simp only [Act.put]
        replace bel := Lib.hid (Bx.bel_put_at (k := w.heap.size + 1) (enc r.v) 0 (by omega) bel.out)
        replace T0 := Lib.hid (Bx.Fre.apart_at (k' := w.heap.size + 1) (enc r.v) 0 (by omega) T0.out)
        replace R1 := Lib.hid (Bx.Fre.put_at (enc r.v) 0 R1.out)
        replace R2 := Lib.hid (Bx.Fre.apart_at (k' := w.heap.size + 1) (enc r.v) 0 (by omega) R2.out)
        replace B5 := Lib.hid (Bx.Fre.apart_at (k' := w.heap.size + 1) (enc r.v) 0 (by omega) B5.out)
        replace B6 := Lib.hid (Bx.Fre.apart_at (k' := w.heap.size + 1) (enc r.v) 0 (by omega) B6.out)
        refine wpAnyH_ready (rs := [4]) (by kernel_rfl) (by simp) ?_
        refine AllReadyH.cons (o := ?oz2x4) ?hiz2x4 ?hstz2x4 AllReadyH.nil
        case hiz2x4 => (simp only [List.getElem?_toArray, List.getElem?_cons_succ, List.getElem?_cons_zero]; rfl)
        intro K hK
        rw [if_pos (by rfl)]
        refine tm_wp rfl (w.heap.size + 1 + 1) 0 rfl r.t rfl (tenc ⟨0, 0, 0, 0⟩) (by simp [tenc]) R2.out ?_
        refine hK.out _ _ ⟨Bx.cell_apart_at _ _ (by omega) hHeld.1, Bx.cell_apart_at _ _ (by omega) hHeld.2.1, Bx.cell_apart_at _ _ (by omega) hHeld.2.2.1, Bx.cell_apart_at _ _ (by omega) hHeld.2.2.2.1, Bx.cell_apart_at _ _ (by omega) hHeld.2.2.2.2.1, Bx.cell_apart_at _ _ (by omega) hHeld.2.2.2.2.2.1, Bx.cell_apart_at _ _ (by omega) hHeld.2.2.2.2.2.2.1, Bx.cell_apart_at _ _ (by omega) hHeld.2.2.2.2.2.2.2⟩ (fun hNew => ?_)
        clear hHeld
        have hHeld := hNew
        clear hNew hK K
        try simp only [Act.put]
        replace bel := Lib.hid (Bx.bel_put_at (k := w.heap.size + 1 + 1) (tenc r.t) 0 (by omega) bel.out)
        replace T0 := Lib.hid (Bx.Fre.apart_at (k' := w.heap.size + 1 + 1) (tenc r.t) 0 (by omega) T0.out)
        replace R1 := Lib.hid (Bx.Fre.apart_at (k' := w.heap.size + 1 + 1) (tenc r.t) 0 (by omega) R1.out)
        replace R2 := Lib.hid (Bx.Fre.put_at (tenc r.t) 0 R2.out)
        replace B5 := Lib.hid (Bx.Fre.apart_at (k' := w.heap.size + 1 + 1) (tenc r.t) 0 (by omega) B5.out)
        replace B6 := Lib.hid (Bx.Fre.apart_at (k' := w.heap.size + 1 + 1) (tenc r.t) 0 (by omega) B6.out)
        refine wpAnyH_take (i := 5) (oi := ?oz2x5) (v := ?vz2x5) ?hiz2x5 (by kernel_rfl) (by kernel_rfl) (by kernel_rfl) (fun _ _ _ h => h) ?yz2x5 (by assumption) ?rz2x5
        case hiz2x5 => (simp only [List.getElem?_toArray, List.getElem?_cons_succ, List.getElem?_cons_zero]; rfl)
        case yz2x5 => (refine Or.inl ⟨by rfl, ?_⟩; intro w' hSw; (try dsimp only at hSw); go_simp; (try with_reducible rfl))
        try simp only [Act.put, List.setIfInBounds_toArray, List.set_cons_zero, List.set_cons_succ]
        refine wpAnyH_done (by kernel_rfl) ?_ _
        refine NoPanic.normal ?_
        clear hHeld
        go_wp2_with fail
        refine bodyPost_ret (v := .tuple #[vv r.v, tmv r.t, .int .i64 r.p]) (root_result Try.results7 rfl rfl rfl (R1.out.blk : Bx.Blk _ _ (enc r.v)) (R2.out.blk : Bx.Blk _ _ (tenc r.t))) rfl ⟨by rw [hr.out], bel.out⟩
      | succ g =>
        have hkz : (k : Int) < 8 := by omega
        have hk : k < 8 := by omega
        have hix := index_at x.cs k hk
        have hp := rootN_p x k
        have HS := Lib.hid (show rootN x (k + 1) = stepR x (rootN x k) k from rfl)
        generalize rootN x k = r at *
        unfold stepR at HS
        obtain ⟨c, hc⟩ : ∃ c, c = x.cs k := ⟨_, rfl⟩
        rw [← hc] at hix HS
        clear hc
        have h95 : k5 < wr.heap.size := B5.out.2.1
        have h96 : k6 < wr.heap.size := B6.out.2.1
        have h92 : w.heap.size + 1 + 1 < wr.heap.size := R2.out.2.1
        replace T0 := Lib.hid (T0.out.more (cdo c))
        replace R1 := Lib.hid (R1.out.more (cdo c))
        replace R2 := Lib.hid (R2.out.more (cdo c))
        replace B5 := Lib.hid (B5.out.more (cdo c))
        replace B6 := Lib.hid (B6.out.more (cdo c))
        have C9 : Hid (Bx.Fre (wr.alloc (cdo c)) wr.heap.size (cdl c)) := Lib.hid (Bx.Fre.new wr (cdl c) 28)
        replace bel := Lib.hid (Bx.bel_box bel.out (cdo c))
        go_upto_region 5 with (first | ((with_reducible refine cd_fresh ?_ ?_ (wr.heap.size) c ?_ ?_ wr (cdl Cd.zero) ?_ ?_ ?_ ?_); (· rfl); (· rfl); (· rfl); (· rfl); (· rfl); (· rfl); (· first | rfl | (simp; done))))
        clear hix
        obtain ⟨k9, hk9⟩ : ∃ k, k = wr.heap.size := ⟨_, rfl⟩
        rw [← hk9] at C9 h95 h96 h92 ⊢
        generalize wr.alloc (cdo c) = w0 at *
        clear hk9 wr
        rcases Bool.eq_false_or_eq_true c.up with hu | hu
        · by_cases hi : c.info = 2
          · by_cases hb : c.v.b = x.id
            · have C9_0 := C9.out.at 0 rfl
              have C9_4 := C9.out.at 4 rfl
              have C9_7 := C9.out.at 7 rfl
              have T0_0 := T0.out.at 0 (v := .int .u64 x.id) rfl
              rw [hu] at C9_0
              have g2 : (c.info != 2) = false := by simp [hi]
              have g3 : ((c.v.b : Int) == (x.id : Int)) = true := by simp; omega
              replace HS := Lib.hid (HS.out.trans (if_neg (by unfold offB; simp [hb])))
              clear hu hi hb
              go_wp2_with (first | ((with_reducible refine td_load ?_ ?_ (w.heap.size) ?_ x ?_ ?_); (· rfl); (· rfl); (· rfl); (· exact T0.out.blk)) | ((with_reducible refine cs_load ?_ ?_ (w.heap.size) ?_ x ?_ ?_); (· rfl); (· rfl); (· rfl); (· exact T0.out.blk)) | ((with_reducible refine cd_load ?_ ?_ (k9) ?_ c ?_ ?_); (· rfl); (· rfl); (· rfl); (· exact C9.out.blk)))
              go_roundg g
              case measure => omega
              case rel => exact ⟨k + 1, by omega, by go_num, by rw [HS.out], T0.out, R1.out, R2.out, by rw [HS.out]; exact B5.out, by rw [HS.out]; exact B6.out, bel.out⟩
            · have C9_0 := C9.out.at 0 rfl
              have C9_4 := C9.out.at 4 rfl
              have C9_7 := C9.out.at 7 rfl
              have C9_3 := C9.out.at 3 rfl
              have C9_5 := C9.out.at 5 rfl
              have C9_6 := C9.out.at 6 rfl
              have C9_8 := C9.out.at 8 rfl
              have T0_0 := T0.out.at 0 (v := .int .u64 x.id) rfl
              rw [hu] at C9_0
              have g2 : (c.info != 2) = false := by simp [hi]
              have g3 : ((c.v.b : Int) == (x.id : Int)) = false := by simp; omega
              have hof : offB c x.id = true := by unfold offB; simp [hu, hi, hb]
              rw [hof, Bool.true_and] at HS
              have HV : Hid (∀ w, Calls Try.prog 21 #[vv c.v, .int .u64 c.cost] w fun e w' => e = .returned (vv (wayV c)) ∧ Below w.heap.size w w') := Lib.hid (fun w => rvia_any c.v c.cost w)
              obtain ⟨v, hv⟩ : ∃ v, v = wayV c := ⟨_, rfl⟩
              rw [← hv] at HV HS
              clear hu hi hb hof hv
              go_wp2_with (first | ((with_reducible refine td_load ?_ ?_ (w.heap.size) ?_ x ?_ ?_); (· rfl); (· rfl); (· rfl); (· exact T0.out.blk)) | ((with_reducible refine cs_load ?_ ?_ (w.heap.size) ?_ x ?_ ?_); (· rfl); (· rfl); (· rfl); (· exact T0.out.blk)) | ((with_reducible refine cd_load ?_ ?_ (k9) ?_ c ?_ ?_); (· rfl); (· rfl); (· rfl); (· exact C9.out.blk)))
              clear C9_0 C9_4 C9_7 C9_3 C9_5 C9_6 C9_8 T0_0 g2 g3
              refine (HV.out _).mono ?_; rintro e w1 ⟨rfl, hb⟩
              replace T0 := Lib.hid (T0.out.keep hb)
              replace R1 := Lib.hid (R1.out.keep hb)
              replace R2 := Lib.hid (R2.out.keep hb)
              replace B5 := Lib.hid (B5.out.keep hb)
              replace B6 := Lib.hid (B6.out.keep hb)
              replace C9 := Lib.hid (C9.out.keep hb)
              replace bel := Lib.hid (Bx.then_below bel.out hb)
              clear hb
              have h19 : k9 < w1.heap.size := C9.out.2.1
              replace T0 := Lib.hid (T0.out.more (vo v))
              replace R1 := Lib.hid (R1.out.more (vo v))
              replace R2 := Lib.hid (R2.out.more (vo v))
              replace B5 := Lib.hid (B5.out.more (vo v))
              replace B6 := Lib.hid (B6.out.more (vo v))
              replace C9 := Lib.hid (C9.out.more (vo v))
              have D1 : Hid (Bx.Fre (w1.alloc (vo v)) w1.heap.size (enc v)) := Lib.hid (Bx.Fre.new w1 (enc v) 26)
              replace bel := Lib.hid (Bx.bel_box bel.out (vo v))
              go_upto_region 7 with fail
              obtain ⟨k1, hk1⟩ : ∃ k, k = w1.heap.size := ⟨_, rfl⟩
              rw [← hk1] at D1 h19 ⊢
              generalize w1.alloc (vo v) = w2 at *
              clear hk1
              have HBc := Lib.hid (fun w => HB.out v r.v w)
              cases hl : ltV v r.v with
              | true =>
                rw [hl] at HBc HS
                rw [if_pos rfl] at HS
                have D1_0 := D1.out.at 0 rfl
                have D1_1 := D1.out.at 1 rfl
                have D1_2 := D1.out.at 2 rfl
                have D1_3 := D1.out.at 3 rfl
                have B5_0 := B5.out.at 0 rfl
                have B5_1 := B5.out.at 1 rfl
                have B5_2 := B5.out.at 2 rfl
                have B5_3 := B5.out.at 3 rfl
                go_wp2_with (first | ((with_reducible refine td_load ?_ ?_ (w.heap.size) ?_ x ?_ ?_); (· rfl); (· rfl); (· rfl); (· exact T0.out.blk)) | ((with_reducible refine cs_load ?_ ?_ (w.heap.size) ?_ x ?_ ?_); (· rfl); (· rfl); (· rfl); (· exact T0.out.blk)) | ((with_reducible refine cd_load ?_ ?_ (k9) ?_ c ?_ ?_); (· rfl); (· rfl); (· rfl); (· exact C9.out.blk)))
                clear D1_0 D1_1 D1_2 D1_3 B5_0 B5_1 B5_2 B5_3
                refine (HBc.out _).mono ?_; rintro e w1 ⟨rfl, hb⟩
                replace T0 := Lib.hid (T0.out.keep hb)
                replace R1 := Lib.hid (R1.out.keep hb)
                replace R2 := Lib.hid (R2.out.keep hb)
                replace B5 := Lib.hid (B5.out.keep hb)
                replace B6 := Lib.hid (B6.out.keep hb)
                replace C9 := Lib.hid (C9.out.keep hb)
                replace D1 := Lib.hid (D1.out.keep hb)
                replace bel := Lib.hid (Bx.then_below bel.out hb)
                clear hb
                go_wp2_with (first | ((with_reducible refine td_load ?_ ?_ (w.heap.size) ?_ x ?_ ?_); (· rfl); (· rfl); (· rfl); (· exact T0.out.blk)) | ((with_reducible refine cs_load ?_ ?_ (w.heap.size) ?_ x ?_ ?_); (· rfl); (· rfl); (· rfl); (· exact T0.out.blk)) | ((with_reducible refine cd_load ?_ ?_ (k9) ?_ c ?_ ?_); (· rfl); (· rfl); (· rfl); (· exact C9.out.blk)))
                refine wp_region_noPanic ?_
                refine wp_region_held_drew (S := fun w' => w'.cell? ⟨k1, 0, none⟩ = some (.int .u64 v.r) ∧ w'.cell? ⟨k1, 1, none⟩ = some (.int .u64 v.c) ∧ w'.cell? ⟨k1, 2, none⟩ = some (.int .u64 v.b) ∧ w'.cell? ⟨k1, 3, none⟩ = some (.int .i64 v.p) ∧ w'.cell? ⟨k9, 9, none⟩ = some (.int .i64 c.t.a) ∧ w'.cell? ⟨k9, 10, none⟩ = some (.int .i64 c.t.m) ∧ w'.cell? ⟨k9, 11, none⟩ = some (.int .i64 c.t.h) ∧ w'.cell? ⟨k9, 12, none⟩ = some (.int .i64 c.t.d)) (by kernel_rfl) (by exact ⟨D1.out.at 0 rfl, D1.out.at 1 rfl, D1.out.at 2 rfl, D1.out.at 3 rfl, C9.out.at 9 rfl, C9.out.at 10 rfl, C9.out.at 11 rfl, C9.out.at 12 rfl⟩) (fun hHeld => ?_)
                replace bel := Lib.hid (Bx.bel_drewn bel.out)
                replace T0 := Lib.hid (T0.out.drew)
                replace R1 := Lib.hid (R1.out.drew)
                replace R2 := Lib.hid (R2.out.drew)
                replace B5 := Lib.hid (B5.out.drew)
                replace B6 := Lib.hid (B6.out.drew)
                replace C9 := Lib.hid (C9.out.drew)
                replace D1 := Lib.hid (D1.out.drew)
                refine wpAnyH_take (i := 0) (oi := ?oz3x0) (v := ?vz3x0) ?hiz3x0 (by kernel_rfl) (by kernel_rfl) (by kernel_rfl) (fun _ _ _ h => h) ?yz3x0 (by assumption) ?rz3x0
                case hiz3x0 => (simp only [List.getElem?_toArray, List.getElem?_cons_zero]; rfl)
                case yz3x0 => (refine Or.inl ⟨by rfl, ?_⟩; intro w' hSw; (try dsimp only at hSw); go_simp; (try with_reducible rfl))
                try simp only [Act.put, List.setIfInBounds_toArray, List.set_cons_zero, List.set_cons_succ]
                refine wpAnyH_take (i := 1) (oi := ?oz3x1) (v := ?vz3x1) ?hiz3x1 (by kernel_rfl) (by kernel_rfl) (by kernel_rfl) (fun _ _ _ h => h) ?yz3x1 (by assumption) ?rz3x1
                case hiz3x1 => (simp only [List.getElem?_toArray, List.getElem?_cons_succ, List.getElem?_cons_zero]; rfl)
                case yz3x1 => (refine Or.inl ⟨by rfl, ?_⟩; intro w' hSw; (try dsimp only at hSw); go_simp; (try with_reducible rfl))
                try simp only [Act.put, List.setIfInBounds_toArray, List.set_cons_zero, List.set_cons_succ]
                refine wpAnyH_take (i := 2) (oi := ?oz3x2) (v := ?vz3x2) ?hiz3x2 (by kernel_rfl) (by kernel_rfl) (by kernel_rfl) (fun _ _ _ h => h) ?yz3x2 (by assumption) ?rz3x2
                case hiz3x2 => (simp only [List.getElem?_toArray, List.getElem?_cons_succ, List.getElem?_cons_zero]; rfl)
                case yz3x2 => (refine Or.inl ⟨by rfl, ?_⟩; intro w' hSw; (try dsimp only at hSw); go_simp; (try with_reducible rfl))
                try simp only [Act.put, List.setIfInBounds_toArray, List.set_cons_zero, List.set_cons_succ]
                refine wpAnyH_take (i := 3) (oi := ?oz3x3) (v := ?vz3x3) ?hiz3x3 (by kernel_rfl) (by kernel_rfl) (by kernel_rfl) (fun _ _ _ h => h) ?yz3x3 (by assumption) ?rz3x3
                case hiz3x3 => (simp only [List.getElem?_toArray, List.getElem?_cons_succ, List.getElem?_cons_zero]; rfl)
                case yz3x3 => (refine Or.inl ⟨by rfl, ?_⟩; intro w' hSw; (try dsimp only at hSw); go_simp; (try with_reducible rfl))
                try simp only [Act.put, List.setIfInBounds_toArray, List.set_cons_zero, List.set_cons_succ]
                refine wpAnyH_ready (rs := [4]) (by kernel_rfl) (by simp) ?_
                refine AllReadyH.cons (o := ?oz3x4) ?hiz3x4 ?hstz3x4 AllReadyH.nil
                case hiz3x4 => (simp only [List.getElem?_toArray, List.getElem?_cons_succ, List.getElem?_cons_zero]; rfl)
                intro K hK
                rw [if_pos (by rfl)]
                refine vec_wp rfl k5 0 rfl v rfl (enc r.v) (by simp [enc]) B5.out ?_
                refine hK.out _ _ ⟨Bx.cell_apart_at _ _ (by omega) hHeld.1, Bx.cell_apart_at _ _ (by omega) hHeld.2.1, Bx.cell_apart_at _ _ (by omega) hHeld.2.2.1, Bx.cell_apart_at _ _ (by omega) hHeld.2.2.2.1, Bx.cell_apart_at _ _ (by omega) hHeld.2.2.2.2.1, Bx.cell_apart_at _ _ (by omega) hHeld.2.2.2.2.2.1, Bx.cell_apart_at _ _ (by omega) hHeld.2.2.2.2.2.2.1, Bx.cell_apart_at _ _ (by omega) hHeld.2.2.2.2.2.2.2⟩ (fun hNew => ?_)
                clear hHeld
                have hHeld := hNew
                clear hNew hK K
                try simp only [Act.put]
                replace bel := Lib.hid (Bx.bel_put_at (k := k5) (enc v) 0 (by omega) bel.out)
                replace T0 := Lib.hid (Bx.Fre.apart_at (k' := k5) (enc v) 0 (by omega) T0.out)
                replace R1 := Lib.hid (Bx.Fre.apart_at (k' := k5) (enc v) 0 (by omega) R1.out)
                replace R2 := Lib.hid (Bx.Fre.apart_at (k' := k5) (enc v) 0 (by omega) R2.out)
                replace B5 := Lib.hid (Bx.Fre.put_at (enc v) 0 B5.out)
                replace B6 := Lib.hid (Bx.Fre.apart_at (k' := k5) (enc v) 0 (by omega) B6.out)
                replace C9 := Lib.hid (Bx.Fre.apart_at (k' := k5) (enc v) 0 (by omega) C9.out)
                replace D1 := Lib.hid (Bx.Fre.apart_at (k' := k5) (enc v) 0 (by omega) D1.out)
                refine wpAnyH_ready (rs := [5]) (by kernel_rfl) (by simp) ?_
                refine AllReadyH.cons (o := ?oz3x5) ?hiz3x5 ?hstz3x5 AllReadyH.nil
                case hiz3x5 => (simp only [List.getElem?_toArray, List.getElem?_cons_succ, List.getElem?_cons_zero]; rfl)
                intro K hK
                rw [if_pos (by rfl)]
                refine tm_wp rfl k6 0 rfl c.t rfl (tenc r.t) (by simp [tenc]) B6.out ?_
                refine hK.out _ _ ⟨Bx.cell_apart_at _ _ (by omega) hHeld.1, Bx.cell_apart_at _ _ (by omega) hHeld.2.1, Bx.cell_apart_at _ _ (by omega) hHeld.2.2.1, Bx.cell_apart_at _ _ (by omega) hHeld.2.2.2.1, Bx.cell_apart_at _ _ (by omega) hHeld.2.2.2.2.1, Bx.cell_apart_at _ _ (by omega) hHeld.2.2.2.2.2.1, Bx.cell_apart_at _ _ (by omega) hHeld.2.2.2.2.2.2.1, Bx.cell_apart_at _ _ (by omega) hHeld.2.2.2.2.2.2.2⟩ (fun hNew => ?_)
                clear hHeld
                have hHeld := hNew
                clear hNew hK K
                try simp only [Act.put]
                replace bel := Lib.hid (Bx.bel_put_at (k := k6) (tenc c.t) 0 (by omega) bel.out)
                replace T0 := Lib.hid (Bx.Fre.apart_at (k' := k6) (tenc c.t) 0 (by omega) T0.out)
                replace R1 := Lib.hid (Bx.Fre.apart_at (k' := k6) (tenc c.t) 0 (by omega) R1.out)
                replace R2 := Lib.hid (Bx.Fre.apart_at (k' := k6) (tenc c.t) 0 (by omega) R2.out)
                replace B5 := Lib.hid (Bx.Fre.apart_at (k' := k6) (tenc c.t) 0 (by omega) B5.out)
                replace B6 := Lib.hid (Bx.Fre.put_at (tenc c.t) 0 B6.out)
                replace C9 := Lib.hid (Bx.Fre.apart_at (k' := k6) (tenc c.t) 0 (by omega) C9.out)
                replace D1 := Lib.hid (Bx.Fre.apart_at (k' := k6) (tenc c.t) 0 (by omega) D1.out)
                refine wpAnyH_take (i := 6) (oi := ?oz3x6) (v := ?vz3x6) ?hiz3x6 (by kernel_rfl) (by kernel_rfl) (by kernel_rfl) (fun _ _ _ h => h) ?yz3x6 (by assumption) ?rz3x6
                case hiz3x6 => (simp only [List.getElem?_toArray, List.getElem?_cons_succ, List.getElem?_cons_zero]; rfl)
                case yz3x6 => (refine Or.inl ⟨by rfl, ?_⟩; intro w' hSw; (try dsimp only at hSw); go_simp; (try with_reducible rfl))
                try simp only [Act.put, List.setIfInBounds_toArray, List.set_cons_zero, List.set_cons_succ]
                refine wpAnyH_done (by kernel_rfl) ?_ _
                refine NoPanic.normal ?_
                clear hHeld
                go_wp2_with fail
                go_roundg g
                case measure => omega
                case rel => exact ⟨k + 1, by omega, by go_num, by rw [HS.out], T0.out, R1.out, R2.out, by rw [HS.out]; exact B5.out, by rw [HS.out]; exact B6.out, bel.out⟩
              | false =>
                rw [hl] at HBc HS
                rw [if_neg (by simp)] at HS
                have D1_0 := D1.out.at 0 rfl
                have D1_1 := D1.out.at 1 rfl
                have D1_2 := D1.out.at 2 rfl
                have D1_3 := D1.out.at 3 rfl
                have B5_0 := B5.out.at 0 rfl
                have B5_1 := B5.out.at 1 rfl
                have B5_2 := B5.out.at 2 rfl
                have B5_3 := B5.out.at 3 rfl
                go_wp2_with (first | ((with_reducible refine td_load ?_ ?_ (w.heap.size) ?_ x ?_ ?_); (· rfl); (· rfl); (· rfl); (· exact T0.out.blk)) | ((with_reducible refine cs_load ?_ ?_ (w.heap.size) ?_ x ?_ ?_); (· rfl); (· rfl); (· rfl); (· exact T0.out.blk)) | ((with_reducible refine cd_load ?_ ?_ (k9) ?_ c ?_ ?_); (· rfl); (· rfl); (· rfl); (· exact C9.out.blk)))
                refine (HBc.out _).mono ?_; rintro e w1 ⟨rfl, hb⟩
                replace T0 := Lib.hid (T0.out.keep hb)
                replace R1 := Lib.hid (R1.out.keep hb)
                replace R2 := Lib.hid (R2.out.keep hb)
                replace B5 := Lib.hid (B5.out.keep hb)
                replace B6 := Lib.hid (B6.out.keep hb)
                replace C9 := Lib.hid (C9.out.keep hb)
                replace D1 := Lib.hid (D1.out.keep hb)
                replace bel := Lib.hid (Bx.then_below bel.out hb)
                clear hb
                have D1_0 := D1.out.at 0 rfl
                have D1_1 := D1.out.at 1 rfl
                have D1_2 := D1.out.at 2 rfl
                have D1_3 := D1.out.at 3 rfl
                have B5_0 := B5.out.at 0 rfl
                have B5_1 := B5.out.at 1 rfl
                have B5_2 := B5.out.at 2 rfl
                have B5_3 := B5.out.at 3 rfl
                have hlt : decide ((k : Int) < r.p) = false := decide_eq_false (by omega)
                have he : ∀ w, (binOp .eql 26 (vv v) (vv r.v)).run Try.prog w = .ok (.bool (decide (v = r.v))) w := fun w => veql_at v r.v w
                have heg := fun op a y w => vguard_at op a y v r.v w
                by_cases hp0 : 0 ≤ r.p
                · have hp1 : decide ((0 : Int) ≤ r.p) = true := decide_eq_true hp0
                  cases hd : decide (v = r.v) with
                  | true =>
                    rw [hd] at he
                    clear hd hp0 hp
                    go_wp2_with (first | ((with_reducible refine td_load ?_ ?_ (w.heap.size) ?_ x ?_ ?_); (· rfl); (· rfl); (· rfl); (· exact T0.out.blk)) | ((with_reducible refine cs_load ?_ ?_ (w.heap.size) ?_ x ?_ ?_); (· rfl); (· rfl); (· rfl); (· exact T0.out.blk)) | ((with_reducible refine cd_load ?_ ?_ (k9) ?_ c ?_ ?_); (· rfl); (· rfl); (· rfl); (· exact C9.out.blk)))
                    go_roundg g
                    case measure => omega
                    case rel => exact ⟨k + 1, by omega, by go_num, by rw [HS.out], T0.out, R1.out, R2.out, by rw [HS.out]; exact B5.out, by rw [HS.out]; exact B6.out, bel.out⟩
                  | false =>
                    rw [hd] at he
                    clear hd hp0 hp
                    go_wp2_with (first | ((with_reducible refine td_load ?_ ?_ (w.heap.size) ?_ x ?_ ?_); (· rfl); (· rfl); (· rfl); (· exact T0.out.blk)) | ((with_reducible refine cs_load ?_ ?_ (w.heap.size) ?_ x ?_ ?_); (· rfl); (· rfl); (· rfl); (· exact T0.out.blk)) | ((with_reducible refine cd_load ?_ ?_ (k9) ?_ c ?_ ?_); (· rfl); (· rfl); (· rfl); (· exact C9.out.blk)))
                    go_roundg g
                    case measure => omega
                    case rel => exact ⟨k + 1, by omega, by go_num, by rw [HS.out], T0.out, R1.out, R2.out, by rw [HS.out]; exact B5.out, by rw [HS.out]; exact B6.out, bel.out⟩
                · have hp1 : decide ((0 : Int) ≤ r.p) = false := decide_eq_false hp0
                  clear hp0 hp
                  go_wp2_with (first | ((with_reducible refine td_load ?_ ?_ (w.heap.size) ?_ x ?_ ?_); (· rfl); (· rfl); (· rfl); (· exact T0.out.blk)) | ((with_reducible refine cs_load ?_ ?_ (w.heap.size) ?_ x ?_ ?_); (· rfl); (· rfl); (· rfl); (· exact T0.out.blk)) | ((with_reducible refine cd_load ?_ ?_ (k9) ?_ c ?_ ?_); (· rfl); (· rfl); (· rfl); (· exact C9.out.blk)))
                  go_roundg g
                  case measure => omega
                  case rel => exact ⟨k + 1, by omega, by go_num, by rw [HS.out], T0.out, R1.out, R2.out, by rw [HS.out]; exact B5.out, by rw [HS.out]; exact B6.out, bel.out⟩
          · have C9_0 := C9.out.at 0 rfl
            have C9_4 := C9.out.at 4 rfl
            have C9_7 := C9.out.at 7 rfl
            have T0_0 := T0.out.at 0 (v := .int .u64 x.id) rfl
            rw [hu] at C9_0
            have g2 : (c.info != 2) = true := by simp [hi]
            replace HS := Lib.hid (HS.out.trans (if_neg (by unfold offB; simp [hi])))
            clear hu hi
            go_wp2_with (first | ((with_reducible refine td_load ?_ ?_ (w.heap.size) ?_ x ?_ ?_); (· rfl); (· rfl); (· rfl); (· exact T0.out.blk)) | ((with_reducible refine cs_load ?_ ?_ (w.heap.size) ?_ x ?_ ?_); (· rfl); (· rfl); (· rfl); (· exact T0.out.blk)) | ((with_reducible refine cd_load ?_ ?_ (k9) ?_ c ?_ ?_); (· rfl); (· rfl); (· rfl); (· exact C9.out.blk)))
            go_roundg g
            case measure => omega
            case rel => exact ⟨k + 1, by omega, by go_num, by rw [HS.out], T0.out, R1.out, R2.out, by rw [HS.out]; exact B5.out, by rw [HS.out]; exact B6.out, bel.out⟩
        · have C9_0 := C9.out.at 0 rfl
          have C9_4 := C9.out.at 4 rfl
          have C9_7 := C9.out.at 7 rfl
          have T0_0 := T0.out.at 0 (v := .int .u64 x.id) rfl
          rw [hu] at C9_0
          replace HS := Lib.hid (HS.out.trans (if_neg (by unfold offB; simp [hu])))
          clear hu
          go_wp2_with (first | ((with_reducible refine td_load ?_ ?_ (w.heap.size) ?_ x ?_ ?_); (· rfl); (· rfl); (· rfl); (· exact T0.out.blk)) | ((with_reducible refine cs_load ?_ ?_ (w.heap.size) ?_ x ?_ ?_); (· rfl); (· rfl); (· rfl); (· exact T0.out.blk)) | ((with_reducible refine cd_load ?_ ?_ (k9) ?_ c ?_ ?_); (· rfl); (· rfl); (· rfl); (· exact C9.out.blk)))
          go_roundg g
          case measure => omega
          case rel => exact ⟨k + 1, by omega, by go_num, by rw [HS.out], T0.out, R1.out, R2.out, by rw [HS.out]; exact B5.out, by rw [HS.out]; exact B6.out, bel.out⟩

end Elt
end Go.Proofs.Ytlaahomkgaaciaa
