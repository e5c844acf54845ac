/-
  The statement ChangeOnly: for all bridges the law ChangeOnly returns true, and its arguments read afterwards as they read before.
-/
import Derived.Test.YtkjdnmlaehjmgaaChgF
import Derived.Test.YtkjdnmlaehjmgaaTreOpen
import Derived.Test.YtkjdnmlaehjmgaaGate
import Derived.Test.YtkjdnmlaehjmgaaFrame
import Derived.Test.YtkjdnmlaehjmgaaRows
import Derived.Deep.CutBlock
import Derived.Deep.DeepCutAuto
import Derived.Deep.LoopGhost
namespace Go.Proofs.Ytkjdnmlaehjmgaa
open Go.RowKit
namespace Chg
open Pre Crd Tre Elt Rip

/-- A port of a bridge, with the bridge. -/
abbrev cmv (q : Td × Nat) : Value := cdv (q.1.cs q.2)

theorem cm_yields {ops : Array Oper} {S : World → Prop} {op : Oper} {a : Act} (hw : Region.wanted op (yielded ops a.tmps) = true) (ho : op.op = .load 28 (opA op.op)) (k : Nat × Fin 8) (hx : a.eval (opA op.op) = .pointer (some ⟨k.1, 14 + k.2.val * 31, none⟩)) (x : Td × Nat) (hi : k.2.val = x.2) (hS : ∀ w, S w → Bx.Blk w k.1 (tdl x.1)) : YieldsIf Try.prog ops S op (cmv x) a :=
  yieldsIf_load_mid hw _ _ ho k.1 (14 + k.2.val * 31) hx (cdl (x.1.cs x.2)) (.struct (Try.prog.fieldsOf 28)) (fun w h => by rw [← hi]; exact cc_range (hS w h) k.2.val k.2.isLt) cd_under rfl cd_info

set_option maxRecDepth 40000 in
set_option maxHeartbeats 8000000 in
theorem walk_only (w : World) (a y : Td) : Calls Try.prog 4 #[tdv a, tdv y] w fun e w' => e = .returned (.bool true) ∧ Below w.heap.size w w' := by
  have HA : Hid (∀ w, Calls Try.prog 5 #[tdv a, tdv a] w fun e w' => e = .returned (.tuple #[tdv a, .int .i64 0]) ∧ Below w.heap.size w w') := Lib.hid (fun w => by have h := flush_any a a w; rw [flN_same] at h; exact h)
  have HF : Hid (∀ w, Calls Try.prog 5 #[tdv a, tdv y] w fun e w' => e = .returned (.tuple #[tdv (flN a y 8).1, .int .i64 (((flN a y 8).2 : Nat) : Int)]) ∧ Below w.heap.size w w') := Lib.hid (flush_any a y)
  have HM := Lib.hid (fun j => flN_more a y j 8)
  have HC := Lib.hid (fun i (hi : i < 8) h => flN_has a y i hi h 8 hi)
  have hlt := flN_lt a y 8
  generalize flN a y 8 = s at *
  obtain ⟨d, f⟩ := s
  replace hlt : f < 256 := hlt
  replace HF : Hid (∀ w, Calls Try.prog 5 #[tdv a, tdv y] w fun e w' => e = .returned (.tuple #[tdv d, .int .i64 (f : Int)]) ∧ Below w.heap.size w w') := HF
  replace HM : Hid (∀ j, More (y.cs j) (d.cs j)) := HM
  replace HC : Hid (∀ i, i < 8 → clsB (a.cs i) (y.cs i) = true → Por.hasN f i = true) := HC
  have hf0 : (0 : Int) ≤ (f : Int) := by omega
  have hf2 : (f : Int) < 256 := by omega
  have HW := Lib.hid awake_any
  have HZ := Lib.hid (@zero_at)
  have hs : samT a a = true := by unfold samT sam8; simp
  have HN : Hid (∀ w, (binOp .neq 31 (tdv a) (tdv a)).run Try.prog w = .ok (.bool false) w) := Lib.hid (fun w => by rw [tneq_any, hs]; rfl)
  clear hs
  have T0 : Hid (Bx.Fre (w.alloc (tdo a)) w.heap.size (tdl a)) := Lib.hid (Bx.Fre.new w (tdl a) 31)
  have bel := Lib.hid (Bx.box_below w (tdo a))
  replace T0 := Lib.hid (T0.out.more (tdo y))
  have T1 : Hid (Bx.Fre ((w.alloc (tdo a)).alloc (tdo y)) (w.heap.size + 1) (tdl y)) := Lib.hid (Bx.Fre.new_at (W := (w.alloc (tdo a))) (k := w.heap.size + 1) (tdl y) 31 (by simp))
  replace bel := Lib.hid (Bx.bel_box bel.out (tdo y))
  go_enter Try.func4, Try.ntmps4
  go_upto_region 1 with fail
  generalize ((w.alloc (tdo a)).alloc (tdo y)) = W0 at *
  go_wp2_with (first | ((with_reducible refine td_load ?_ ?_ (w.heap.size) ?_ a ?_ ?_); (· rfl); (· rfl); (· rfl); (· exact T0.out.blk)) | ((with_reducible refine cs_load ?_ ?_ (w.heap.size) ?_ a ?_ ?_); (· rfl); (· rfl); (· rfl); (· exact T0.out.blk)))
  refine (HA.out _).mono ?_; rintro e w1 ⟨rfl, hb⟩
  replace T0 := Lib.hid (T0.out.keep hb)
  replace T1 := Lib.hid (T1.out.keep hb)
  replace bel := Lib.hid (Bx.then_below bel.out hb)
  clear hb
  have hal := HZ.out
  have hT0T5 : w.heap.size < w1.heap.size := T0.out.2.1
  have hT1T5 : w.heap.size + 1 < w1.heap.size := T1.out.2.1
  have hwT5 : w.heap.size ≤ w1.heap.size := bel.out.size
  replace T0 := Lib.hid (T0.out.more (tdo a))
  replace T1 := Lib.hid (T1.out.more (tdo a))
  have T5 : Hid (Bx.Fre (w1.alloc (tdo a)) w1.heap.size (tdl a)) := Lib.hid (Bx.Fre.new w1 (tdl a) 31)
  replace bel := Lib.hid (Bx.bel_box bel.out (tdo a))
  go_upto_region 2 with (first | ((with_reducible refine td_fresh ?_ ?_ (w1.heap.size) a ?_ ?_ w1 (tdl Td.zero) ?_ ?_ ?_ ?_); (· rfl); (· rfl); (· rfl); (· rfl); (· exact tdl_len _); (· rfl); (· first | rfl | (simp; done))))
  obtain ⟨kT5, hkT5⟩ : ∃ k, k = w1.heap.size := ⟨_, rfl⟩
  rw [← hkT5] at T5 hT0T5 hT1T5 hwT5 ⊢
  generalize (w1.alloc (tdo a)) = WT5 at *
  clear hkT5
  clear hal
  have hn := HN.out
  have hng := fun op x z w => Tre.tguard_at op x z a a w
  go_upto_region 4 with (first | ((with_reducible refine td_load ?_ ?_ (w.heap.size) ?_ a ?_ ?_); (· rfl); (· rfl); (· rfl); (· exact T0.out.blk)) | ((with_reducible refine cs_load ?_ ?_ (w.heap.size) ?_ a ?_ ?_); (· rfl); (· rfl); (· rfl); (· exact T0.out.blk)) | ((with_reducible refine td_load ?_ ?_ (kT5) ?_ a ?_ ?_); (· rfl); (· rfl); (· rfl); (· exact T5.out.blk)) | ((with_reducible refine cs_load ?_ ?_ (kT5) ?_ a ?_ ?_); (· rfl); (· rfl); (· rfl); (· exact T5.out.blk)))
  clear hn hng HN
  go_wp2_with (first | ((with_reducible refine td_load ?_ ?_ (w.heap.size) ?_ a ?_ ?_); (· rfl); (· rfl); (· rfl); (· exact T0.out.blk)) | ((with_reducible refine cs_load ?_ ?_ (w.heap.size) ?_ a ?_ ?_); (· rfl); (· rfl); (· rfl); (· exact T0.out.blk)) | ((with_reducible refine td_load ?_ ?_ (w.heap.size + 1) ?_ y ?_ ?_); (· rfl); (· rfl); (· rfl); (· exact T1.out.blk)) | ((with_reducible refine cs_load ?_ ?_ (w.heap.size + 1) ?_ y ?_ ?_); (· rfl); (· rfl); (· rfl); (· exact T1.out.blk)))
  refine (HF.out _).mono ?_; rintro e w2 ⟨rfl, hb⟩
  replace T0 := Lib.hid (T0.out.keep hb)
  replace T1 := Lib.hid (T1.out.keep hb)
  replace T5 := Lib.hid (T5.out.keep hb)
  replace bel := Lib.hid (Bx.then_below bel.out hb)
  clear hb
  have hal := HZ.out
  have hT0T7 : w.heap.size < w2.heap.size := T0.out.2.1
  have hT1T7 : w.heap.size + 1 < w2.heap.size := T1.out.2.1
  have hT5T7 : kT5 < w2.heap.size := T5.out.2.1
  have hwT7 : w.heap.size ≤ w2.heap.size := bel.out.size
  replace T0 := Lib.hid (T0.out.more (tdo d))
  replace T1 := Lib.hid (T1.out.more (tdo d))
  replace T5 := Lib.hid (T5.out.more (tdo d))
  have T7 : Hid (Bx.Fre (w2.alloc (tdo d)) w2.heap.size (tdl d)) := Lib.hid (Bx.Fre.new w2 (tdl d) 31)
  replace bel := Lib.hid (Bx.bel_box bel.out (tdo d))
  go_upto_region 5 with (first | ((with_reducible refine td_fresh ?_ ?_ (w2.heap.size) d ?_ ?_ w2 (tdl Td.zero) ?_ ?_ ?_ ?_); (· rfl); (· rfl); (· rfl); (· rfl); (· exact tdl_len _); (· rfl); (· first | rfl | (simp; done))))
  obtain ⟨kT7, hkT7⟩ : ∃ k, k = w2.heap.size := ⟨_, rfl⟩
  rw [← hkT7] at T7 hT0T7 hT1T7 hT5T7 hwT7 ⊢
  generalize (w2.alloc (tdo d)) = WT7 at *
  clear hkT7
  clear hal
  go_wp2_with (first | ((with_reducible refine td_load ?_ ?_ (w.heap.size) ?_ a ?_ ?_); (· rfl); (· rfl); (· rfl); (· exact T0.out.blk)) | ((with_reducible refine cs_load ?_ ?_ (w.heap.size) ?_ a ?_ ?_); (· rfl); (· rfl); (· rfl); (· exact T0.out.blk)) | ((with_reducible refine td_load ?_ ?_ (w.heap.size + 1) ?_ y ?_ ?_); (· rfl); (· rfl); (· rfl); (· exact T1.out.blk)) | ((with_reducible refine cs_load ?_ ?_ (w.heap.size + 1) ?_ y ?_ ?_); (· rfl); (· rfl); (· rfl); (· exact T1.out.blk)) | ((with_reducible refine td_load ?_ ?_ (kT5) ?_ a ?_ ?_); (· rfl); (· rfl); (· rfl); (· exact T5.out.blk)) | ((with_reducible refine cs_load ?_ ?_ (kT5) ?_ a ?_ ?_); (· rfl); (· rfl); (· rfl); (· exact T5.out.blk)) | ((with_reducible refine td_load ?_ ?_ (kT7) ?_ d ?_ ?_); (· rfl); (· rfl); (· rfl); (· exact T7.out.blk)) | ((with_reducible refine cs_load ?_ ?_ (kT7) ?_ d ?_ ?_); (· rfl); (· rfl); (· rfl); (· exact T7.out.blk)))
  clear T5
  go_loopg [32] 8 (fun g s32 wr => ∃ k : Nat, k + g = 8 ∧ s32 = .int .i64 k ∧ Aside (Bx.Fre wr w.heap.size (tdl a)) ∧ Aside (Bx.Fre wr (w.heap.size + 1) (tdl y)) ∧ Aside (Bx.Fre wr kT7 (tdl d)) ∧ Aside (Below w.heap.size w wr))
  case atStart => exact ⟨0, by omega, rfl, T0.out, T1.out, T7.out, bel.out⟩
  case round =>
    clear T0 T1 T7 bel
    obtain ⟨k, hkg, rfl, T0, T1, T7, bel⟩ := hrel
    cases gk with
    | zero =>
      have hkz : ¬ ((k : Int) < 8) := by omega
      go_wp2_with (first | ((with_reducible refine td_load ?_ ?_ (w.heap.size) ?_ a ?_ ?_); (· rfl); (· rfl); (· rfl); (· exact T0.out.blk)) | ((with_reducible refine cs_load ?_ ?_ (w.heap.size) ?_ a ?_ ?_); (· rfl); (· rfl); (· rfl); (· exact T0.out.blk)) | ((with_reducible refine td_load ?_ ?_ (w.heap.size + 1) ?_ y ?_ ?_); (· rfl); (· rfl); (· rfl); (· exact T1.out.blk)) | ((with_reducible refine cs_load ?_ ?_ (w.heap.size + 1) ?_ y ?_ ?_); (· rfl); (· rfl); (· rfl); (· exact T1.out.blk)) | ((with_reducible refine td_load ?_ ?_ (kT7) ?_ d ?_ ?_); (· rfl); (· rfl); (· rfl); (· exact T7.out.blk)) | ((with_reducible refine cs_load ?_ ?_ (kT7) ?_ d ?_ ?_); (· rfl); (· rfl); (· rfl); (· exact T7.out.blk)))
      refine (HW.out _).mono ?_; rintro e w7 ⟨rfl, hb⟩
      replace T0 := Lib.hid (T0.out.keep hb)
      replace T1 := Lib.hid (T1.out.keep hb)
      replace T7 := Lib.hid (T7.out.keep hb)
      replace bel := Lib.hid (Bx.then_below bel.out hb)
      clear hb
      go_wp2_with fail
      go_ret
      exact ⟨rfl, bel.out⟩
    | succ g =>
      have hkz : (k : Int) < 8 := by omega
      have hk0 : (0 : Int) ≤ k := by omega
      have hk : k < 8 := by omega
      go_upto_region 8 with fail
      go_cut [10, 11] (fun s10 s11 wx => ∃ k10 k11 : Nat, s10 = .pointer (some ⟨k10, 0, none⟩) ∧ s11 = .pointer (some ⟨k11, 0, none⟩) ∧ (w.heap.size + 1 < k10 ∧ kT7 < k10 ∧ w.heap.size + 1 < k11 ∧ kT7 < k11 ∧ k10 ≠ k11) ∧ Below w.heap.size w wx ∧ Bx.Fre wx w.heap.size (tdl a) ∧ Bx.Fre wx (w.heap.size + 1) (tdl y) ∧ Bx.Fre wx kT7 (tdl d) ∧ Bx.Fre wx k10 (cdl (a.cs k)) ∧ Bx.Fre wx k11 (cdl (y.cs k)))
      case first =>
        refine wp_region_noPanic ?_
        refine wp_region_held_drew (S := fun w' => Bx.Blk w' w.heap.size (tdl a) ∧ Bx.Blk w' (w.heap.size + 1) (tdl y)) (by kernel_rfl) (by exact ⟨T0.out.blk, T1.out.blk⟩) (fun hHeld => ?_)
        refine wpAnyH_take (i := 0) (oi := ?ot2x1) (v := ?vt2x1) ?hit2x1 (by kernel_rfl) (by kernel_rfl) (by kernel_rfl) (fun _ _ _ h => h) ?yt2x1 (by assumption) ?rt2x1
        case hit2x1 => (simp only [List.getElem?_toArray, List.getElem?_cons_zero]; rfl)
        case yt2x1 => (refine Or.inl ⟨by rfl, ?_⟩; intro w' hSw; (try dsimp only at hSw); go_simp; (try with_reducible rfl))
        try simp only [Act.put, List.setIfInBounds_toArray, List.set_cons_zero, List.set_cons_succ]
        refine wpAnyH_take (i := 1) (oi := ?ot2x2) (v := ?vt2x2) ?hit2x2 (by kernel_rfl) (by kernel_rfl) (by kernel_rfl) (fun _ _ _ h => h) ?yt2x2 (by assumption) ?rt2x2
        case hit2x2 => (simp only [List.getElem?_toArray, List.getElem?_cons_succ, List.getElem?_cons_zero]; rfl)
        case yt2x2 => (refine Or.inl ⟨by rfl, ?_⟩; intro w' hSw; (try dsimp only at hSw); go_simp; (try with_reducible rfl))
        try simp only [Act.put, List.setIfInBounds_toArray, List.set_cons_zero, List.set_cons_succ]
        refine wpAnyH_take (i := 2) (oi := ?ot2x3) (v := ?vt2x3) ?hit2x3 (by kernel_rfl) (by kernel_rfl) (by kernel_rfl) (fun _ _ _ h => h) ?yt2x3 (by assumption) ?rt2x3
        case hit2x3 => (simp only [List.getElem?_toArray, List.getElem?_cons_succ, List.getElem?_cons_zero]; rfl)
        case yt2x3 => (refine Or.inl ⟨by rfl, ?_⟩; intro w' hSw; (try dsimp only at hSw); go_simp; (try with_reducible rfl))
        try simp only [Act.put, List.setIfInBounds_toArray, List.set_cons_zero, List.set_cons_succ]
        refine wpAnyH_take (i := 3) (oi := ?ot2x4) (v := cmv (a, k)) ?hit2x4 (by kernel_rfl) (by kernel_rfl) (by kernel_rfl) (fun _ _ _ h => h) ?yt2x4 (by assumption) ?rt2x4
        case hit2x4 => (simp only [List.getElem?_toArray, List.getElem?_cons_succ, List.getElem?_cons_zero]; rfl)
        case yt2x4 => (refine cm_yields rfl rfl (w.heap.size, (⟨k, hk⟩ : Fin 8)) rfl (a, k) rfl ?_; intro w' hS; exact hS.1)
        try simp only [Act.put, List.setIfInBounds_toArray, List.set_cons_zero, List.set_cons_succ]
        refine wpAnyH_take (i := 4) (oi := ?ot2x5) (v := ?vt2x5) ?hit2x5 (by kernel_rfl) (by kernel_rfl) (by kernel_rfl) (fun _ _ _ h => h) ?yt2x5 (by assumption) ?rt2x5
        case hit2x5 => (simp only [List.getElem?_toArray, List.getElem?_cons_succ, List.getElem?_cons_zero]; rfl)
        case yt2x5 => (refine Or.inl ⟨by rfl, ?_⟩; intro w' hSw; (try dsimp only at hSw); go_simp; (try with_reducible rfl))
        try simp only [Act.put, List.setIfInBounds_toArray, List.set_cons_zero, List.set_cons_succ]
        refine wpAnyH_take (i := 5) (oi := ?ot2x6) (v := ?vt2x6) ?hit2x6 (by kernel_rfl) (by kernel_rfl) (by kernel_rfl) (fun _ _ _ h => h) ?yt2x6 (by assumption) ?rt2x6
        case hit2x6 => (simp only [List.getElem?_toArray, List.getElem?_cons_succ, List.getElem?_cons_zero]; rfl)
        case yt2x6 => (refine Or.inl ⟨by rfl, ?_⟩; intro w' hSw; (try dsimp only at hSw); go_simp; (try with_reducible rfl))
        try simp only [Act.put, List.setIfInBounds_toArray, List.set_cons_zero, List.set_cons_succ]
        refine wpAnyH_take (i := 6) (oi := ?ot2x7) (v := ?vt2x7) ?hit2x7 (by kernel_rfl) (by kernel_rfl) (by kernel_rfl) (fun _ _ _ h => h) ?yt2x7 (by assumption) ?rt2x7
        case hit2x7 => (simp only [List.getElem?_toArray, List.getElem?_cons_succ, List.getElem?_cons_zero]; rfl)
        case yt2x7 => (refine Or.inl ⟨by rfl, ?_⟩; intro w' hSw; (try dsimp only at hSw); go_simp; (try with_reducible rfl))
        try simp only [Act.put, List.setIfInBounds_toArray, List.set_cons_zero, List.set_cons_succ]
        refine wpAnyH_take (i := 7) (oi := ?ot2x8) (v := cmv (y, k)) ?hit2x8 (by kernel_rfl) (by kernel_rfl) (by kernel_rfl) (fun _ _ _ h => h) ?yt2x8 (by assumption) ?rt2x8
        case hit2x8 => (simp only [List.getElem?_toArray, List.getElem?_cons_succ, List.getElem?_cons_zero]; rfl)
        case yt2x8 => (refine cm_yields rfl rfl (w.heap.size + 1, (⟨k, hk⟩ : Fin 8)) rfl (y, k) rfl ?_; intro w' hS; exact hS.2)
        try simp only [Act.put, List.setIfInBounds_toArray, List.set_cons_zero, List.set_cons_succ]
        refine wpAnyH_ready (rs := [8, 9]) (by kernel_rfl) (by simp) ?_
        refine AllReadyH.cons (o := ?ot2x9) ?hit2x9 ?hstt2x9 (AllReadyH.cons (o := ?ot2x10) ?hit2x10 ?hstt2x10 AllReadyH.nil)
        case hit2x9 => (simp only [List.getElem?_toArray, List.getElem?_cons_succ, List.getElem?_cons_zero]; rfl)
        case hit2x10 => (simp only [List.getElem?_toArray, List.getElem?_cons_succ, List.getElem?_cons_zero]; rfl)
        case hstt2x9 =>
          intro K hK
          go_simp
          refine hK.out _ _ ⟨Bx.Blk.more hHeld.1 _, Bx.Blk.more hHeld.2 _⟩ (fun hNew => ?_)
          clear hHeld
          have hHeld := hNew
          clear hNew hK K
          have hC10T0 : w.heap.size < wr.heap.size := T0.out.2.1
          have hC10T1 : w.heap.size + 1 < wr.heap.size := T1.out.2.1
          have hC10T7 : kT7 < wr.heap.size := T7.out.2.1
          replace bel : Hid (Below w.heap.size w (wr.alloc (cdo Cd.zero)).drew) := Lib.hid (Bx.bel_drewn (Bx.bel_box bel.out (cdo Cd.zero)))
          replace T0 : Hid (Bx.Fre (wr.alloc (cdo Cd.zero)).drew (w.heap.size) (tdl a)) := Lib.hid (T0.out.more (cdo Cd.zero))
          replace T1 : Hid (Bx.Fre (wr.alloc (cdo Cd.zero)).drew (w.heap.size + 1) (tdl y)) := Lib.hid (T1.out.more (cdo Cd.zero))
          replace T7 : Hid (Bx.Fre (wr.alloc (cdo Cd.zero)).drew (kT7) (tdl d)) := Lib.hid (T7.out.more (cdo Cd.zero))
          have C10 : Hid (Bx.Fre (wr.alloc (cdo Cd.zero)).drew wr.heap.size (cdl Cd.zero)) := Lib.hid (Bx.Fre.new wr (cdl Cd.zero) 28)
          generalize (wr.alloc (cdo Cd.zero)).drew = vt2x11 at *
          generalize wr.heap.size = kC10 at *
          refine wpAnyH_ready (rs := [9]) (by kernel_rfl) (by simp) ?_
          refine AllReadyH.cons (o := ?ot2x12) ?hit2x12 ?hstt2x12 AllReadyH.nil
          case hit2x12 => (simp only [List.getElem?_toArray, List.getElem?_cons_succ, List.getElem?_cons_zero]; rfl)
          intro K hK
          go_simp
          refine hK.out _ _ ⟨Bx.Blk.more hHeld.1 _, Bx.Blk.more hHeld.2 _⟩ (fun hNew => ?_)
          clear hHeld
          have hHeld := hNew
          clear hNew hK K
          have hC11T0 : w.heap.size < vt2x11.heap.size := T0.out.2.1
          have hC11T1 : w.heap.size + 1 < vt2x11.heap.size := T1.out.2.1
          have hC11T7 : kT7 < vt2x11.heap.size := T7.out.2.1
          have hC11C10 : kC10 < vt2x11.heap.size := C10.out.2.1
          replace bel : Hid (Below w.heap.size w (vt2x11.alloc (cdo Cd.zero))) := Lib.hid ((Bx.bel_box bel.out (cdo Cd.zero)))
          replace T0 : Hid (Bx.Fre (vt2x11.alloc (cdo Cd.zero)) (w.heap.size) (tdl a)) := Lib.hid (T0.out.more (cdo Cd.zero))
          replace T1 : Hid (Bx.Fre (vt2x11.alloc (cdo Cd.zero)) (w.heap.size + 1) (tdl y)) := Lib.hid (T1.out.more (cdo Cd.zero))
          replace T7 : Hid (Bx.Fre (vt2x11.alloc (cdo Cd.zero)) (kT7) (tdl d)) := Lib.hid (T7.out.more (cdo Cd.zero))
          replace C10 : Hid (Bx.Fre (vt2x11.alloc (cdo Cd.zero)) (kC10) (cdl Cd.zero)) := Lib.hid (C10.out.more (cdo Cd.zero))
          have C11 : Hid (Bx.Fre (vt2x11.alloc (cdo Cd.zero)) vt2x11.heap.size (cdl Cd.zero)) := Lib.hid (Bx.Fre.new vt2x11 (cdl Cd.zero) 28)
          generalize (vt2x11.alloc (cdo Cd.zero)) = vt2x13 at *
          generalize vt2x11.heap.size = kC11 at *
          refine wpAnyH_ready (rs := [10]) (by kernel_rfl) (by simp) ?_
          refine AllReadyH.cons (o := ?ot2x14) ?hit2x14 ?hstt2x14 AllReadyH.nil
          case hit2x14 => (simp only [List.getElem?_toArray, List.getElem?_cons_succ, List.getElem?_cons_zero]; rfl)
          intro K hK
          rw [if_pos (by rfl)]
          refine cdw_wp rfl (kC10) rfl (a.cs k) rfl (cdl Cd.zero) rfl C10.out ?_
          refine hK.out _ _ ⟨Bx.Blk.apart_at _ _ (by omega) hHeld.1, Bx.Blk.apart_at _ _ (by omega) hHeld.2⟩ (fun hNew => ?_)
          clear hHeld
          have hHeld := hNew
          clear hNew hK K
          try simp only [Act.put]
          replace bel := Lib.hid (Bx.bel_put_at (k := kC10) (cdl (a.cs k)) 0 (by omega) bel.out)
          replace T0 := Lib.hid (T0.out.apart_at (k' := kC10) (cdl (a.cs k)) 0 (by omega))
          replace T1 := Lib.hid (T1.out.apart_at (k' := kC10) (cdl (a.cs k)) 0 (by omega))
          replace T7 := Lib.hid (T7.out.apart_at (k' := kC10) (cdl (a.cs k)) 0 (by omega))
          replace C11 := Lib.hid (C11.out.apart_at (k' := kC10) (cdl (a.cs k)) 0 (by omega))
          replace C10 := Lib.hid (C10.out.full (m := (cdl (a.cs k))) rfl)
          generalize vt2x13.setCells (kC10) 0 (cdl (a.cs k)) = vt2x15 at *
          refine wpAnyH_ready (rs := [11]) (by kernel_rfl) (by simp) ?_
          refine AllReadyH.cons (o := ?ot2x16) ?hit2x16 ?hstt2x16 AllReadyH.nil
          case hit2x16 => (simp only [List.getElem?_toArray, List.getElem?_cons_succ, List.getElem?_cons_zero]; rfl)
          intro K hK
          rw [if_pos (by rfl)]
          refine cdw_wp rfl (kC11) rfl (y.cs k) rfl (cdl Cd.zero) rfl C11.out ?_
          refine hK.out _ _ ⟨Bx.Blk.apart_at _ _ (by omega) hHeld.1, Bx.Blk.apart_at _ _ (by omega) hHeld.2⟩ (fun hNew => ?_)
          clear hHeld
          have hHeld := hNew
          clear hNew hK K
          try simp only [Act.put]
          replace bel := Lib.hid (Bx.bel_put_at (k := kC11) (cdl (y.cs k)) 0 (by omega) bel.out)
          replace T0 := Lib.hid (T0.out.apart_at (k' := kC11) (cdl (y.cs k)) 0 (by omega))
          replace T1 := Lib.hid (T1.out.apart_at (k' := kC11) (cdl (y.cs k)) 0 (by omega))
          replace T7 := Lib.hid (T7.out.apart_at (k' := kC11) (cdl (y.cs k)) 0 (by omega))
          replace C10 := Lib.hid (C10.out.apart_at (k' := kC11) (cdl (y.cs k)) 0 (by omega))
          replace C11 := Lib.hid (C11.out.full (m := (cdl (y.cs k))) rfl)
          generalize vt2x15.setCells (kC11) 0 (cdl (y.cs k)) = vt2x17 at *
          refine wpAnyH_done (by kernel_rfl) ?_ _
          refine NoPanic.normal ?_
          go_wp2_with fail
          go_meet
          exact ⟨_, _, rfl, rfl, ⟨by omega, by omega, by omega, by omega, by omega⟩, bel.out, T0.out, T1.out, T7.out, C10.out, C11.out⟩
        case hstt2x10 =>
          intro K hK
          go_simp
          refine hK.out _ _ ⟨Bx.Blk.more hHeld.1 _, Bx.Blk.more hHeld.2 _⟩ (fun hNew => ?_)
          clear hHeld
          have hHeld := hNew
          clear hNew hK K
          have hC11T0 : w.heap.size < wr.heap.size := T0.out.2.1
          have hC11T1 : w.heap.size + 1 < wr.heap.size := T1.out.2.1
          have hC11T7 : kT7 < wr.heap.size := T7.out.2.1
          replace bel : Hid (Below w.heap.size w (wr.alloc (cdo Cd.zero)).drew) := Lib.hid (Bx.bel_drewn (Bx.bel_box bel.out (cdo Cd.zero)))
          replace T0 : Hid (Bx.Fre (wr.alloc (cdo Cd.zero)).drew (w.heap.size) (tdl a)) := Lib.hid (T0.out.more (cdo Cd.zero))
          replace T1 : Hid (Bx.Fre (wr.alloc (cdo Cd.zero)).drew (w.heap.size + 1) (tdl y)) := Lib.hid (T1.out.more (cdo Cd.zero))
          replace T7 : Hid (Bx.Fre (wr.alloc (cdo Cd.zero)).drew (kT7) (tdl d)) := Lib.hid (T7.out.more (cdo Cd.zero))
          have C11 : Hid (Bx.Fre (wr.alloc (cdo Cd.zero)).drew wr.heap.size (cdl Cd.zero)) := Lib.hid (Bx.Fre.new wr (cdl Cd.zero) 28)
          generalize (wr.alloc (cdo Cd.zero)).drew = vt2x18 at *
          generalize wr.heap.size = kC11 at *
          refine wpAnyH_ready (rs := [8]) (by kernel_rfl) (by simp) ?_
          refine AllReadyH.cons (o := ?ot2x19) ?hit2x19 ?hstt2x19 AllReadyH.nil
          case hit2x19 => (simp only [List.getElem?_toArray, List.getElem?_cons_succ, List.getElem?_cons_zero]; rfl)
          intro K hK
          go_simp
          refine hK.out _ _ ⟨Bx.Blk.more hHeld.1 _, Bx.Blk.more hHeld.2 _⟩ (fun hNew => ?_)
          clear hHeld
          have hHeld := hNew
          clear hNew hK K
          have hC10T0 : w.heap.size < vt2x18.heap.size := T0.out.2.1
          have hC10T1 : w.heap.size + 1 < vt2x18.heap.size := T1.out.2.1
          have hC10T7 : kT7 < vt2x18.heap.size := T7.out.2.1
          have hC10C11 : kC11 < vt2x18.heap.size := C11.out.2.1
          replace bel : Hid (Below w.heap.size w (vt2x18.alloc (cdo Cd.zero))) := Lib.hid ((Bx.bel_box bel.out (cdo Cd.zero)))
          replace T0 : Hid (Bx.Fre (vt2x18.alloc (cdo Cd.zero)) (w.heap.size) (tdl a)) := Lib.hid (T0.out.more (cdo Cd.zero))
          replace T1 : Hid (Bx.Fre (vt2x18.alloc (cdo Cd.zero)) (w.heap.size + 1) (tdl y)) := Lib.hid (T1.out.more (cdo Cd.zero))
          replace T7 : Hid (Bx.Fre (vt2x18.alloc (cdo Cd.zero)) (kT7) (tdl d)) := Lib.hid (T7.out.more (cdo Cd.zero))
          replace C11 : Hid (Bx.Fre (vt2x18.alloc (cdo Cd.zero)) (kC11) (cdl Cd.zero)) := Lib.hid (C11.out.more (cdo Cd.zero))
          have C10 : Hid (Bx.Fre (vt2x18.alloc (cdo Cd.zero)) vt2x18.heap.size (cdl Cd.zero)) := Lib.hid (Bx.Fre.new vt2x18 (cdl Cd.zero) 28)
          generalize (vt2x18.alloc (cdo Cd.zero)) = vt2x20 at *
          generalize vt2x18.heap.size = kC10 at *
          refine wpAnyH_ready (rs := [10]) (by kernel_rfl) (by simp) ?_
          refine AllReadyH.cons (o := ?ot2x21) ?hit2x21 ?hstt2x21 AllReadyH.nil
          case hit2x21 => (simp only [List.getElem?_toArray, List.getElem?_cons_succ, List.getElem?_cons_zero]; rfl)
          intro K hK
          rw [if_pos (by rfl)]
          refine cdw_wp rfl (kC10) rfl (a.cs k) rfl (cdl Cd.zero) rfl C10.out ?_
          refine hK.out _ _ ⟨Bx.Blk.apart_at _ _ (by omega) hHeld.1, Bx.Blk.apart_at _ _ (by omega) hHeld.2⟩ (fun hNew => ?_)
          clear hHeld
          have hHeld := hNew
          clear hNew hK K
          try simp only [Act.put]
          replace bel := Lib.hid (Bx.bel_put_at (k := kC10) (cdl (a.cs k)) 0 (by omega) bel.out)
          replace T0 := Lib.hid (T0.out.apart_at (k' := kC10) (cdl (a.cs k)) 0 (by omega))
          replace T1 := Lib.hid (T1.out.apart_at (k' := kC10) (cdl (a.cs k)) 0 (by omega))
          replace T7 := Lib.hid (T7.out.apart_at (k' := kC10) (cdl (a.cs k)) 0 (by omega))
          replace C11 := Lib.hid (C11.out.apart_at (k' := kC10) (cdl (a.cs k)) 0 (by omega))
          replace C10 := Lib.hid (C10.out.full (m := (cdl (a.cs k))) rfl)
          generalize vt2x20.setCells (kC10) 0 (cdl (a.cs k)) = vt2x22 at *
          refine wpAnyH_ready (rs := [11]) (by kernel_rfl) (by simp) ?_
          refine AllReadyH.cons (o := ?ot2x23) ?hit2x23 ?hstt2x23 AllReadyH.nil
          case hit2x23 => (simp only [List.getElem?_toArray, List.getElem?_cons_succ, List.getElem?_cons_zero]; rfl)
          intro K hK
          rw [if_pos (by rfl)]
          refine cdw_wp rfl (kC11) rfl (y.cs k) rfl (cdl Cd.zero) rfl C11.out ?_
          refine hK.out _ _ ⟨Bx.Blk.apart_at _ _ (by omega) hHeld.1, Bx.Blk.apart_at _ _ (by omega) hHeld.2⟩ (fun hNew => ?_)
          clear hHeld
          have hHeld := hNew
          clear hNew hK K
          try simp only [Act.put]
          replace bel := Lib.hid (Bx.bel_put_at (k := kC11) (cdl (y.cs k)) 0 (by omega) bel.out)
          replace T0 := Lib.hid (T0.out.apart_at (k' := kC11) (cdl (y.cs k)) 0 (by omega))
          replace T1 := Lib.hid (T1.out.apart_at (k' := kC11) (cdl (y.cs k)) 0 (by omega))
          replace T7 := Lib.hid (T7.out.apart_at (k' := kC11) (cdl (y.cs k)) 0 (by omega))
          replace C10 := Lib.hid (C10.out.apart_at (k' := kC11) (cdl (y.cs k)) 0 (by omega))
          replace C11 := Lib.hid (C11.out.full (m := (cdl (y.cs k))) rfl)
          generalize vt2x22.setCells (kC11) 0 (cdl (y.cs k)) = vt2x24 at *
          refine wpAnyH_done (by kernel_rfl) ?_ _
          refine NoPanic.normal ?_
          go_wp2_with fail
          go_meet
          exact ⟨_, _, rfl, rfl, ⟨by omega, by omega, by omega, by omega, by omega⟩, bel.out, T0.out, T1.out, T7.out, C10.out, C11.out⟩
      case rest =>
      obtain ⟨wx, hwx⟩ : ∃ v, v = wc := ⟨_, rfl⟩
      subst hwx
      clear T0 T1 T7 bel
      obtain ⟨k10, k11, rfl, rfl, ⟨b1, b2, b3, b4, b5⟩, bel, T0, T1, T7, C10, C11⟩ := hcut
      replace bel := Lib.hid bel
      replace T0 := Lib.hid T0
      replace T1 := Lib.hid T1
      replace T7 := Lib.hid T7
      replace C10 := Lib.hid C10
      replace C11 := Lib.hid C11
      replace HM := Lib.hid (HM.out k)
      replace HC := Lib.hid (HC.out k hk)
      obtain ⟨x, hx⟩ : ∃ x, x = a.cs k := ⟨_, rfl⟩
      obtain ⟨c, hc⟩ : ∃ c, c = y.cs k := ⟨_, rfl⟩
      rw [← hx] at C10 HC
      rw [← hc] at C11 HC HM
      clear hx hc
      go_upto_region 9 with fail
      go_cut [65] (fun s65 wz => s65 = .bool false ∧ wz = wx)
      case first =>
        have C10_0 := C10.out.at 0 rfl
        have C10_14 := C10.out.at 14 rfl
        have C11_0 := C11.out.at 0 rfl
        have C11_14 := C11.out.at 14 rfl
        rcases Bool.eq_false_or_eq_true x.up with p0 | p0
        · rw [p0] at C10_0
          rcases Bool.eq_false_or_eq_true c.up with p1 | p1
          · rw [p1] at C11_0
            by_cases p2 : x.st = 0
            · have gp2 : (x.st != 0) = false := by simp [p2]
              clear p0 p1 p2
              go_wp2_with fail
              go_meet
              exact ⟨rfl, rfl⟩
            · have gp2 : (x.st != 0) = true := by simp [p2]
              by_cases p3 : c.st = 0
              · have gp3 : (c.st == 0) = true := by simp [p3]
                have hH := Lib.hid (Por.has_at (f : Int) k hk true (by rw [Por.low_nat f hlt]; exact HC.out (by unfold clsB; simp [p0, p1, p2, p3])))
                clear p0 p1 p2 p3
                go_wp2_with fail
                refine (hH.out _).mono ?_; rintro e w7 ⟨rfl, rfl⟩
                go_wp2_with fail
                go_meet
                exact ⟨rfl, rfl⟩
              · have gp3 : (c.st == 0) = false := by simp [p3]
                clear p0 p1 p2 p3
                go_wp2_with fail
                go_meet
                exact ⟨rfl, rfl⟩
          · rw [p1] at C11_0
            have hH := Lib.hid (Por.has_at (f : Int) k hk true (by rw [Por.low_nat f hlt]; exact HC.out (by unfold clsB; simp [p0, p1])))
            clear p0 p1
            go_wp2_with fail
            refine (hH.out _).mono ?_; rintro e w7 ⟨rfl, rfl⟩
            go_wp2_with fail
            go_meet
            exact ⟨rfl, rfl⟩
        · rw [p0] at C10_0
          by_cases p1 : x.st = 0
          · have gp1 : (x.st != 0) = false := by simp [p1]
            clear p0 p1
            go_wp2_with fail
            go_meet
            exact ⟨rfl, rfl⟩
          · have gp1 : (x.st != 0) = true := by simp [p1]
            by_cases p2 : c.st = 0
            · have gp2 : (c.st == 0) = true := by simp [p2]
              have hH := Lib.hid (Por.has_at (f : Int) k hk true (by rw [Por.low_nat f hlt]; exact HC.out (by unfold clsB; simp [p0, p1, p2])))
              clear p0 p1 p2
              go_wp2_with fail
              refine (hH.out _).mono ?_; rintro e w7 ⟨rfl, rfl⟩
              go_wp2_with fail
              go_meet
              exact ⟨rfl, rfl⟩
            · have gp2 : (c.st == 0) = false := by simp [p2]
              clear p0 p1 p2
              go_wp2_with fail
              go_meet
              exact ⟨rfl, rfl⟩
      case rest =>
      obtain ⟨rfl, hw⟩ := hcut
      replace hw := hw.symm
      subst hw
      clear C10 HC
      have U0 := T7
      have h6T0 : w.heap.size < wx.heap.size := T0.out.2.1
      have h6T1 : w.heap.size + 1 < wx.heap.size := T1.out.2.1
      have h6T7 : kT7 < wx.heap.size := T7.out.2.1
      have h6C11 : k11 < wx.heap.size := C11.out.2.1
      replace T0 := Lib.hid (T0.out.more (cdo (d.cs k)))
      replace T1 := Lib.hid (T1.out.more (cdo (d.cs k)))
      replace T7 := Lib.hid (T7.out.more (cdo (d.cs k)))
      replace C11 := Lib.hid (C11.out.more (cdo (d.cs k)))
      have C12 : Hid (Bx.Fre (wx.alloc (cdo (d.cs k))) wx.heap.size (cdl (d.cs k))) := Lib.hid (Bx.Fre.new wx (cdl (d.cs k)) 28)
      replace bel := Lib.hid (Bx.bel_box bel.out (cdo (d.cs k)))
      go_upto_region 12 with (first | ((with_reducible refine cc_load ?_ ?_ (kT7) k hk ?_ d ?_ ?_); (· rfl); (· rfl); (· rfl); (· first | exact U0.out.blk | exact (U0.out.more (.cells (cdl Cd.zero).toArray 28)).blk)) | ((with_reducible refine cd_fresh ?_ ?_ (wx.heap.size) (d.cs k) ?_ ?_ wx (cdl Cd.zero) ?_ ?_ ?_ ?_); (· rfl); (· rfl); (· rfl); (· rfl); (· rfl); (· rfl); (· first | rfl | (simp; done))))
      clear U0
      obtain ⟨z, hz⟩ : ∃ z, z = d.cs k := ⟨_, rfl⟩
      rw [← hz] at C12 T0 T1 T7 C11 bel HM ⊢
      clear hz
      obtain ⟨k12, hk12⟩ : ∃ k, k = wx.heap.size := ⟨_, rfl⟩
      rw [← hk12] at C12 h6T0 h6T1 h6T7 h6C11 ⊢
      generalize wx.alloc (cdo z) = w0 at *
      clear hk12 wx
      obtain ⟨hm1, hm2⟩ := more_is HM.out
      replace hm1 := Lib.hid hm1
      have hcv : Hid (∀ w, (binOp .neq 28 (cdv c) (cdv c)).run Try.prog w = .ok (.bool false) w) := Lib.hid (fun w => by rw [run_neq_struct, ceql10, decide_eq_true rfl]; rfl)
      by_cases h : z.chg = c.chg
      · have g0 : (z.chg != c.chg) = false := by simp [h]
        clear hm2 h
        have C12_27 := C12.out.at 27 rfl
        have C11_27 := C11.out.at 27 rfl
        go_upto_region 14 with fail
        clear g0
        clear C12_27 C11_27
        refine wp_region_noPanic ?_
        refine wp_region_held_drew (S := fun w' => w'.cell? ⟨k11, 27, none⟩ = some (.int .i64 c.chg) ∧ w'.cell? ⟨k11, 22, none⟩ = some (.bool c.tel)) (by kernel_rfl) (by exact ⟨C11.out.at 27 rfl, C11.out.at 22 rfl⟩) (fun hHeld => ?_)
        replace bel := Lib.hid (Bx.bel_drewn bel.out)
        replace T0 := Lib.hid (T0.out.drew)
        replace T1 := Lib.hid (T1.out.drew)
        replace T7 := Lib.hid (T7.out.drew)
        replace C11 := Lib.hid (C11.out.drew)
        replace C12 := Lib.hid (C12.out.drew)
        generalize w0.drew = wd14 at *
        refine wpAnyH_take (i := 0) (oi := ?oz3x0) (v := ?vz3x0) ?hiz3x0 (by kernel_rfl) (by kernel_rfl) (by kernel_rfl) (fun _ _ _ h => h) ?yz3x0 hHeld ?rz3x0
        case hiz3x0 => (simp only [List.getElem?_toArray, List.getElem?_cons_zero]; rfl)
        case yz3x0 => (refine Or.inl ⟨by rfl, ?_⟩; intro w' hSw; (try dsimp only at hSw); go_simp; (try with_reducible rfl))
        try simp only [Act.put, List.setIfInBounds_toArray, List.set_cons_zero, List.set_cons_succ]
        refine wpAnyH_take (i := 1) (oi := ?oz3x1) (v := ?vz3x1) ?hiz3x1 (by kernel_rfl) (by kernel_rfl) (by kernel_rfl) (fun _ _ _ h => h) ?yz3x1 hHeld ?rz3x1
        case hiz3x1 => (simp only [List.getElem?_toArray, List.getElem?_cons_succ, List.getElem?_cons_zero]; rfl)
        case yz3x1 => (refine Or.inl ⟨by rfl, ?_⟩; intro w' hSw; (try dsimp only at hSw); go_simp; (try with_reducible rfl))
        try simp only [Act.put, List.setIfInBounds_toArray, List.set_cons_zero, List.set_cons_succ]
        refine wpAnyH_take (i := 2) (oi := ?oz3x2) (v := ?vz3x2) ?hiz3x2 (by kernel_rfl) (by kernel_rfl) (by kernel_rfl) (fun _ _ _ h => h) ?yz3x2 hHeld ?rz3x2
        case hiz3x2 => (simp only [List.getElem?_toArray, List.getElem?_cons_succ, List.getElem?_cons_zero]; rfl)
        case yz3x2 => (refine Or.inl ⟨by rfl, ?_⟩; intro w' hSw; (try dsimp only at hSw); go_simp; (try with_reducible rfl))
        try simp only [Act.put, List.setIfInBounds_toArray, List.set_cons_zero, List.set_cons_succ]
        refine wpAnyH_take (i := 3) (oi := ?oz3x3) (v := ?vz3x3) ?hiz3x3 (by kernel_rfl) (by kernel_rfl) (by kernel_rfl) (fun _ _ _ h => h) ?yz3x3 hHeld ?rz3x3
        case hiz3x3 => (simp only [List.getElem?_toArray, List.getElem?_cons_succ, List.getElem?_cons_zero]; rfl)
        case yz3x3 => (refine Or.inl ⟨by rfl, ?_⟩; intro w' hSw; (try dsimp only at hSw); go_simp; (try with_reducible rfl))
        try simp only [Act.put, List.setIfInBounds_toArray, List.set_cons_zero, List.set_cons_succ]
        refine wpAnyH_take (i := 4) (oi := ?oz3x4) (v := ?vz3x4) ?hiz3x4 (by kernel_rfl) (by kernel_rfl) (by kernel_rfl) (fun _ _ _ h => h) ?yz3x4 hHeld ?rz3x4
        case hiz3x4 => (simp only [List.getElem?_toArray, List.getElem?_cons_succ, List.getElem?_cons_zero]; rfl)
        case yz3x4 => (refine Or.inl ⟨by rfl, ?_⟩; intro w' hSw; (try dsimp only at hSw); go_simp; (try with_reducible rfl))
        try simp only [Act.put, List.setIfInBounds_toArray, List.set_cons_zero, List.set_cons_succ]
        refine wpAnyH_ready (rs := [5]) (by kernel_rfl) (by simp) ?_
        refine AllReadyH.cons (o := ?oz3x5) ?hiz3x5 ?hstz3x5 AllReadyH.nil
        case hiz3x5 => (simp only [List.getElem?_toArray, List.getElem?_cons_succ, List.getElem?_cons_zero]; rfl)
        intro K hK
        have q27 := C12.out.at 27 rfl
        have f27 := C12.out.2.2 27
        go_simp
        refine hK.out _ _ ⟨Bx.cell_other (by omega) hHeld.1, Bx.cell_other (by omega) hHeld.2⟩ (fun hNew => ?_)
        clear hHeld
        have hHeld := hNew
        clear hNew hK K
        clear q27 f27
        replace T0 := Lib.hid (T0.out.other (k' := k12) (o := 27) (x := .int .i64 c.chg) (by omega))
        replace T1 := Lib.hid (T1.out.other (k' := k12) (o := 27) (x := .int .i64 c.chg) (by omega))
        replace T7 := Lib.hid (T7.out.other (k' := k12) (o := 27) (x := .int .i64 c.chg) (by omega))
        replace C11 := Lib.hid (C11.out.other (k' := k12) (o := 27) (x := .int .i64 c.chg) (by omega))
        replace bel := Lib.hid (Bx.bel_set (k := k12) (o := 27) (x := .int .i64 c.chg) (by omega) bel.out)
        replace C12 := Lib.hid ((C12.out.set (27) (.int .i64 c.chg)).of (m := (cdl { z with chg := c.chg })) (by first | rfl | simp [enc, tenc]))
        refine wpAnyH_take (i := 6) (oi := ?oz3x6) (v := ?vz3x6) ?hiz3x6 (by kernel_rfl) (by kernel_rfl) (by kernel_rfl) (fun _ _ _ h => h) ?yz3x6 hHeld ?rz3x6
        case hiz3x6 => (simp only [List.getElem?_toArray, List.getElem?_cons_succ, List.getElem?_cons_zero]; rfl)
        case yz3x6 => (refine Or.inl ⟨by rfl, ?_⟩; intro w' hSw; (try dsimp only at hSw); go_simp; (try with_reducible rfl))
        try simp only [Act.put, List.setIfInBounds_toArray, List.set_cons_zero, List.set_cons_succ]
        refine wpAnyH_ready (rs := [7]) (by kernel_rfl) (by simp) ?_
        refine AllReadyH.cons (o := ?oz3x7) ?hiz3x7 ?hstz3x7 AllReadyH.nil
        case hiz3x7 => (simp only [List.getElem?_toArray, List.getElem?_cons_succ, List.getElem?_cons_zero]; rfl)
        intro K hK
        have q22 := C12.out.at 22 rfl
        have f22 := C12.out.2.2 22
        go_simp
        refine hK.out _ _ ⟨Bx.cell_other (by omega) hHeld.1, Bx.cell_other (by omega) hHeld.2⟩ (fun hNew => ?_)
        clear hHeld
        have hHeld := hNew
        clear hNew hK K
        clear q22 f22
        replace T0 := Lib.hid (T0.out.other (k' := k12) (o := 22) (x := .bool c.tel) (by omega))
        replace T1 := Lib.hid (T1.out.other (k' := k12) (o := 22) (x := .bool c.tel) (by omega))
        replace T7 := Lib.hid (T7.out.other (k' := k12) (o := 22) (x := .bool c.tel) (by omega))
        replace C11 := Lib.hid (C11.out.other (k' := k12) (o := 22) (x := .bool c.tel) (by omega))
        replace bel := Lib.hid (Bx.bel_set (k := k12) (o := 22) (x := .bool c.tel) (by omega) bel.out)
        replace C12 := Lib.hid ((C12.out.set (22) (.bool c.tel)).of (m := (cdl { z with chg := c.chg, tel := c.tel })) (by first | rfl | simp [enc, tenc]))
        refine wpAnyH_done (by kernel_rfl) ?_ _
        refine NoPanic.normal ?_
        replace C12 := Lib.hid (C12.out.of (m := cdl c) (by rw [hm1.out]))
        go_upto_region 15 with fail
        have hcn := hcv.out
        have hcg := fun op x z w => cguard_at op x z c c w
        go_wp2_with (first | ((with_reducible refine cd_load ?_ ?_ (k12) ?_ c ?_ ?_); (· rfl); (· rfl); (· rfl); (· exact C12.out.blk)) | ((with_reducible refine cd_load ?_ ?_ (k11) ?_ c ?_ ?_); (· rfl); (· rfl); (· rfl); (· exact C11.out.blk)))
        go_roundg g
        case measure => omega
        case rel => exact ⟨k + 1, by omega, by go_num, T0.out, T1.out, T7.out, bel.out⟩
      · have g0 : (z.chg != c.chg) = true := by simp [h]
        obtain ⟨m1, m2, m3⟩ := hm2 h
        have g1 : (c.chg != 0) = false := by simp [m1]
        have g2 : decide (z.chg < 1) = false := by simp; omega
        clear hm2 h m1 m2
        have C12_27 := C12.out.at 27 rfl
        have C12_22 := C12.out.at 22 rfl
        have C11_27 := C11.out.at 27 rfl
        rw [m3] at C12_22
        clear m3
        go_upto_region 14 with fail
        clear g0 g1 g2
        clear C12_27 C12_22 C11_27
        refine wp_region_noPanic ?_
        refine wp_region_held_drew (S := fun w' => w'.cell? ⟨k11, 27, none⟩ = some (.int .i64 c.chg) ∧ w'.cell? ⟨k11, 22, none⟩ = some (.bool c.tel)) (by kernel_rfl) (by exact ⟨C11.out.at 27 rfl, C11.out.at 22 rfl⟩) (fun hHeld => ?_)
        replace bel := Lib.hid (Bx.bel_drewn bel.out)
        replace T0 := Lib.hid (T0.out.drew)
        replace T1 := Lib.hid (T1.out.drew)
        replace T7 := Lib.hid (T7.out.drew)
        replace C11 := Lib.hid (C11.out.drew)
        replace C12 := Lib.hid (C12.out.drew)
        generalize w0.drew = wd14 at *
        refine wpAnyH_take (i := 0) (oi := ?oz4x0) (v := ?vz4x0) ?hiz4x0 (by kernel_rfl) (by kernel_rfl) (by kernel_rfl) (fun _ _ _ h => h) ?yz4x0 hHeld ?rz4x0
        case hiz4x0 => (simp only [List.getElem?_toArray, List.getElem?_cons_zero]; rfl)
        case yz4x0 => (refine Or.inl ⟨by rfl, ?_⟩; intro w' hSw; (try dsimp only at hSw); go_simp; (try with_reducible rfl))
        try simp only [Act.put, List.setIfInBounds_toArray, List.set_cons_zero, List.set_cons_succ]
        refine wpAnyH_take (i := 1) (oi := ?oz4x1) (v := ?vz4x1) ?hiz4x1 (by kernel_rfl) (by kernel_rfl) (by kernel_rfl) (fun _ _ _ h => h) ?yz4x1 hHeld ?rz4x1
        case hiz4x1 => (simp only [List.getElem?_toArray, List.getElem?_cons_succ, List.getElem?_cons_zero]; rfl)
        case yz4x1 => (refine Or.inl ⟨by rfl, ?_⟩; intro w' hSw; (try dsimp only at hSw); go_simp; (try with_reducible rfl))
        try simp only [Act.put, List.setIfInBounds_toArray, List.set_cons_zero, List.set_cons_succ]
        refine wpAnyH_take (i := 2) (oi := ?oz4x2) (v := ?vz4x2) ?hiz4x2 (by kernel_rfl) (by kernel_rfl) (by kernel_rfl) (fun _ _ _ h => h) ?yz4x2 hHeld ?rz4x2
        case hiz4x2 => (simp only [List.getElem?_toArray, List.getElem?_cons_succ, List.getElem?_cons_zero]; rfl)
        case yz4x2 => (refine Or.inl ⟨by rfl, ?_⟩; intro w' hSw; (try dsimp only at hSw); go_simp; (try with_reducible rfl))
        try simp only [Act.put, List.setIfInBounds_toArray, List.set_cons_zero, List.set_cons_succ]
        refine wpAnyH_take (i := 3) (oi := ?oz4x3) (v := ?vz4x3) ?hiz4x3 (by kernel_rfl) (by kernel_rfl) (by kernel_rfl) (fun _ _ _ h => h) ?yz4x3 hHeld ?rz4x3
        case hiz4x3 => (simp only [List.getElem?_toArray, List.getElem?_cons_succ, List.getElem?_cons_zero]; rfl)
        case yz4x3 => (refine Or.inl ⟨by rfl, ?_⟩; intro w' hSw; (try dsimp only at hSw); go_simp; (try with_reducible rfl))
        try simp only [Act.put, List.setIfInBounds_toArray, List.set_cons_zero, List.set_cons_succ]
        refine wpAnyH_take (i := 4) (oi := ?oz4x4) (v := ?vz4x4) ?hiz4x4 (by kernel_rfl) (by kernel_rfl) (by kernel_rfl) (fun _ _ _ h => h) ?yz4x4 hHeld ?rz4x4
        case hiz4x4 => (simp only [List.getElem?_toArray, List.getElem?_cons_succ, List.getElem?_cons_zero]; rfl)
        case yz4x4 => (refine Or.inl ⟨by rfl, ?_⟩; intro w' hSw; (try dsimp only at hSw); go_simp; (try with_reducible rfl))
        try simp only [Act.put, List.setIfInBounds_toArray, List.set_cons_zero, List.set_cons_succ]
        refine wpAnyH_ready (rs := [5]) (by kernel_rfl) (by simp) ?_
        refine AllReadyH.cons (o := ?oz4x5) ?hiz4x5 ?hstz4x5 AllReadyH.nil
        case hiz4x5 => (simp only [List.getElem?_toArray, List.getElem?_cons_succ, List.getElem?_cons_zero]; rfl)
        intro K hK
        have q27 := C12.out.at 27 rfl
        have f27 := C12.out.2.2 27
        go_simp
        refine hK.out _ _ ⟨Bx.cell_other (by omega) hHeld.1, Bx.cell_other (by omega) hHeld.2⟩ (fun hNew => ?_)
        clear hHeld
        have hHeld := hNew
        clear hNew hK K
        clear q27 f27
        replace T0 := Lib.hid (T0.out.other (k' := k12) (o := 27) (x := .int .i64 c.chg) (by omega))
        replace T1 := Lib.hid (T1.out.other (k' := k12) (o := 27) (x := .int .i64 c.chg) (by omega))
        replace T7 := Lib.hid (T7.out.other (k' := k12) (o := 27) (x := .int .i64 c.chg) (by omega))
        replace C11 := Lib.hid (C11.out.other (k' := k12) (o := 27) (x := .int .i64 c.chg) (by omega))
        replace bel := Lib.hid (Bx.bel_set (k := k12) (o := 27) (x := .int .i64 c.chg) (by omega) bel.out)
        replace C12 := Lib.hid ((C12.out.set (27) (.int .i64 c.chg)).of (m := (cdl { z with chg := c.chg })) (by first | rfl | simp [enc, tenc]))
        refine wpAnyH_take (i := 6) (oi := ?oz4x6) (v := ?vz4x6) ?hiz4x6 (by kernel_rfl) (by kernel_rfl) (by kernel_rfl) (fun _ _ _ h => h) ?yz4x6 hHeld ?rz4x6
        case hiz4x6 => (simp only [List.getElem?_toArray, List.getElem?_cons_succ, List.getElem?_cons_zero]; rfl)
        case yz4x6 => (refine Or.inl ⟨by rfl, ?_⟩; intro w' hSw; (try dsimp only at hSw); go_simp; (try with_reducible rfl))
        try simp only [Act.put, List.setIfInBounds_toArray, List.set_cons_zero, List.set_cons_succ]
        refine wpAnyH_ready (rs := [7]) (by kernel_rfl) (by simp) ?_
        refine AllReadyH.cons (o := ?oz4x7) ?hiz4x7 ?hstz4x7 AllReadyH.nil
        case hiz4x7 => (simp only [List.getElem?_toArray, List.getElem?_cons_succ, List.getElem?_cons_zero]; rfl)
        intro K hK
        have q22 := C12.out.at 22 rfl
        have f22 := C12.out.2.2 22
        go_simp
        refine hK.out _ _ ⟨Bx.cell_other (by omega) hHeld.1, Bx.cell_other (by omega) hHeld.2⟩ (fun hNew => ?_)
        clear hHeld
        have hHeld := hNew
        clear hNew hK K
        clear q22 f22
        replace T0 := Lib.hid (T0.out.other (k' := k12) (o := 22) (x := .bool c.tel) (by omega))
        replace T1 := Lib.hid (T1.out.other (k' := k12) (o := 22) (x := .bool c.tel) (by omega))
        replace T7 := Lib.hid (T7.out.other (k' := k12) (o := 22) (x := .bool c.tel) (by omega))
        replace C11 := Lib.hid (C11.out.other (k' := k12) (o := 22) (x := .bool c.tel) (by omega))
        replace bel := Lib.hid (Bx.bel_set (k := k12) (o := 22) (x := .bool c.tel) (by omega) bel.out)
        replace C12 := Lib.hid ((C12.out.set (22) (.bool c.tel)).of (m := (cdl { z with chg := c.chg, tel := c.tel })) (by first | rfl | simp [enc, tenc]))
        refine wpAnyH_done (by kernel_rfl) ?_ _
        refine NoPanic.normal ?_
        replace C12 := Lib.hid (C12.out.of (m := cdl c) (by rw [hm1.out]))
        go_upto_region 15 with fail
        have hcn := hcv.out
        have hcg := fun op x z w => cguard_at op x z c c w
        go_wp2_with (first | ((with_reducible refine cd_load ?_ ?_ (k12) ?_ c ?_ ?_); (· rfl); (· rfl); (· rfl); (· exact C12.out.blk)) | ((with_reducible refine cd_load ?_ ?_ (k11) ?_ c ?_ ?_); (· rfl); (· rfl); (· rfl); (· exact C11.out.blk)))
        go_roundg g
        case measure => omega
        case rel => exact ⟨k + 1, by omega, by go_num, T0.out, T1.out, T7.out, bel.out⟩

end Chg
namespace LawChangeOnly
open Go.ChangeShapes Go.WideShapes Go.ChangeAt Go.RowKit
open Go.ChangeMaps (open_string shut_string)

theorem own : ownKnob Try.prog.godebug = none := by kernel_rfl
theorem laidOut : laidOutB Try.prog = true := by kernel_rfl

set_option maxRecDepth 100000 in
theorem lifted (os : Os) (started : os.Started) (H : Type) (enc : TypeId × Value → H) :
    ReturnsInHanded {} Try.checked os 4 .any (Rows.changeOnlySpec.pre6 enc Try.prog Try.f4 Rows.changeOnlyRow.domain false) (Rows.changeOnlySpec.post enc Try.prog Try.f4 false true false false) := by
  refine Fr.law_lift (C := Try.checked) (tb := 4) own started (by kernel_rfl) Try.func4
    (ChangeSpec.witness6 (enc := enc) (C := Try.checked) false ⟨#[], #[.agg #[.int .u64 0, .int .i64 0, .int .i64 0, .int .i64 0, .int .i64 0, .int .u64 0, .int .u64 0, .int .u64 0, .int .i64 0, .int .i64 0, .int .i64 0, .int .i64 0, .int .i64 0, .int .i64 0, .bool false, .bool false, .bool false, .int .u64 0, .int .i64 0, .int .u64 0, .int .u64 0, .int .u64 0, .int .i64 0, .int .i64 0, .int .i64 0, .int .i64 0, .int .i64 0, .int .i64 0, .int .i64 0, .bool false, .bool false, .bool false, .bool false, .bool false, .bool false, .bool false, .bool false, .bool false, .int .i64 0, .int .i64 0, .int .i64 0, .int .i64 0, .int .i64 0, .int .i64 0, .int .i64 0, .bool false, .bool false, .bool false, .int .u64 0, .int .i64 0, .int .u64 0, .int .u64 0, .int .u64 0, .int .i64 0, .int .i64 0, .int .i64 0, .int .i64 0, .int .i64 0, .int .i64 0, .int .i64 0, .bool false, .bool false, .bool false, .bool false, .bool false, .bool false, .bool false, .bool false, .bool false, .int .i64 0, .int .i64 0, .int .i64 0, .int .i64 0, .int .i64 0, .int .i64 0, .int .i64 0, .bool false, .bool false, .bool false, .int .u64 0, .int .i64 0, .int .u64 0, .int .u64 0, .int .u64 0, .int .i64 0, .int .i64 0, .int .i64 0, .int .i64 0, .int .i64 0, .int .i64 0, .int .i64 0, .bool false, .bool false, .bool false, .bool false, .bool false, .bool false, .bool false, .bool false, .bool false, .int .i64 0, .int .i64 0, .int .i64 0, .int .i64 0, .int .i64 0, .int .i64 0, .int .i64 0, .bool false, .bool false, .bool false, .int .u64 0, .int .i64 0, .int .u64 0, .int .u64 0, .int .u64 0, .int .i64 0, .int .i64 0, .int .i64 0, .int .i64 0, .int .i64 0, .int .i64 0, .int .i64 0, .bool false, .bool false, .bool false, .bool false, .bool false, .bool false, .bool false, .bool false, .bool false, .int .i64 0, .int .i64 0, .int .i64 0, .int .i64 0, .int .i64 0, .int .i64 0, .int .i64 0, .bool false, .bool false, .bool false, .int .u64 0, .int .i64 0, .int .u64 0, .int .u64 0, .int .u64 0, .int .i64 0, .int .i64 0, .int .i64 0, .int .i64 0, .int .i64 0, .int .i64 0, .int .i64 0, .bool false, .bool false, .bool false, .bool false, .bool false, .bool false, .bool false, .bool false, .bool false, .int .i64 0, .int .i64 0, .int .i64 0, .int .i64 0, .int .i64 0, .int .i64 0, .int .i64 0, .bool false, .bool false, .bool false, .int .u64 0, .int .i64 0, .int .u64 0, .int .u64 0, .int .u64 0, .int .i64 0, .int .i64 0, .int .i64 0, .int .i64 0, .int .i64 0, .int .i64 0, .int .i64 0, .bool false, .bool false, .bool false, .bool false, .bool false, .bool false, .bool false, .bool false, .bool false, .int .i64 0, .int .i64 0, .int .i64 0, .int .i64 0, .int .i64 0, .int .i64 0, .int .i64 0, .bool false, .bool false, .bool false, .int .u64 0, .int .i64 0, .int .u64 0, .int .u64 0, .int .u64 0, .int .i64 0, .int .i64 0, .int .i64 0, .int .i64 0, .int .i64 0, .int .i64 0, .int .i64 0, .bool false, .bool false, .bool false, .bool false, .bool false, .bool false, .bool false, .bool false, .bool false, .int .i64 0, .int .i64 0, .int .i64 0, .int .i64 0, .int .i64 0, .int .i64 0, .int .i64 0, .bool false, .bool false, .bool false, .int .u64 0, .int .i64 0, .int .u64 0, .int .u64 0, .int .u64 0, .int .i64 0, .int .i64 0, .int .i64 0, .int .i64 0, .int .i64 0, .int .i64 0, .int .i64 0, .bool false, .bool false, .bool false, .bool false, .bool false, .bool false, .bool false, .bool false, .bool false, .int .i64 0, .int .i64 0, .int .i64 0, .int .i64 0, .int .i64 0, .int .i64 0, .int .i64 0], .agg #[.int .u64 0, .int .i64 0, .int .i64 0, .int .i64 0, .int .i64 0, .int .u64 0, .int .u64 0, .int .u64 0, .int .i64 0, .int .i64 0, .int .i64 0, .int .i64 0, .int .i64 0, .int .i64 0, .bool false, .bool false, .bool false, .int .u64 0, .int .i64 0, .int .u64 0, .int .u64 0, .int .u64 0, .int .i64 0, .int .i64 0, .int .i64 0, .int .i64 0, .int .i64 0, .int .i64 0, .int .i64 0, .bool false, .bool false, .bool false, .bool false, .bool false, .bool false, .bool false, .bool false, .bool false, .int .i64 0, .int .i64 0, .int .i64 0, .int .i64 0, .int .i64 0, .int .i64 0, .int .i64 0, .bool false, .bool false, .bool false, .int .u64 0, .int .i64 0, .int .u64 0, .int .u64 0, .int .u64 0, .int .i64 0, .int .i64 0, .int .i64 0, .int .i64 0, .int .i64 0, .int .i64 0, .int .i64 0, .bool false, .bool false, .bool false, .bool false, .bool false, .bool false, .bool false, .bool false, .bool false, .int .i64 0, .int .i64 0, .int .i64 0, .int .i64 0, .int .i64 0, .int .i64 0, .int .i64 0, .bool false, .bool false, .bool false, .int .u64 0, .int .i64 0, .int .u64 0, .int .u64 0, .int .u64 0, .int .i64 0, .int .i64 0, .int .i64 0, .int .i64 0, .int .i64 0, .int .i64 0, .int .i64 0, .bool false, .bool false, .bool false, .bool false, .bool false, .bool false, .bool false, .bool false, .bool false, .int .i64 0, .int .i64 0, .int .i64 0, .int .i64 0, .int .i64 0, .int .i64 0, .int .i64 0, .bool false, .bool false, .bool false, .int .u64 0, .int .i64 0, .int .u64 0, .int .u64 0, .int .u64 0, .int .i64 0, .int .i64 0, .int .i64 0, .int .i64 0, .int .i64 0, .int .i64 0, .int .i64 0, .bool false, .bool false, .bool false, .bool false, .bool false, .bool false, .bool false, .bool false, .bool false, .int .i64 0, .int .i64 0, .int .i64 0, .int .i64 0, .int .i64 0, .int .i64 0, .int .i64 0, .bool false, .bool false, .bool false, .int .u64 0, .int .i64 0, .int .u64 0, .int .u64 0, .int .u64 0, .int .i64 0, .int .i64 0, .int .i64 0, .int .i64 0, .int .i64 0, .int .i64 0, .int .i64 0, .bool false, .bool false, .bool false, .bool false, .bool false, .bool false, .bool false, .bool false, .bool false, .int .i64 0, .int .i64 0, .int .i64 0, .int .i64 0, .int .i64 0, .int .i64 0, .int .i64 0, .bool false, .bool false, .bool false, .int .u64 0, .int .i64 0, .int .u64 0, .int .u64 0, .int .u64 0, .int .i64 0, .int .i64 0, .int .i64 0, .int .i64 0, .int .i64 0, .int .i64 0, .int .i64 0, .bool false, .bool false, .bool false, .bool false, .bool false, .bool false, .bool false, .bool false, .bool false, .int .i64 0, .int .i64 0, .int .i64 0, .int .i64 0, .int .i64 0, .int .i64 0, .int .i64 0, .bool false, .bool false, .bool false, .int .u64 0, .int .i64 0, .int .u64 0, .int .u64 0, .int .u64 0, .int .i64 0, .int .i64 0, .int .i64 0, .int .i64 0, .int .i64 0, .int .i64 0, .int .i64 0, .bool false, .bool false, .bool false, .bool false, .bool false, .bool false, .bool false, .bool false, .bool false, .int .i64 0, .int .i64 0, .int .i64 0, .int .i64 0, .int .i64 0, .int .i64 0, .int .i64 0, .bool false, .bool false, .bool false, .int .u64 0, .int .i64 0, .int .u64 0, .int .u64 0, .int .u64 0, .int .i64 0, .int .i64 0, .int .i64 0, .int .i64 0, .int .i64 0, .int .i64 0, .int .i64 0, .bool false, .bool false, .bool false, .bool false, .bool false, .bool false, .bool false, .bool false, .bool false, .int .i64 0, .int .i64 0, .int .i64 0, .int .i64 0, .int .i64 0, .int .i64 0, .int .i64 0]], []⟩ 8 (by kernel_rfl) (by kernel_rfl) (by kernel_rfl) (by kernel_rfl))
    laidOut (by rw [Try.params4]; decide +kernel) rfl Try.underlying4 rfl ?_ ?_
  · intro ds hl
    match ds, hl with
    | [d0, d1], _ => rfl
  · intro W base args ds p hval hA
    rw [Try.params4] at hA hval
    obtain ⟨v0, vs0, d0, ds0, p0, q0, hargs, rfl, rfl, h0, r0⟩ := trodAll_cons hA
    obtain ⟨v1, vs1, d1, ds1, p1, q1, rfl, rfl, rfl, h1, r1⟩ := trodAll_cons r0
    obtain ⟨rfl, rfl, rfl⟩ := trodAll_nil r1
    obtain rfl : args = #[v0, v1] := by cases args; simp_all
    obtain ⟨x0, rfl⟩ := Tre.open_td (hval 0 31 v0 rfl rfl) h0
    obtain ⟨x1, rfl⟩ := Tre.open_td (hval 1 31 v1 rfl rfl) h1
    exact Chg.walk_only W x0 x1

theorem over : Rows.changeOnlyRow.holds Try.pinned (OpenSpec.ofChange Rows.changeOnlySpec) :=
  OpenClaim.holds_of_wide 4 Try.f4 rfl rfl rfl rfl rfl rfl rfl ⟨rfl, rfl, rfl, rfl, rfl⟩ rfl rfl rfl rfl rfl (by kernel_rfl) Try.func4 (by kernel_rfl)
    (of_decide_eq_true (by kernel_rfl)) (by unfold Func.isWrapper; first | (rw [if_pos (by decide +kernel)]; kernel_rfl) | (rw [if_neg (by decide +kernel)]; exact ⟨rfl, rfl⟩))
    (fun os started H enc _ => lifted os started H enc)
end LawChangeOnly

/-- The statement ChangeOnly. -/
theorem changeOnly_holds : Rows.ChangeOnlySaid := LawChangeOnly.over

end Go.Proofs.Ytkjdnmlaehjmgaa
