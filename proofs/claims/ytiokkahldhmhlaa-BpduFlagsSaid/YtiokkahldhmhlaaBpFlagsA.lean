/-
  The law BpduFlags, way by way.
-/
import Derived.Test.YtiokkahldhmhlaaBpL
import Derived.Test.YtiokkahldhmhlaaBpOpen
import Derived.Test.YtiokkahldhmhlaaRows
namespace Go.Proofs.Ytiokkahldhmhlaa
open Go.RowKit
namespace Bpd
open Oct Mac Eth Epl

theorem bitsN_two (l : List Bool) (p : Nat) : bitsN l (2 * p) = 2 * bitsN l p := by
  induction l generalizing p with
  | nil => rfl
  | cons x l ih =>
    simp only [bitsN, ih]
    split <;> omega

theorem bitsN_inj : ∀ (l m : List Bool), l.length = m.length → bitsN l 1 = bitsN m 1 → l = m
  | [], [], _, _ => rfl
  | [], _ :: _, h, _ => by simp at h
  | _ :: _, [], h, _ => by simp at h
  | x :: l, y :: m, h, e => by
    have hl := bitsN_two l 1
    have hm := bitsN_two m 1
    simp only [bitsN] at e
    rw [hl, hm] at e
    have hx : x = y := by
      cases x <;> cases y <;> simp at e ⊢ <;> omega
    subst hx
    rw [bitsN_inj l m (by simpa using h) (by omega)]

theorem flag_inj {a b : Bp} (h : flagN a = flagN b) : a.ch = b.ch ∧ a.pr = b.pr ∧ a.ro % 4 = b.ro % 4 ∧ a.le = b.le ∧ a.fo = b.fo ∧ a.ag = b.ag ∧ a.ac = b.ac := by
  have e := bitsN_inj (flagL a) (flagL b) rfl h
  simp only [flagL, List.cons.injEq, and_true] at e
  obtain ⟨h0, h1, h2, h3, h4, h5, h6, h7⟩ := e
  simp only [lowB, highB, decide_eq_decide] at h2 h3
  exact ⟨h0, h1, by omega, h4, h5, h6, h7⟩

theorem flag_same {a b : Bp} (h0 : a.ch = b.ch) (h1 : a.pr = b.pr) (h2 : a.ro % 4 = b.ro % 4) (h4 : a.le = b.le) (h5 : a.fo = b.fo) (h6 : a.ag = b.ag) (h7 : a.ac = b.ac) : flagN a = flagN b := by
  have l : lowB a.ro = lowB b.ro := by unfold lowB; rw [decide_eq_decide]; omega
  have g : highB a.ro = highB b.ro := by unfold highB; rw [decide_eq_decide]; omega
  unfold flagN flagL
  rw [h0, h1, l, g, h4, h5, h6, h7]

set_option maxRecDepth 100000 in
set_option maxHeartbeats 2000000 in
theorem flags_0 (a b : Bp) (F G : Nat) (w : World) (hF : F < 256) (hFG : ((F : Int) == (G : Int)) = false)  (h0 : (a.ch == b.ch) = false)
    (HF : Hid (∀ w, Calls Try.prog 17 #[bp a] w fun e w' => e = .returned (.int .i64 F) ∧ Below w.heap.size w w'))
    (HG : Hid (∀ w, Calls Try.prog 17 #[bp b] w fun e w' => e = .returned (.int .i64 G) ∧ Below w.heap.size w w')) :
    Calls Try.prog 5 #[bp a, bp b] w fun e w' => e = .returned (.bool true) ∧ Below w.heap.size w w' := by
  have bel := Bx.bel_refl w
  have B0 := Lib.hid (Bx.Blk.new w (bpl a) 26)
  replace bel := Bx.bel_box bel (Obj.cells (bpl a).toArray 26)
  have c0_1 := B0.out.at 1 rfl
  have c0_2 := B0.out.at 2 rfl
  have c0_3 := B0.out.at 3 rfl
  have c0_4 := B0.out.at 4 rfl
  have c0_5 := B0.out.at 5 rfl
  have c0_6 := B0.out.at 6 rfl
  have c0_7 := B0.out.at 7 rfl
  replace B0 := Lib.hid (B0.out.more (Obj.cells (bpl b).toArray 26))
  have B1 := Lib.hid (Bx.Blk.new_at (W := (w.alloc (Obj.cells (bpl a).toArray 26))) (k := w.heap.size + 1) (bpl b) 26 (by simp))
  replace bel := Bx.bel_box bel (Obj.cells (bpl b).toArray 26)
  clear c0_1 c0_2 c0_3 c0_4 c0_5 c0_6 c0_7
  have c0_1 := B0.out.at 1 rfl
  have c0_2 := B0.out.at 2 rfl
  have c0_3 := B0.out.at 3 rfl
  have c0_4 := B0.out.at 4 rfl
  have c0_5 := B0.out.at 5 rfl
  have c0_6 := B0.out.at 6 rfl
  have c0_7 := B0.out.at 7 rfl
  have c1_1 := B1.out.at 1 rfl
  have c1_2 := B1.out.at 2 rfl
  have c1_3 := B1.out.at 3 rfl
  have c1_4 := B1.out.at 4 rfl
  have c1_5 := B1.out.at 5 rfl
  have c1_6 := B1.out.at 6 rfl
  have c1_7 := B1.out.at 7 rfl
  go_enter Try.func5, Try.ntmps5
  go_wp2_with (first | ((with_reducible refine load_at ?_ ?_ (w.heap.size) ?_ a ?_ ?_); (· rfl); (· rfl); (· rfl); (· exact B0.out)) | ((with_reducible refine load_at ?_ ?_ (w.heap.size + 1) ?_ b ?_ ?_); (· rfl); (· rfl); (· rfl); (· exact B1.out)))
  generalize (w.alloc (Obj.cells (bpl a).toArray 26)).alloc (Obj.cells (bpl b).toArray 26) = W0 at *
  clear c0_1 c0_2 c0_3 c0_4 c0_5 c0_6 c0_7 c1_1 c1_2 c1_3 c1_4 c1_5 c1_6 c1_7
  refine wp_region_noPanic ?_
  refine wp_region_held_drew (S := fun w' => Bx.Blk w' w.heap.size (bpl a) ∧ Bx.Blk w' (w.heap.size + 1) (bpl b)) (by kernel_rfl) (by exact ⟨B0.out, B1.out⟩) (fun hHeld => ?_)
  replace bel := Bx.bel_drewn bel
  refine wpAnyH_take (i := 0) (oi := ?o0_1) (v := bp a) ?hi0_1 (by kernel_rfl) (by kernel_rfl) (by kernel_rfl) (fun _ _ _ h => h) ?y0_1 (by assumption) ?r0_1
  case hi0_1 => (simp only [List.getElem?_toArray]; rfl)
  case y0_1 => (refine yields_bp rfl _ rfl (w.heap.size) rfl a ?_; intro w' hS; exact hS.1)
  try simp only [Act.put, List.setIfInBounds_toArray, List.set_cons_zero, List.set_cons_succ]
  refine wpAnyH_take (i := 2) (oi := ?o2_2) (v := bp b) ?hi2_2 (by kernel_rfl) (by kernel_rfl) (by kernel_rfl) (fun _ _ _ h => h) ?y2_2 (by assumption) ?r2_2
  case hi2_2 => (simp only [List.getElem?_toArray, List.getElem?_cons_succ]; rfl)
  case y2_2 => (refine yields_bp rfl _ rfl (w.heap.size + 1) rfl b ?_; intro w' hS; exact hS.2)
  try simp only [Act.put, List.setIfInBounds_toArray, List.set_cons_zero, List.set_cons_succ]
  refine wpAnyH_ready (rs := [1]) (by kernel_rfl) (by simp) ?_
  refine AllReadyH.cons (o := ?o1_3) ?hi1_3 ?hst1_3 AllReadyH.nil
  case hi1_3 => (simp only [List.getElem?_toArray, List.getElem?_cons_succ]; rfl)
  intro K hK
  go_simp
  (go_at_call 17; (with_reducible refine (HF.out _).mono ?_); rintro e w1 ⟨rfl, hb1⟩)
  go_wp2_with fail
  refine hK.out _ _ ⟨Bx.Blk.keep hHeld.1 hb1, Bx.Blk.keep hHeld.2 hb1⟩ (fun hNew => ?_)
  clear hHeld
  have hHeld := hNew
  clear hNew hK K
  replace bel := Bx.then_below bel hb1
  refine wpAnyH_ready (rs := [3]) (by kernel_rfl) (by simp) ?_
  refine AllReadyH.cons (o := ?o3_4) ?hi3_4 ?hst3_4 AllReadyH.nil
  case hi3_4 => (simp only [List.getElem?_toArray, List.getElem?_cons_succ]; rfl)
  intro K hK
  go_simp
  (go_at_call 17; (with_reducible refine (HG.out _).mono ?_); rintro e w2 ⟨rfl, hb2⟩)
  go_wp2_with fail
  refine hK.out _ _ ⟨Bx.Blk.keep hHeld.1 hb2, Bx.Blk.keep hHeld.2 hb2⟩ (fun hNew => ?_)
  clear hHeld
  have hHeld := hNew
  clear hNew hK K
  replace bel := Bx.then_below bel hb2
  refine wpAnyH_take (i := 4) (oi := ?o4_5) (v := ?v4_5) ?hi4_5 (by kernel_rfl) (by kernel_rfl) (by kernel_rfl) (fun _ _ _ h => h) ?y4_5 (by assumption) ?r4_5
  case hi4_5 => (simp only [List.getElem?_toArray, List.getElem?_cons_succ]; rfl)
  case y4_5 => (refine Or.inl ⟨by rfl, ?_⟩; intro w' hSw; (try dsimp only at hSw); go_simp; (try with_reducible rfl))
  try simp only [Act.put, List.setIfInBounds_toArray, List.set_cons_zero, List.set_cons_succ]
  refine wpAnyH_take (i := 5) (oi := ?o5_6) (v := ?v5_6) ?hi5_6 (by kernel_rfl) (by kernel_rfl) (by kernel_rfl) (fun _ _ _ h => h) ?y5_6 (by assumption) ?r5_6
  case hi5_6 => (simp only [List.getElem?_toArray, List.getElem?_cons_succ]; rfl)
  case y5_6 => (refine Or.inl ⟨by rfl, ?_⟩; intro w' hSw; (try dsimp only at hSw); go_simp; (try with_reducible rfl))
  try simp only [Act.put, List.setIfInBounds_toArray, List.set_cons_zero, List.set_cons_succ]
  refine wpAnyH_done (by kernel_rfl) ?_ _
  refine NoPanic.normal ?_
  clear hHeld B0 B1
  go_wp2_with fail
  refine (awake_any _).mono ?_; rintro e w9 ⟨rfl, hb9⟩
  go_wp2_with fail
  go_ret
  exact ⟨rfl, Bx.then_below bel hb9⟩

set_option maxRecDepth 100000 in
set_option maxHeartbeats 2000000 in
theorem flags_1 (a b : Bp) (F G : Nat) (w : World) (hF : F < 256) (hFG : ((F : Int) == (G : Int)) = false) (h0 : (a.ch == b.ch) = true) (h1 : (a.pr == b.pr) = false)
    (HF : Hid (∀ w, Calls Try.prog 17 #[bp a] w fun e w' => e = .returned (.int .i64 F) ∧ Below w.heap.size w w'))
    (HG : Hid (∀ w, Calls Try.prog 17 #[bp b] w fun e w' => e = .returned (.int .i64 G) ∧ Below w.heap.size w w')) :
    Calls Try.prog 5 #[bp a, bp b] w fun e w' => e = .returned (.bool true) ∧ Below w.heap.size w w' := by
  have bel := Bx.bel_refl w
  have B0 := Lib.hid (Bx.Blk.new w (bpl a) 26)
  replace bel := Bx.bel_box bel (Obj.cells (bpl a).toArray 26)
  have c0_1 := B0.out.at 1 rfl
  have c0_2 := B0.out.at 2 rfl
  have c0_3 := B0.out.at 3 rfl
  have c0_4 := B0.out.at 4 rfl
  have c0_5 := B0.out.at 5 rfl
  have c0_6 := B0.out.at 6 rfl
  have c0_7 := B0.out.at 7 rfl
  replace B0 := Lib.hid (B0.out.more (Obj.cells (bpl b).toArray 26))
  have B1 := Lib.hid (Bx.Blk.new_at (W := (w.alloc (Obj.cells (bpl a).toArray 26))) (k := w.heap.size + 1) (bpl b) 26 (by simp))
  replace bel := Bx.bel_box bel (Obj.cells (bpl b).toArray 26)
  clear c0_1 c0_2 c0_3 c0_4 c0_5 c0_6 c0_7
  have c0_1 := B0.out.at 1 rfl
  have c0_2 := B0.out.at 2 rfl
  have c0_3 := B0.out.at 3 rfl
  have c0_4 := B0.out.at 4 rfl
  have c0_5 := B0.out.at 5 rfl
  have c0_6 := B0.out.at 6 rfl
  have c0_7 := B0.out.at 7 rfl
  have c1_1 := B1.out.at 1 rfl
  have c1_2 := B1.out.at 2 rfl
  have c1_3 := B1.out.at 3 rfl
  have c1_4 := B1.out.at 4 rfl
  have c1_5 := B1.out.at 5 rfl
  have c1_6 := B1.out.at 6 rfl
  have c1_7 := B1.out.at 7 rfl
  go_enter Try.func5, Try.ntmps5
  go_wp2_with (first | ((with_reducible refine load_at ?_ ?_ (w.heap.size) ?_ a ?_ ?_); (· rfl); (· rfl); (· rfl); (· exact B0.out)) | ((with_reducible refine load_at ?_ ?_ (w.heap.size + 1) ?_ b ?_ ?_); (· rfl); (· rfl); (· rfl); (· exact B1.out)))
  generalize (w.alloc (Obj.cells (bpl a).toArray 26)).alloc (Obj.cells (bpl b).toArray 26) = W0 at *
  clear c0_1 c0_2 c0_3 c0_4 c0_5 c0_6 c0_7 c1_1 c1_2 c1_3 c1_4 c1_5 c1_6 c1_7
  refine wp_region_noPanic ?_
  refine wp_region_held_drew (S := fun w' => Bx.Blk w' w.heap.size (bpl a) ∧ Bx.Blk w' (w.heap.size + 1) (bpl b)) (by kernel_rfl) (by exact ⟨B0.out, B1.out⟩) (fun hHeld => ?_)
  replace bel := Bx.bel_drewn bel
  refine wpAnyH_take (i := 0) (oi := ?o0_7) (v := bp a) ?hi0_7 (by kernel_rfl) (by kernel_rfl) (by kernel_rfl) (fun _ _ _ h => h) ?y0_7 (by assumption) ?r0_7
  case hi0_7 => (simp only [List.getElem?_toArray]; rfl)
  case y0_7 => (refine yields_bp rfl _ rfl (w.heap.size) rfl a ?_; intro w' hS; exact hS.1)
  try simp only [Act.put, List.setIfInBounds_toArray, List.set_cons_zero, List.set_cons_succ]
  refine wpAnyH_take (i := 2) (oi := ?o2_8) (v := bp b) ?hi2_8 (by kernel_rfl) (by kernel_rfl) (by kernel_rfl) (fun _ _ _ h => h) ?y2_8 (by assumption) ?r2_8
  case hi2_8 => (simp only [List.getElem?_toArray, List.getElem?_cons_succ]; rfl)
  case y2_8 => (refine yields_bp rfl _ rfl (w.heap.size + 1) rfl b ?_; intro w' hS; exact hS.2)
  try simp only [Act.put, List.setIfInBounds_toArray, List.set_cons_zero, List.set_cons_succ]
  refine wpAnyH_ready (rs := [1]) (by kernel_rfl) (by simp) ?_
  refine AllReadyH.cons (o := ?o1_9) ?hi1_9 ?hst1_9 AllReadyH.nil
  case hi1_9 => (simp only [List.getElem?_toArray, List.getElem?_cons_succ]; rfl)
  intro K hK
  go_simp
  (go_at_call 17; (with_reducible refine (HF.out _).mono ?_); rintro e w1 ⟨rfl, hb1⟩)
  go_wp2_with fail
  refine hK.out _ _ ⟨Bx.Blk.keep hHeld.1 hb1, Bx.Blk.keep hHeld.2 hb1⟩ (fun hNew => ?_)
  clear hHeld
  have hHeld := hNew
  clear hNew hK K
  replace bel := Bx.then_below bel hb1
  refine wpAnyH_ready (rs := [3]) (by kernel_rfl) (by simp) ?_
  refine AllReadyH.cons (o := ?o3_10) ?hi3_10 ?hst3_10 AllReadyH.nil
  case hi3_10 => (simp only [List.getElem?_toArray, List.getElem?_cons_succ]; rfl)
  intro K hK
  go_simp
  (go_at_call 17; (with_reducible refine (HG.out _).mono ?_); rintro e w2 ⟨rfl, hb2⟩)
  go_wp2_with fail
  refine hK.out _ _ ⟨Bx.Blk.keep hHeld.1 hb2, Bx.Blk.keep hHeld.2 hb2⟩ (fun hNew => ?_)
  clear hHeld
  have hHeld := hNew
  clear hNew hK K
  replace bel := Bx.then_below bel hb2
  refine wpAnyH_take (i := 4) (oi := ?o4_11) (v := ?v4_11) ?hi4_11 (by kernel_rfl) (by kernel_rfl) (by kernel_rfl) (fun _ _ _ h => h) ?y4_11 (by assumption) ?r4_11
  case hi4_11 => (simp only [List.getElem?_toArray, List.getElem?_cons_succ]; rfl)
  case y4_11 => (refine Or.inl ⟨by rfl, ?_⟩; intro w' hSw; (try dsimp only at hSw); go_simp; (try with_reducible rfl))
  try simp only [Act.put, List.setIfInBounds_toArray, List.set_cons_zero, List.set_cons_succ]
  refine wpAnyH_take (i := 5) (oi := ?o5_12) (v := ?v5_12) ?hi5_12 (by kernel_rfl) (by kernel_rfl) (by kernel_rfl) (fun _ _ _ h => h) ?y5_12 (by assumption) ?r5_12
  case hi5_12 => (simp only [List.getElem?_toArray, List.getElem?_cons_succ]; rfl)
  case y5_12 => (refine Or.inl ⟨by rfl, ?_⟩; intro w' hSw; (try dsimp only at hSw); go_simp; (try with_reducible rfl))
  try simp only [Act.put, List.setIfInBounds_toArray, List.set_cons_zero, List.set_cons_succ]
  refine wpAnyH_done (by kernel_rfl) ?_ _
  refine NoPanic.normal ?_
  clear hHeld B0 B1
  go_wp2_with fail
  refine (awake_any _).mono ?_; rintro e w9 ⟨rfl, hb9⟩
  go_wp2_with fail
  go_ret
  exact ⟨rfl, Bx.then_below bel hb9⟩

set_option maxRecDepth 100000 in
set_option maxHeartbeats 2000000 in
theorem flags_2 (a b : Bp) (F G : Nat) (w : World) (hF : F < 256) (hFG : ((F : Int) == (G : Int)) = false) (h0 : (a.ch == b.ch) = true) (h1 : (a.pr == b.pr) = true) (h2 : (bits BinOp.and IntKind.i64 a.ro 3 == bits BinOp.and IntKind.i64 b.ro 3) = false)
    (HF : Hid (∀ w, Calls Try.prog 17 #[bp a] w fun e w' => e = .returned (.int .i64 F) ∧ Below w.heap.size w w'))
    (HG : Hid (∀ w, Calls Try.prog 17 #[bp b] w fun e w' => e = .returned (.int .i64 G) ∧ Below w.heap.size w w')) :
    Calls Try.prog 5 #[bp a, bp b] w fun e w' => e = .returned (.bool true) ∧ Below w.heap.size w w' := by
  have bel := Bx.bel_refl w
  have B0 := Lib.hid (Bx.Blk.new w (bpl a) 26)
  replace bel := Bx.bel_box bel (Obj.cells (bpl a).toArray 26)
  have c0_1 := B0.out.at 1 rfl
  have c0_2 := B0.out.at 2 rfl
  have c0_3 := B0.out.at 3 rfl
  have c0_4 := B0.out.at 4 rfl
  have c0_5 := B0.out.at 5 rfl
  have c0_6 := B0.out.at 6 rfl
  have c0_7 := B0.out.at 7 rfl
  replace B0 := Lib.hid (B0.out.more (Obj.cells (bpl b).toArray 26))
  have B1 := Lib.hid (Bx.Blk.new_at (W := (w.alloc (Obj.cells (bpl a).toArray 26))) (k := w.heap.size + 1) (bpl b) 26 (by simp))
  replace bel := Bx.bel_box bel (Obj.cells (bpl b).toArray 26)
  clear c0_1 c0_2 c0_3 c0_4 c0_5 c0_6 c0_7
  have c0_1 := B0.out.at 1 rfl
  have c0_2 := B0.out.at 2 rfl
  have c0_3 := B0.out.at 3 rfl
  have c0_4 := B0.out.at 4 rfl
  have c0_5 := B0.out.at 5 rfl
  have c0_6 := B0.out.at 6 rfl
  have c0_7 := B0.out.at 7 rfl
  have c1_1 := B1.out.at 1 rfl
  have c1_2 := B1.out.at 2 rfl
  have c1_3 := B1.out.at 3 rfl
  have c1_4 := B1.out.at 4 rfl
  have c1_5 := B1.out.at 5 rfl
  have c1_6 := B1.out.at 6 rfl
  have c1_7 := B1.out.at 7 rfl
  go_enter Try.func5, Try.ntmps5
  go_wp2_with (first | ((with_reducible refine load_at ?_ ?_ (w.heap.size) ?_ a ?_ ?_); (· rfl); (· rfl); (· rfl); (· exact B0.out)) | ((with_reducible refine load_at ?_ ?_ (w.heap.size + 1) ?_ b ?_ ?_); (· rfl); (· rfl); (· rfl); (· exact B1.out)))
  generalize (w.alloc (Obj.cells (bpl a).toArray 26)).alloc (Obj.cells (bpl b).toArray 26) = W0 at *
  clear c0_1 c0_2 c0_3 c0_4 c0_5 c0_6 c0_7 c1_1 c1_2 c1_3 c1_4 c1_5 c1_6 c1_7
  refine wp_region_noPanic ?_
  refine wp_region_held_drew (S := fun w' => Bx.Blk w' w.heap.size (bpl a) ∧ Bx.Blk w' (w.heap.size + 1) (bpl b)) (by kernel_rfl) (by exact ⟨B0.out, B1.out⟩) (fun hHeld => ?_)
  replace bel := Bx.bel_drewn bel
  refine wpAnyH_take (i := 0) (oi := ?o0_13) (v := bp a) ?hi0_13 (by kernel_rfl) (by kernel_rfl) (by kernel_rfl) (fun _ _ _ h => h) ?y0_13 (by assumption) ?r0_13
  case hi0_13 => (simp only [List.getElem?_toArray]; rfl)
  case y0_13 => (refine yields_bp rfl _ rfl (w.heap.size) rfl a ?_; intro w' hS; exact hS.1)
  try simp only [Act.put, List.setIfInBounds_toArray, List.set_cons_zero, List.set_cons_succ]
  refine wpAnyH_take (i := 2) (oi := ?o2_14) (v := bp b) ?hi2_14 (by kernel_rfl) (by kernel_rfl) (by kernel_rfl) (fun _ _ _ h => h) ?y2_14 (by assumption) ?r2_14
  case hi2_14 => (simp only [List.getElem?_toArray, List.getElem?_cons_succ]; rfl)
  case y2_14 => (refine yields_bp rfl _ rfl (w.heap.size + 1) rfl b ?_; intro w' hS; exact hS.2)
  try simp only [Act.put, List.setIfInBounds_toArray, List.set_cons_zero, List.set_cons_succ]
  refine wpAnyH_ready (rs := [1]) (by kernel_rfl) (by simp) ?_
  refine AllReadyH.cons (o := ?o1_15) ?hi1_15 ?hst1_15 AllReadyH.nil
  case hi1_15 => (simp only [List.getElem?_toArray, List.getElem?_cons_succ]; rfl)
  intro K hK
  go_simp
  (go_at_call 17; (with_reducible refine (HF.out _).mono ?_); rintro e w1 ⟨rfl, hb1⟩)
  go_wp2_with fail
  refine hK.out _ _ ⟨Bx.Blk.keep hHeld.1 hb1, Bx.Blk.keep hHeld.2 hb1⟩ (fun hNew => ?_)
  clear hHeld
  have hHeld := hNew
  clear hNew hK K
  replace bel := Bx.then_below bel hb1
  refine wpAnyH_ready (rs := [3]) (by kernel_rfl) (by simp) ?_
  refine AllReadyH.cons (o := ?o3_16) ?hi3_16 ?hst3_16 AllReadyH.nil
  case hi3_16 => (simp only [List.getElem?_toArray, List.getElem?_cons_succ]; rfl)
  intro K hK
  go_simp
  (go_at_call 17; (with_reducible refine (HG.out _).mono ?_); rintro e w2 ⟨rfl, hb2⟩)
  go_wp2_with fail
  refine hK.out _ _ ⟨Bx.Blk.keep hHeld.1 hb2, Bx.Blk.keep hHeld.2 hb2⟩ (fun hNew => ?_)
  clear hHeld
  have hHeld := hNew
  clear hNew hK K
  replace bel := Bx.then_below bel hb2
  refine wpAnyH_take (i := 4) (oi := ?o4_17) (v := ?v4_17) ?hi4_17 (by kernel_rfl) (by kernel_rfl) (by kernel_rfl) (fun _ _ _ h => h) ?y4_17 (by assumption) ?r4_17
  case hi4_17 => (simp only [List.getElem?_toArray, List.getElem?_cons_succ]; rfl)
  case y4_17 => (refine Or.inl ⟨by rfl, ?_⟩; intro w' hSw; (try dsimp only at hSw); go_simp; (try with_reducible rfl))
  try simp only [Act.put, List.setIfInBounds_toArray, List.set_cons_zero, List.set_cons_succ]
  refine wpAnyH_take (i := 5) (oi := ?o5_18) (v := ?v5_18) ?hi5_18 (by kernel_rfl) (by kernel_rfl) (by kernel_rfl) (fun _ _ _ h => h) ?y5_18 (by assumption) ?r5_18
  case hi5_18 => (simp only [List.getElem?_toArray, List.getElem?_cons_succ]; rfl)
  case y5_18 => (refine Or.inl ⟨by rfl, ?_⟩; intro w' hSw; (try dsimp only at hSw); go_simp; (try with_reducible rfl))
  try simp only [Act.put, List.setIfInBounds_toArray, List.set_cons_zero, List.set_cons_succ]
  refine wpAnyH_done (by kernel_rfl) ?_ _
  refine NoPanic.normal ?_
  clear hHeld B0 B1
  go_wp2_with fail
  refine (awake_any _).mono ?_; rintro e w9 ⟨rfl, hb9⟩
  go_wp2_with fail
  go_ret
  exact ⟨rfl, Bx.then_below bel hb9⟩

set_option maxRecDepth 100000 in
set_option maxHeartbeats 2000000 in
theorem flags_3 (a b : Bp) (F G : Nat) (w : World) (hF : F < 256) (hFG : ((F : Int) == (G : Int)) = false) (h0 : (a.ch == b.ch) = true) (h1 : (a.pr == b.pr) = true) (h2 : (bits BinOp.and IntKind.i64 a.ro 3 == bits BinOp.and IntKind.i64 b.ro 3) = true) (h3 : (a.le == b.le) = false)
    (HF : Hid (∀ w, Calls Try.prog 17 #[bp a] w fun e w' => e = .returned (.int .i64 F) ∧ Below w.heap.size w w'))
    (HG : Hid (∀ w, Calls Try.prog 17 #[bp b] w fun e w' => e = .returned (.int .i64 G) ∧ Below w.heap.size w w')) :
    Calls Try.prog 5 #[bp a, bp b] w fun e w' => e = .returned (.bool true) ∧ Below w.heap.size w w' := by
  have bel := Bx.bel_refl w
  have B0 := Lib.hid (Bx.Blk.new w (bpl a) 26)
  replace bel := Bx.bel_box bel (Obj.cells (bpl a).toArray 26)
  have c0_1 := B0.out.at 1 rfl
  have c0_2 := B0.out.at 2 rfl
  have c0_3 := B0.out.at 3 rfl
  have c0_4 := B0.out.at 4 rfl
  have c0_5 := B0.out.at 5 rfl
  have c0_6 := B0.out.at 6 rfl
  have c0_7 := B0.out.at 7 rfl
  replace B0 := Lib.hid (B0.out.more (Obj.cells (bpl b).toArray 26))
  have B1 := Lib.hid (Bx.Blk.new_at (W := (w.alloc (Obj.cells (bpl a).toArray 26))) (k := w.heap.size + 1) (bpl b) 26 (by simp))
  replace bel := Bx.bel_box bel (Obj.cells (bpl b).toArray 26)
  clear c0_1 c0_2 c0_3 c0_4 c0_5 c0_6 c0_7
  have c0_1 := B0.out.at 1 rfl
  have c0_2 := B0.out.at 2 rfl
  have c0_3 := B0.out.at 3 rfl
  have c0_4 := B0.out.at 4 rfl
  have c0_5 := B0.out.at 5 rfl
  have c0_6 := B0.out.at 6 rfl
  have c0_7 := B0.out.at 7 rfl
  have c1_1 := B1.out.at 1 rfl
  have c1_2 := B1.out.at 2 rfl
  have c1_3 := B1.out.at 3 rfl
  have c1_4 := B1.out.at 4 rfl
  have c1_5 := B1.out.at 5 rfl
  have c1_6 := B1.out.at 6 rfl
  have c1_7 := B1.out.at 7 rfl
  go_enter Try.func5, Try.ntmps5
  go_wp2_with (first | ((with_reducible refine load_at ?_ ?_ (w.heap.size) ?_ a ?_ ?_); (· rfl); (· rfl); (· rfl); (· exact B0.out)) | ((with_reducible refine load_at ?_ ?_ (w.heap.size + 1) ?_ b ?_ ?_); (· rfl); (· rfl); (· rfl); (· exact B1.out)))
  generalize (w.alloc (Obj.cells (bpl a).toArray 26)).alloc (Obj.cells (bpl b).toArray 26) = W0 at *
  clear c0_1 c0_2 c0_3 c0_4 c0_5 c0_6 c0_7 c1_1 c1_2 c1_3 c1_4 c1_5 c1_6 c1_7
  refine wp_region_noPanic ?_
  refine wp_region_held_drew (S := fun w' => Bx.Blk w' w.heap.size (bpl a) ∧ Bx.Blk w' (w.heap.size + 1) (bpl b)) (by kernel_rfl) (by exact ⟨B0.out, B1.out⟩) (fun hHeld => ?_)
  replace bel := Bx.bel_drewn bel
  refine wpAnyH_take (i := 0) (oi := ?o0_19) (v := bp a) ?hi0_19 (by kernel_rfl) (by kernel_rfl) (by kernel_rfl) (fun _ _ _ h => h) ?y0_19 (by assumption) ?r0_19
  case hi0_19 => (simp only [List.getElem?_toArray]; rfl)
  case y0_19 => (refine yields_bp rfl _ rfl (w.heap.size) rfl a ?_; intro w' hS; exact hS.1)
  try simp only [Act.put, List.setIfInBounds_toArray, List.set_cons_zero, List.set_cons_succ]
  refine wpAnyH_take (i := 2) (oi := ?o2_20) (v := bp b) ?hi2_20 (by kernel_rfl) (by kernel_rfl) (by kernel_rfl) (fun _ _ _ h => h) ?y2_20 (by assumption) ?r2_20
  case hi2_20 => (simp only [List.getElem?_toArray, List.getElem?_cons_succ]; rfl)
  case y2_20 => (refine yields_bp rfl _ rfl (w.heap.size + 1) rfl b ?_; intro w' hS; exact hS.2)
  try simp only [Act.put, List.setIfInBounds_toArray, List.set_cons_zero, List.set_cons_succ]
  refine wpAnyH_ready (rs := [1]) (by kernel_rfl) (by simp) ?_
  refine AllReadyH.cons (o := ?o1_21) ?hi1_21 ?hst1_21 AllReadyH.nil
  case hi1_21 => (simp only [List.getElem?_toArray, List.getElem?_cons_succ]; rfl)
  intro K hK
  go_simp
  (go_at_call 17; (with_reducible refine (HF.out _).mono ?_); rintro e w1 ⟨rfl, hb1⟩)
  go_wp2_with fail
  refine hK.out _ _ ⟨Bx.Blk.keep hHeld.1 hb1, Bx.Blk.keep hHeld.2 hb1⟩ (fun hNew => ?_)
  clear hHeld
  have hHeld := hNew
  clear hNew hK K
  replace bel := Bx.then_below bel hb1
  refine wpAnyH_ready (rs := [3]) (by kernel_rfl) (by simp) ?_
  refine AllReadyH.cons (o := ?o3_22) ?hi3_22 ?hst3_22 AllReadyH.nil
  case hi3_22 => (simp only [List.getElem?_toArray, List.getElem?_cons_succ]; rfl)
  intro K hK
  go_simp
  (go_at_call 17; (with_reducible refine (HG.out _).mono ?_); rintro e w2 ⟨rfl, hb2⟩)
  go_wp2_with fail
  refine hK.out _ _ ⟨Bx.Blk.keep hHeld.1 hb2, Bx.Blk.keep hHeld.2 hb2⟩ (fun hNew => ?_)
  clear hHeld
  have hHeld := hNew
  clear hNew hK K
  replace bel := Bx.then_below bel hb2
  refine wpAnyH_take (i := 4) (oi := ?o4_23) (v := ?v4_23) ?hi4_23 (by kernel_rfl) (by kernel_rfl) (by kernel_rfl) (fun _ _ _ h => h) ?y4_23 (by assumption) ?r4_23
  case hi4_23 => (simp only [List.getElem?_toArray, List.getElem?_cons_succ]; rfl)
  case y4_23 => (refine Or.inl ⟨by rfl, ?_⟩; intro w' hSw; (try dsimp only at hSw); go_simp; (try with_reducible rfl))
  try simp only [Act.put, List.setIfInBounds_toArray, List.set_cons_zero, List.set_cons_succ]
  refine wpAnyH_take (i := 5) (oi := ?o5_24) (v := ?v5_24) ?hi5_24 (by kernel_rfl) (by kernel_rfl) (by kernel_rfl) (fun _ _ _ h => h) ?y5_24 (by assumption) ?r5_24
  case hi5_24 => (simp only [List.getElem?_toArray, List.getElem?_cons_succ]; rfl)
  case y5_24 => (refine Or.inl ⟨by rfl, ?_⟩; intro w' hSw; (try dsimp only at hSw); go_simp; (try with_reducible rfl))
  try simp only [Act.put, List.setIfInBounds_toArray, List.set_cons_zero, List.set_cons_succ]
  refine wpAnyH_done (by kernel_rfl) ?_ _
  refine NoPanic.normal ?_
  clear hHeld B0 B1
  go_wp2_with fail
  refine (awake_any _).mono ?_; rintro e w9 ⟨rfl, hb9⟩
  go_wp2_with fail
  go_ret
  exact ⟨rfl, Bx.then_below bel hb9⟩

set_option maxRecDepth 100000 in
set_option maxHeartbeats 2000000 in
theorem flags_4 (a b : Bp) (F G : Nat) (w : World) (hF : F < 256) (hFG : ((F : Int) == (G : Int)) = false) (h0 : (a.ch == b.ch) = true) (h1 : (a.pr == b.pr) = true) (h2 : (bits BinOp.and IntKind.i64 a.ro 3 == bits BinOp.and IntKind.i64 b.ro 3) = true) (h3 : (a.le == b.le) = true) (h4 : (a.fo == b.fo) = false)
    (HF : Hid (∀ w, Calls Try.prog 17 #[bp a] w fun e w' => e = .returned (.int .i64 F) ∧ Below w.heap.size w w'))
    (HG : Hid (∀ w, Calls Try.prog 17 #[bp b] w fun e w' => e = .returned (.int .i64 G) ∧ Below w.heap.size w w')) :
    Calls Try.prog 5 #[bp a, bp b] w fun e w' => e = .returned (.bool true) ∧ Below w.heap.size w w' := by
  have bel := Bx.bel_refl w
  have B0 := Lib.hid (Bx.Blk.new w (bpl a) 26)
  replace bel := Bx.bel_box bel (Obj.cells (bpl a).toArray 26)
  have c0_1 := B0.out.at 1 rfl
  have c0_2 := B0.out.at 2 rfl
  have c0_3 := B0.out.at 3 rfl
  have c0_4 := B0.out.at 4 rfl
  have c0_5 := B0.out.at 5 rfl
  have c0_6 := B0.out.at 6 rfl
  have c0_7 := B0.out.at 7 rfl
  replace B0 := Lib.hid (B0.out.more (Obj.cells (bpl b).toArray 26))
  have B1 := Lib.hid (Bx.Blk.new_at (W := (w.alloc (Obj.cells (bpl a).toArray 26))) (k := w.heap.size + 1) (bpl b) 26 (by simp))
  replace bel := Bx.bel_box bel (Obj.cells (bpl b).toArray 26)
  clear c0_1 c0_2 c0_3 c0_4 c0_5 c0_6 c0_7
  have c0_1 := B0.out.at 1 rfl
  have c0_2 := B0.out.at 2 rfl
  have c0_3 := B0.out.at 3 rfl
  have c0_4 := B0.out.at 4 rfl
  have c0_5 := B0.out.at 5 rfl
  have c0_6 := B0.out.at 6 rfl
  have c0_7 := B0.out.at 7 rfl
  have c1_1 := B1.out.at 1 rfl
  have c1_2 := B1.out.at 2 rfl
  have c1_3 := B1.out.at 3 rfl
  have c1_4 := B1.out.at 4 rfl
  have c1_5 := B1.out.at 5 rfl
  have c1_6 := B1.out.at 6 rfl
  have c1_7 := B1.out.at 7 rfl
  go_enter Try.func5, Try.ntmps5
  go_wp2_with (first | ((with_reducible refine load_at ?_ ?_ (w.heap.size) ?_ a ?_ ?_); (· rfl); (· rfl); (· rfl); (· exact B0.out)) | ((with_reducible refine load_at ?_ ?_ (w.heap.size + 1) ?_ b ?_ ?_); (· rfl); (· rfl); (· rfl); (· exact B1.out)))
  generalize (w.alloc (Obj.cells (bpl a).toArray 26)).alloc (Obj.cells (bpl b).toArray 26) = W0 at *
  clear c0_1 c0_2 c0_3 c0_4 c0_5 c0_6 c0_7 c1_1 c1_2 c1_3 c1_4 c1_5 c1_6 c1_7
  refine wp_region_noPanic ?_
  refine wp_region_held_drew (S := fun w' => Bx.Blk w' w.heap.size (bpl a) ∧ Bx.Blk w' (w.heap.size + 1) (bpl b)) (by kernel_rfl) (by exact ⟨B0.out, B1.out⟩) (fun hHeld => ?_)
  replace bel := Bx.bel_drewn bel
  refine wpAnyH_take (i := 0) (oi := ?o0_25) (v := bp a) ?hi0_25 (by kernel_rfl) (by kernel_rfl) (by kernel_rfl) (fun _ _ _ h => h) ?y0_25 (by assumption) ?r0_25
  case hi0_25 => (simp only [List.getElem?_toArray]; rfl)
  case y0_25 => (refine yields_bp rfl _ rfl (w.heap.size) rfl a ?_; intro w' hS; exact hS.1)
  try simp only [Act.put, List.setIfInBounds_toArray, List.set_cons_zero, List.set_cons_succ]
  refine wpAnyH_take (i := 2) (oi := ?o2_26) (v := bp b) ?hi2_26 (by kernel_rfl) (by kernel_rfl) (by kernel_rfl) (fun _ _ _ h => h) ?y2_26 (by assumption) ?r2_26
  case hi2_26 => (simp only [List.getElem?_toArray, List.getElem?_cons_succ]; rfl)
  case y2_26 => (refine yields_bp rfl _ rfl (w.heap.size + 1) rfl b ?_; intro w' hS; exact hS.2)
  try simp only [Act.put, List.setIfInBounds_toArray, List.set_cons_zero, List.set_cons_succ]
  refine wpAnyH_ready (rs := [1]) (by kernel_rfl) (by simp) ?_
  refine AllReadyH.cons (o := ?o1_27) ?hi1_27 ?hst1_27 AllReadyH.nil
  case hi1_27 => (simp only [List.getElem?_toArray, List.getElem?_cons_succ]; rfl)
  intro K hK
  go_simp
  (go_at_call 17; (with_reducible refine (HF.out _).mono ?_); rintro e w1 ⟨rfl, hb1⟩)
  go_wp2_with fail
  refine hK.out _ _ ⟨Bx.Blk.keep hHeld.1 hb1, Bx.Blk.keep hHeld.2 hb1⟩ (fun hNew => ?_)
  clear hHeld
  have hHeld := hNew
  clear hNew hK K
  replace bel := Bx.then_below bel hb1
  refine wpAnyH_ready (rs := [3]) (by kernel_rfl) (by simp) ?_
  refine AllReadyH.cons (o := ?o3_28) ?hi3_28 ?hst3_28 AllReadyH.nil
  case hi3_28 => (simp only [List.getElem?_toArray, List.getElem?_cons_succ]; rfl)
  intro K hK
  go_simp
  (go_at_call 17; (with_reducible refine (HG.out _).mono ?_); rintro e w2 ⟨rfl, hb2⟩)
  go_wp2_with fail
  refine hK.out _ _ ⟨Bx.Blk.keep hHeld.1 hb2, Bx.Blk.keep hHeld.2 hb2⟩ (fun hNew => ?_)
  clear hHeld
  have hHeld := hNew
  clear hNew hK K
  replace bel := Bx.then_below bel hb2
  refine wpAnyH_take (i := 4) (oi := ?o4_29) (v := ?v4_29) ?hi4_29 (by kernel_rfl) (by kernel_rfl) (by kernel_rfl) (fun _ _ _ h => h) ?y4_29 (by assumption) ?r4_29
  case hi4_29 => (simp only [List.getElem?_toArray, List.getElem?_cons_succ]; rfl)
  case y4_29 => (refine Or.inl ⟨by rfl, ?_⟩; intro w' hSw; (try dsimp only at hSw); go_simp; (try with_reducible rfl))
  try simp only [Act.put, List.setIfInBounds_toArray, List.set_cons_zero, List.set_cons_succ]
  refine wpAnyH_take (i := 5) (oi := ?o5_30) (v := ?v5_30) ?hi5_30 (by kernel_rfl) (by kernel_rfl) (by kernel_rfl) (fun _ _ _ h => h) ?y5_30 (by assumption) ?r5_30
  case hi5_30 => (simp only [List.getElem?_toArray, List.getElem?_cons_succ]; rfl)
  case y5_30 => (refine Or.inl ⟨by rfl, ?_⟩; intro w' hSw; (try dsimp only at hSw); go_simp; (try with_reducible rfl))
  try simp only [Act.put, List.setIfInBounds_toArray, List.set_cons_zero, List.set_cons_succ]
  refine wpAnyH_done (by kernel_rfl) ?_ _
  refine NoPanic.normal ?_
  clear hHeld B0 B1
  go_wp2_with fail
  refine (awake_any _).mono ?_; rintro e w9 ⟨rfl, hb9⟩
  go_wp2_with fail
  go_ret
  exact ⟨rfl, Bx.then_below bel hb9⟩

set_option maxRecDepth 100000 in
set_option maxHeartbeats 2000000 in
theorem flags_5 (a b : Bp) (F G : Nat) (w : World) (hF : F < 256) (hFG : ((F : Int) == (G : Int)) = false) (h0 : (a.ch == b.ch) = true) (h1 : (a.pr == b.pr) = true) (h2 : (bits BinOp.and IntKind.i64 a.ro 3 == bits BinOp.and IntKind.i64 b.ro 3) = true) (h3 : (a.le == b.le) = true) (h4 : (a.fo == b.fo) = true) (h5 : (a.ag == b.ag) = false)
    (HF : Hid (∀ w, Calls Try.prog 17 #[bp a] w fun e w' => e = .returned (.int .i64 F) ∧ Below w.heap.size w w'))
    (HG : Hid (∀ w, Calls Try.prog 17 #[bp b] w fun e w' => e = .returned (.int .i64 G) ∧ Below w.heap.size w w')) :
    Calls Try.prog 5 #[bp a, bp b] w fun e w' => e = .returned (.bool true) ∧ Below w.heap.size w w' := by
  have bel := Bx.bel_refl w
  have B0 := Lib.hid (Bx.Blk.new w (bpl a) 26)
  replace bel := Bx.bel_box bel (Obj.cells (bpl a).toArray 26)
  have c0_1 := B0.out.at 1 rfl
  have c0_2 := B0.out.at 2 rfl
  have c0_3 := B0.out.at 3 rfl
  have c0_4 := B0.out.at 4 rfl
  have c0_5 := B0.out.at 5 rfl
  have c0_6 := B0.out.at 6 rfl
  have c0_7 := B0.out.at 7 rfl
  replace B0 := Lib.hid (B0.out.more (Obj.cells (bpl b).toArray 26))
  have B1 := Lib.hid (Bx.Blk.new_at (W := (w.alloc (Obj.cells (bpl a).toArray 26))) (k := w.heap.size + 1) (bpl b) 26 (by simp))
  replace bel := Bx.bel_box bel (Obj.cells (bpl b).toArray 26)
  clear c0_1 c0_2 c0_3 c0_4 c0_5 c0_6 c0_7
  have c0_1 := B0.out.at 1 rfl
  have c0_2 := B0.out.at 2 rfl
  have c0_3 := B0.out.at 3 rfl
  have c0_4 := B0.out.at 4 rfl
  have c0_5 := B0.out.at 5 rfl
  have c0_6 := B0.out.at 6 rfl
  have c0_7 := B0.out.at 7 rfl
  have c1_1 := B1.out.at 1 rfl
  have c1_2 := B1.out.at 2 rfl
  have c1_3 := B1.out.at 3 rfl
  have c1_4 := B1.out.at 4 rfl
  have c1_5 := B1.out.at 5 rfl
  have c1_6 := B1.out.at 6 rfl
  have c1_7 := B1.out.at 7 rfl
  go_enter Try.func5, Try.ntmps5
  go_wp2_with (first | ((with_reducible refine load_at ?_ ?_ (w.heap.size) ?_ a ?_ ?_); (· rfl); (· rfl); (· rfl); (· exact B0.out)) | ((with_reducible refine load_at ?_ ?_ (w.heap.size + 1) ?_ b ?_ ?_); (· rfl); (· rfl); (· rfl); (· exact B1.out)))
  generalize (w.alloc (Obj.cells (bpl a).toArray 26)).alloc (Obj.cells (bpl b).toArray 26) = W0 at *
  clear c0_1 c0_2 c0_3 c0_4 c0_5 c0_6 c0_7 c1_1 c1_2 c1_3 c1_4 c1_5 c1_6 c1_7
  refine wp_region_noPanic ?_
  refine wp_region_held_drew (S := fun w' => Bx.Blk w' w.heap.size (bpl a) ∧ Bx.Blk w' (w.heap.size + 1) (bpl b)) (by kernel_rfl) (by exact ⟨B0.out, B1.out⟩) (fun hHeld => ?_)
  replace bel := Bx.bel_drewn bel
  refine wpAnyH_take (i := 0) (oi := ?o0_31) (v := bp a) ?hi0_31 (by kernel_rfl) (by kernel_rfl) (by kernel_rfl) (fun _ _ _ h => h) ?y0_31 (by assumption) ?r0_31
  case hi0_31 => (simp only [List.getElem?_toArray]; rfl)
  case y0_31 => (refine yields_bp rfl _ rfl (w.heap.size) rfl a ?_; intro w' hS; exact hS.1)
  try simp only [Act.put, List.setIfInBounds_toArray, List.set_cons_zero, List.set_cons_succ]
  refine wpAnyH_take (i := 2) (oi := ?o2_32) (v := bp b) ?hi2_32 (by kernel_rfl) (by kernel_rfl) (by kernel_rfl) (fun _ _ _ h => h) ?y2_32 (by assumption) ?r2_32
  case hi2_32 => (simp only [List.getElem?_toArray, List.getElem?_cons_succ]; rfl)
  case y2_32 => (refine yields_bp rfl _ rfl (w.heap.size + 1) rfl b ?_; intro w' hS; exact hS.2)
  try simp only [Act.put, List.setIfInBounds_toArray, List.set_cons_zero, List.set_cons_succ]
  refine wpAnyH_ready (rs := [1]) (by kernel_rfl) (by simp) ?_
  refine AllReadyH.cons (o := ?o1_33) ?hi1_33 ?hst1_33 AllReadyH.nil
  case hi1_33 => (simp only [List.getElem?_toArray, List.getElem?_cons_succ]; rfl)
  intro K hK
  go_simp
  (go_at_call 17; (with_reducible refine (HF.out _).mono ?_); rintro e w1 ⟨rfl, hb1⟩)
  go_wp2_with fail
  refine hK.out _ _ ⟨Bx.Blk.keep hHeld.1 hb1, Bx.Blk.keep hHeld.2 hb1⟩ (fun hNew => ?_)
  clear hHeld
  have hHeld := hNew
  clear hNew hK K
  replace bel := Bx.then_below bel hb1
  refine wpAnyH_ready (rs := [3]) (by kernel_rfl) (by simp) ?_
  refine AllReadyH.cons (o := ?o3_34) ?hi3_34 ?hst3_34 AllReadyH.nil
  case hi3_34 => (simp only [List.getElem?_toArray, List.getElem?_cons_succ]; rfl)
  intro K hK
  go_simp
  (go_at_call 17; (with_reducible refine (HG.out _).mono ?_); rintro e w2 ⟨rfl, hb2⟩)
  go_wp2_with fail
  refine hK.out _ _ ⟨Bx.Blk.keep hHeld.1 hb2, Bx.Blk.keep hHeld.2 hb2⟩ (fun hNew => ?_)
  clear hHeld
  have hHeld := hNew
  clear hNew hK K
  replace bel := Bx.then_below bel hb2
  refine wpAnyH_take (i := 4) (oi := ?o4_35) (v := ?v4_35) ?hi4_35 (by kernel_rfl) (by kernel_rfl) (by kernel_rfl) (fun _ _ _ h => h) ?y4_35 (by assumption) ?r4_35
  case hi4_35 => (simp only [List.getElem?_toArray, List.getElem?_cons_succ]; rfl)
  case y4_35 => (refine Or.inl ⟨by rfl, ?_⟩; intro w' hSw; (try dsimp only at hSw); go_simp; (try with_reducible rfl))
  try simp only [Act.put, List.setIfInBounds_toArray, List.set_cons_zero, List.set_cons_succ]
  refine wpAnyH_take (i := 5) (oi := ?o5_36) (v := ?v5_36) ?hi5_36 (by kernel_rfl) (by kernel_rfl) (by kernel_rfl) (fun _ _ _ h => h) ?y5_36 (by assumption) ?r5_36
  case hi5_36 => (simp only [List.getElem?_toArray, List.getElem?_cons_succ]; rfl)
  case y5_36 => (refine Or.inl ⟨by rfl, ?_⟩; intro w' hSw; (try dsimp only at hSw); go_simp; (try with_reducible rfl))
  try simp only [Act.put, List.setIfInBounds_toArray, List.set_cons_zero, List.set_cons_succ]
  refine wpAnyH_done (by kernel_rfl) ?_ _
  refine NoPanic.normal ?_
  clear hHeld B0 B1
  go_wp2_with fail
  refine (awake_any _).mono ?_; rintro e w9 ⟨rfl, hb9⟩
  go_wp2_with fail
  go_ret
  exact ⟨rfl, Bx.then_below bel hb9⟩

set_option maxRecDepth 100000 in
set_option maxHeartbeats 2000000 in
theorem flags_6 (a b : Bp) (F G : Nat) (w : World) (hF : F < 256) (hFG : ((F : Int) == (G : Int)) = false) (h0 : (a.ch == b.ch) = true) (h1 : (a.pr == b.pr) = true) (h2 : (bits BinOp.and IntKind.i64 a.ro 3 == bits BinOp.and IntKind.i64 b.ro 3) = true) (h3 : (a.le == b.le) = true) (h4 : (a.fo == b.fo) = true) (h5 : (a.ag == b.ag) = true) (h6 : (a.ac == b.ac) = false)
    (HF : Hid (∀ w, Calls Try.prog 17 #[bp a] w fun e w' => e = .returned (.int .i64 F) ∧ Below w.heap.size w w'))
    (HG : Hid (∀ w, Calls Try.prog 17 #[bp b] w fun e w' => e = .returned (.int .i64 G) ∧ Below w.heap.size w w')) :
    Calls Try.prog 5 #[bp a, bp b] w fun e w' => e = .returned (.bool true) ∧ Below w.heap.size w w' := by
  have bel := Bx.bel_refl w
  have B0 := Lib.hid (Bx.Blk.new w (bpl a) 26)
  replace bel := Bx.bel_box bel (Obj.cells (bpl a).toArray 26)
  have c0_1 := B0.out.at 1 rfl
  have c0_2 := B0.out.at 2 rfl
  have c0_3 := B0.out.at 3 rfl
  have c0_4 := B0.out.at 4 rfl
  have c0_5 := B0.out.at 5 rfl
  have c0_6 := B0.out.at 6 rfl
  have c0_7 := B0.out.at 7 rfl
  replace B0 := Lib.hid (B0.out.more (Obj.cells (bpl b).toArray 26))
  have B1 := Lib.hid (Bx.Blk.new_at (W := (w.alloc (Obj.cells (bpl a).toArray 26))) (k := w.heap.size + 1) (bpl b) 26 (by simp))
  replace bel := Bx.bel_box bel (Obj.cells (bpl b).toArray 26)
  clear c0_1 c0_2 c0_3 c0_4 c0_5 c0_6 c0_7
  have c0_1 := B0.out.at 1 rfl
  have c0_2 := B0.out.at 2 rfl
  have c0_3 := B0.out.at 3 rfl
  have c0_4 := B0.out.at 4 rfl
  have c0_5 := B0.out.at 5 rfl
  have c0_6 := B0.out.at 6 rfl
  have c0_7 := B0.out.at 7 rfl
  have c1_1 := B1.out.at 1 rfl
  have c1_2 := B1.out.at 2 rfl
  have c1_3 := B1.out.at 3 rfl
  have c1_4 := B1.out.at 4 rfl
  have c1_5 := B1.out.at 5 rfl
  have c1_6 := B1.out.at 6 rfl
  have c1_7 := B1.out.at 7 rfl
  go_enter Try.func5, Try.ntmps5
  go_wp2_with (first | ((with_reducible refine load_at ?_ ?_ (w.heap.size) ?_ a ?_ ?_); (· rfl); (· rfl); (· rfl); (· exact B0.out)) | ((with_reducible refine load_at ?_ ?_ (w.heap.size + 1) ?_ b ?_ ?_); (· rfl); (· rfl); (· rfl); (· exact B1.out)))
  generalize (w.alloc (Obj.cells (bpl a).toArray 26)).alloc (Obj.cells (bpl b).toArray 26) = W0 at *
  clear c0_1 c0_2 c0_3 c0_4 c0_5 c0_6 c0_7 c1_1 c1_2 c1_3 c1_4 c1_5 c1_6 c1_7
  refine wp_region_noPanic ?_
  refine wp_region_held_drew (S := fun w' => Bx.Blk w' w.heap.size (bpl a) ∧ Bx.Blk w' (w.heap.size + 1) (bpl b)) (by kernel_rfl) (by exact ⟨B0.out, B1.out⟩) (fun hHeld => ?_)
  replace bel := Bx.bel_drewn bel
  refine wpAnyH_take (i := 0) (oi := ?o0_37) (v := bp a) ?hi0_37 (by kernel_rfl) (by kernel_rfl) (by kernel_rfl) (fun _ _ _ h => h) ?y0_37 (by assumption) ?r0_37
  case hi0_37 => (simp only [List.getElem?_toArray]; rfl)
  case y0_37 => (refine yields_bp rfl _ rfl (w.heap.size) rfl a ?_; intro w' hS; exact hS.1)
  try simp only [Act.put, List.setIfInBounds_toArray, List.set_cons_zero, List.set_cons_succ]
  refine wpAnyH_take (i := 2) (oi := ?o2_38) (v := bp b) ?hi2_38 (by kernel_rfl) (by kernel_rfl) (by kernel_rfl) (fun _ _ _ h => h) ?y2_38 (by assumption) ?r2_38
  case hi2_38 => (simp only [List.getElem?_toArray, List.getElem?_cons_succ]; rfl)
  case y2_38 => (refine yields_bp rfl _ rfl (w.heap.size + 1) rfl b ?_; intro w' hS; exact hS.2)
  try simp only [Act.put, List.setIfInBounds_toArray, List.set_cons_zero, List.set_cons_succ]
  refine wpAnyH_ready (rs := [1]) (by kernel_rfl) (by simp) ?_
  refine AllReadyH.cons (o := ?o1_39) ?hi1_39 ?hst1_39 AllReadyH.nil
  case hi1_39 => (simp only [List.getElem?_toArray, List.getElem?_cons_succ]; rfl)
  intro K hK
  go_simp
  (go_at_call 17; (with_reducible refine (HF.out _).mono ?_); rintro e w1 ⟨rfl, hb1⟩)
  go_wp2_with fail
  refine hK.out _ _ ⟨Bx.Blk.keep hHeld.1 hb1, Bx.Blk.keep hHeld.2 hb1⟩ (fun hNew => ?_)
  clear hHeld
  have hHeld := hNew
  clear hNew hK K
  replace bel := Bx.then_below bel hb1
  refine wpAnyH_ready (rs := [3]) (by kernel_rfl) (by simp) ?_
  refine AllReadyH.cons (o := ?o3_40) ?hi3_40 ?hst3_40 AllReadyH.nil
  case hi3_40 => (simp only [List.getElem?_toArray, List.getElem?_cons_succ]; rfl)
  intro K hK
  go_simp
  (go_at_call 17; (with_reducible refine (HG.out _).mono ?_); rintro e w2 ⟨rfl, hb2⟩)
  go_wp2_with fail
  refine hK.out _ _ ⟨Bx.Blk.keep hHeld.1 hb2, Bx.Blk.keep hHeld.2 hb2⟩ (fun hNew => ?_)
  clear hHeld
  have hHeld := hNew
  clear hNew hK K
  replace bel := Bx.then_below bel hb2
  refine wpAnyH_take (i := 4) (oi := ?o4_41) (v := ?v4_41) ?hi4_41 (by kernel_rfl) (by kernel_rfl) (by kernel_rfl) (fun _ _ _ h => h) ?y4_41 (by assumption) ?r4_41
  case hi4_41 => (simp only [List.getElem?_toArray, List.getElem?_cons_succ]; rfl)
  case y4_41 => (refine Or.inl ⟨by rfl, ?_⟩; intro w' hSw; (try dsimp only at hSw); go_simp; (try with_reducible rfl))
  try simp only [Act.put, List.setIfInBounds_toArray, List.set_cons_zero, List.set_cons_succ]
  refine wpAnyH_take (i := 5) (oi := ?o5_42) (v := ?v5_42) ?hi5_42 (by kernel_rfl) (by kernel_rfl) (by kernel_rfl) (fun _ _ _ h => h) ?y5_42 (by assumption) ?r5_42
  case hi5_42 => (simp only [List.getElem?_toArray, List.getElem?_cons_succ]; rfl)
  case y5_42 => (refine Or.inl ⟨by rfl, ?_⟩; intro w' hSw; (try dsimp only at hSw); go_simp; (try with_reducible rfl))
  try simp only [Act.put, List.setIfInBounds_toArray, List.set_cons_zero, List.set_cons_succ]
  refine wpAnyH_done (by kernel_rfl) ?_ _
  refine NoPanic.normal ?_
  clear hHeld B0 B1
  go_wp2_with fail
  refine (awake_any _).mono ?_; rintro e w9 ⟨rfl, hb9⟩
  go_wp2_with fail
  go_ret
  exact ⟨rfl, Bx.then_below bel hb9⟩

set_option maxRecDepth 100000 in
set_option maxHeartbeats 2000000 in
theorem flags_7 (a b : Bp) (F G : Nat) (w : World) (hF : F < 256) (hFG : ((F : Int) == (G : Int)) = true) (h0 : (a.ch == b.ch) = true) (h1 : (a.pr == b.pr) = true) (h2 : (bits BinOp.and IntKind.i64 a.ro 3 == bits BinOp.and IntKind.i64 b.ro 3) = true) (h3 : (a.le == b.le) = true) (h4 : (a.fo == b.fo) = true) (h5 : (a.ag == b.ag) = true) (h6 : (a.ac == b.ac) = true)
    (HF : Hid (∀ w, Calls Try.prog 17 #[bp a] w fun e w' => e = .returned (.int .i64 F) ∧ Below w.heap.size w w'))
    (HG : Hid (∀ w, Calls Try.prog 17 #[bp b] w fun e w' => e = .returned (.int .i64 G) ∧ Below w.heap.size w w')) :
    Calls Try.prog 5 #[bp a, bp b] w fun e w' => e = .returned (.bool true) ∧ Below w.heap.size w w' := by
  have bel := Bx.bel_refl w
  have B0 := Lib.hid (Bx.Blk.new w (bpl a) 26)
  replace bel := Bx.bel_box bel (Obj.cells (bpl a).toArray 26)
  have c0_1 := B0.out.at 1 rfl
  have c0_2 := B0.out.at 2 rfl
  have c0_3 := B0.out.at 3 rfl
  have c0_4 := B0.out.at 4 rfl
  have c0_5 := B0.out.at 5 rfl
  have c0_6 := B0.out.at 6 rfl
  have c0_7 := B0.out.at 7 rfl
  replace B0 := Lib.hid (B0.out.more (Obj.cells (bpl b).toArray 26))
  have B1 := Lib.hid (Bx.Blk.new_at (W := (w.alloc (Obj.cells (bpl a).toArray 26))) (k := w.heap.size + 1) (bpl b) 26 (by simp))
  replace bel := Bx.bel_box bel (Obj.cells (bpl b).toArray 26)
  clear c0_1 c0_2 c0_3 c0_4 c0_5 c0_6 c0_7
  have c0_1 := B0.out.at 1 rfl
  have c0_2 := B0.out.at 2 rfl
  have c0_3 := B0.out.at 3 rfl
  have c0_4 := B0.out.at 4 rfl
  have c0_5 := B0.out.at 5 rfl
  have c0_6 := B0.out.at 6 rfl
  have c0_7 := B0.out.at 7 rfl
  have c1_1 := B1.out.at 1 rfl
  have c1_2 := B1.out.at 2 rfl
  have c1_3 := B1.out.at 3 rfl
  have c1_4 := B1.out.at 4 rfl
  have c1_5 := B1.out.at 5 rfl
  have c1_6 := B1.out.at 6 rfl
  have c1_7 := B1.out.at 7 rfl
  go_enter Try.func5, Try.ntmps5
  go_wp2_with (first | ((with_reducible refine load_at ?_ ?_ (w.heap.size) ?_ a ?_ ?_); (· rfl); (· rfl); (· rfl); (· exact B0.out)) | ((with_reducible refine load_at ?_ ?_ (w.heap.size + 1) ?_ b ?_ ?_); (· rfl); (· rfl); (· rfl); (· exact B1.out)))
  generalize (w.alloc (Obj.cells (bpl a).toArray 26)).alloc (Obj.cells (bpl b).toArray 26) = W0 at *
  clear c0_1 c0_2 c0_3 c0_4 c0_5 c0_6 c0_7 c1_1 c1_2 c1_3 c1_4 c1_5 c1_6 c1_7
  refine wp_region_noPanic ?_
  refine wp_region_held_drew (S := fun w' => Bx.Blk w' w.heap.size (bpl a) ∧ Bx.Blk w' (w.heap.size + 1) (bpl b)) (by kernel_rfl) (by exact ⟨B0.out, B1.out⟩) (fun hHeld => ?_)
  replace bel := Bx.bel_drewn bel
  refine wpAnyH_take (i := 0) (oi := ?o0_43) (v := bp a) ?hi0_43 (by kernel_rfl) (by kernel_rfl) (by kernel_rfl) (fun _ _ _ h => h) ?y0_43 (by assumption) ?r0_43
  case hi0_43 => (simp only [List.getElem?_toArray]; rfl)
  case y0_43 => (refine yields_bp rfl _ rfl (w.heap.size) rfl a ?_; intro w' hS; exact hS.1)
  try simp only [Act.put, List.setIfInBounds_toArray, List.set_cons_zero, List.set_cons_succ]
  refine wpAnyH_take (i := 2) (oi := ?o2_44) (v := bp b) ?hi2_44 (by kernel_rfl) (by kernel_rfl) (by kernel_rfl) (fun _ _ _ h => h) ?y2_44 (by assumption) ?r2_44
  case hi2_44 => (simp only [List.getElem?_toArray, List.getElem?_cons_succ]; rfl)
  case y2_44 => (refine yields_bp rfl _ rfl (w.heap.size + 1) rfl b ?_; intro w' hS; exact hS.2)
  try simp only [Act.put, List.setIfInBounds_toArray, List.set_cons_zero, List.set_cons_succ]
  refine wpAnyH_ready (rs := [1]) (by kernel_rfl) (by simp) ?_
  refine AllReadyH.cons (o := ?o1_45) ?hi1_45 ?hst1_45 AllReadyH.nil
  case hi1_45 => (simp only [List.getElem?_toArray, List.getElem?_cons_succ]; rfl)
  intro K hK
  go_simp
  (go_at_call 17; (with_reducible refine (HF.out _).mono ?_); rintro e w1 ⟨rfl, hb1⟩)
  go_wp2_with fail
  refine hK.out _ _ ⟨Bx.Blk.keep hHeld.1 hb1, Bx.Blk.keep hHeld.2 hb1⟩ (fun hNew => ?_)
  clear hHeld
  have hHeld := hNew
  clear hNew hK K
  replace bel := Bx.then_below bel hb1
  refine wpAnyH_ready (rs := [3]) (by kernel_rfl) (by simp) ?_
  refine AllReadyH.cons (o := ?o3_46) ?hi3_46 ?hst3_46 AllReadyH.nil
  case hi3_46 => (simp only [List.getElem?_toArray, List.getElem?_cons_succ]; rfl)
  intro K hK
  go_simp
  (go_at_call 17; (with_reducible refine (HG.out _).mono ?_); rintro e w2 ⟨rfl, hb2⟩)
  go_wp2_with fail
  refine hK.out _ _ ⟨Bx.Blk.keep hHeld.1 hb2, Bx.Blk.keep hHeld.2 hb2⟩ (fun hNew => ?_)
  clear hHeld
  have hHeld := hNew
  clear hNew hK K
  replace bel := Bx.then_below bel hb2
  refine wpAnyH_take (i := 4) (oi := ?o4_47) (v := ?v4_47) ?hi4_47 (by kernel_rfl) (by kernel_rfl) (by kernel_rfl) (fun _ _ _ h => h) ?y4_47 (by assumption) ?r4_47
  case hi4_47 => (simp only [List.getElem?_toArray, List.getElem?_cons_succ]; rfl)
  case y4_47 => (refine Or.inl ⟨by rfl, ?_⟩; intro w' hSw; (try dsimp only at hSw); go_simp; (try with_reducible rfl))
  try simp only [Act.put, List.setIfInBounds_toArray, List.set_cons_zero, List.set_cons_succ]
  refine wpAnyH_take (i := 5) (oi := ?o5_48) (v := ?v5_48) ?hi5_48 (by kernel_rfl) (by kernel_rfl) (by kernel_rfl) (fun _ _ _ h => h) ?y5_48 (by assumption) ?r5_48
  case hi5_48 => (simp only [List.getElem?_toArray, List.getElem?_cons_succ]; rfl)
  case y5_48 => (refine Or.inl ⟨by rfl, ?_⟩; intro w' hSw; (try dsimp only at hSw); go_simp; (try with_reducible rfl))
  try simp only [Act.put, List.setIfInBounds_toArray, List.set_cons_zero, List.set_cons_succ]
  refine wpAnyH_done (by kernel_rfl) ?_ _
  refine NoPanic.normal ?_
  clear hHeld B0 B1
  go_wp2_with fail
  refine (awake_any _).mono ?_; rintro e w9 ⟨rfl, hb9⟩
  go_wp2_with fail
  go_ret
  exact ⟨rfl, Bx.then_below bel hb9⟩

end Bpd
end Go.Proofs.Ytiokkahldhmhlaa
