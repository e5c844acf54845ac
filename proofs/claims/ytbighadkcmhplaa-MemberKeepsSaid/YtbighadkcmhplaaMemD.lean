/-
  What package member takes at a port.
-/
import Derived.Test.YtbighadkcmhplaaMemC
namespace Go.Proofs.Ytbighadkcmhplaa
open Go.RowKit
namespace Mem
open Oct Eth

abbrev fo (d s : Int) (g : Bool) (p v t : Int) (b : ByteArray) : Obj := .cells #[.int .u64 d, .int .u64 s, .bool g, .int .i64 p, .int .i64 v, .int .i64 t, .string b] 29
abbrev fc (d s : Int) (g : Bool) (p v t : Int) (b : ByteArray) : List Value := [.int .u64 d, .int .u64 s, .bool g, .int .i64 p, .int .i64 v, .int .i64 t, .string b]

theorem has_all (q : Int) : Por.hasZ (Por.low 255) q = decide (0 ≤ q ∧ q < 8) := by
  unfold Por.hasZ
  by_cases h : 0 ≤ q ∧ q < 8
  · rw [decide_eq_true h, Bool.true_and]
    have : q = 0 ∨ q = 1 ∨ q = 2 ∨ q = 3 ∨ q = 4 ∨ q = 5 ∨ q = 6 ∨ q = 7 := by omega
    rcases this with rfl | rfl | rfl | rfl | rfl | rfl | rfl | rfl <;> decide
  · rw [decide_eq_false h, Bool.false_and]

set_option maxRecDepth 20000 in
set_option maxHeartbeats 2000000 in
theorem takes_in (o k : Nat → Int) (l : List Vl) (hl : l.length ≤ maxLen) (A : Option Addr) (c : Nat) (q : Nat) (hq : q < 8) (d s : Int) (g : Bool) (p v t : Int) (b : ByteArray) (w : World) (hA : Vls w A l) :
    Calls Try.prog 7 #[pv o k A l.length c, .int .i64 q, fr d s g p v t b] w fun e w' => e = .returned (.tuple #[.int .i64 (takV o k l q g v), .bool (takB o k l q g v)]) ∧ Below w.heap.size w w' := by
  have HF := Lib.hid (fun (w : World) n hA => of_any o k l hl A c n w hA)
  have HH := Lib.hid (Por.has_any 255 q)
  rw [has_all, decide_eq_true (by omega)] at HH
  have HO := Lib.hid (hasOwn_any d s g p v t b)
  have HM := Lib.hid (admits_any (k q) (ownF g v))
  have HV := Lib.hid (fun w => vlan_any d s g p v t b (o q) w)
  simp only [vlan_vid] at HV
  have HP := Lib.hid (fun x w => Por.has_any x q w)
  have bel := Lib.hid (Bx.bel_box (Bx.box_below w (po o k A l.length c)) (fo d s g p v t b))
  have A1 := Lib.hid (hA.below bel.out)
  have P1 := Lib.hid ((Bx.Blk.new w (pc o k A l.length c) 25).more (fo d s g p v t b))
  have F1 := Lib.hid (Bx.Blk.new_at (W := w.alloc (po o k A l.length c)) (k := w.heap.size + 1) (fc d s g p v t b) 29 (by simp))
  have e1 : decide (0 ≤ (q : Int) ∧ (q : Int) < 8) = true := decide_eq_true (by omega)
  have hT : takB o k l q g v = (admF (k q) (ownF g v) && (decide (vidF (o q) g v ≤ 4094) && Por.hasZ (Por.low (ofV l (vidF (o q) g v))) q)) := by unfold takB; rw [e1, Bool.true_and]; rfl
  have hW : takV o k l q g v = if takB o k l q g v then vidF (o q) g v else 0 := rfl
  have HW := Lib.hid hW
  have HT := Lib.hid hT
  have hq2 : (q : Int) < 8 := by omega
  have hq3 : ((q : Int)).toNat = q := by omega
  clear hA hT hW e1
  generalize admF (k q) (ownF g v) = r1 at *
  generalize vidF (o q) g v = n at *
  have c1 := P1.out.at (8 + q) (pc_take o k A l.length c hq)
  have c0 := P1.out.at q (pc_own o k A l.length c hq)
  obtain ⟨f0, f1, f2, f3, f4, f5, f6⟩ := F1.out.all7
  go_enter Try.func7, Try.ntmps7
  go_wp2
  replace bel := Lib.hid (Bx.bel_drewn bel.out)
  replace A1 := Lib.hid A1.out.drew
  replace P1 := Lib.hid P1.out.drew
  replace F1 := Lib.hid F1.out.drew
  go_region_held3 (fun w' => w'.cell? ⟨w.heap.size, 8 + q, none⟩ = some (.int .i64 (k q)) ∧ w'.cell? ⟨w.heap.size + 1, 0, none⟩ = some (.int .u64 d) ∧ w'.cell? ⟨w.heap.size + 1, 1, none⟩ = some (.int .u64 s) ∧ w'.cell? ⟨w.heap.size + 1, 2, none⟩ = some (.bool g) ∧ w'.cell? ⟨w.heap.size + 1, 3, none⟩ = some (.int .i64 p) ∧ w'.cell? ⟨w.heap.size + 1, 4, none⟩ = some (.int .i64 v) ∧ w'.cell? ⟨w.heap.size + 1, 5, none⟩ = some (.int .i64 t) ∧ w'.cell? ⟨w.heap.size + 1, 6, none⟩ = some (.string b))
    (first | (go_split_ands; refine ⟨Bx.keep_cell hb ?_, Bx.keep_cell hb ?_, Bx.keep_cell hb ?_, Bx.keep_cell hb ?_, Bx.keep_cell hb ?_, Bx.keep_cell hb ?_, Bx.keep_cell hb ?_, Bx.keep_cell hb ?_⟩ <;> with_reducible assumption) | (go_keep; done))
    (first | (go_at_call 20; (with_reducible refine (HH.out _).mono ?_); (rintro e w5 ⟨rfl, rfl⟩)) | (go_at_call 22; (with_reducible refine (HO.out _).mono ?_); (rintro e w5 ⟨rfl, hb⟩); (replace bel := Lib.hid (Bx.then_below bel.out hb)); (replace A1 := Lib.hid (A1.out.below hb)); (replace P1 := Lib.hid (P1.out.keep hb)); (replace F1 := Lib.hid (F1.out.keep hb))) | (go_at_call 21; (with_reducible refine (HM.out _).mono ?_); (rintro e w6 ⟨rfl, rfl⟩)))
  cases r1 with
  | false =>
    have HZ := Lib.hid (show takV o k l q g v = 0 ∧ takB o k l q g v = false from by
      have h : takB o k l q g v = false := by rw [HT.out]; rfl
      exact ⟨by rw [HW.out, h]; rfl, h⟩)
    go_wp2
    go_ret2
    exact ⟨by rw [HZ.out.1, HZ.out.2]; rfl, bel.out⟩
  | true =>
    rw [Bool.true_and] at HT
    have c0 := P1.out.at q (pc_own o k A l.length c hq)
    obtain ⟨f0, f1, f2, f3, f4, f5, f6⟩ := F1.out.all7
    go_wp2
    replace bel := Lib.hid (Bx.bel_drewn bel.out)
    replace A1 := Lib.hid A1.out.drew
    replace P1 := Lib.hid P1.out.drew
    replace F1 := Lib.hid F1.out.drew
    go_region_held3 (fun w' => w'.cell? ⟨w.heap.size, q, none⟩ = some (.int .i64 (o q)) ∧ w'.cell? ⟨w.heap.size + 1, 0, none⟩ = some (.int .u64 d) ∧ w'.cell? ⟨w.heap.size + 1, 1, none⟩ = some (.int .u64 s) ∧ w'.cell? ⟨w.heap.size + 1, 2, none⟩ = some (.bool g) ∧ w'.cell? ⟨w.heap.size + 1, 3, none⟩ = some (.int .i64 p) ∧ w'.cell? ⟨w.heap.size + 1, 4, none⟩ = some (.int .i64 v) ∧ w'.cell? ⟨w.heap.size + 1, 5, none⟩ = some (.int .i64 t) ∧ w'.cell? ⟨w.heap.size + 1, 6, none⟩ = some (.string b))
      (first | (go_split_ands; refine ⟨Bx.keep_cell hb ?_, Bx.keep_cell hb ?_, Bx.keep_cell hb ?_, Bx.keep_cell hb ?_, Bx.keep_cell hb ?_, Bx.keep_cell hb ?_, Bx.keep_cell hb ?_, Bx.keep_cell hb ?_⟩ <;> with_reducible assumption) | (go_keep; done))
      (first | (go_at_call 23; (with_reducible refine (HV.out _).mono ?_); (rintro e w7 ⟨rfl, hb⟩); (replace bel := Lib.hid (Bx.then_below bel.out hb)); (replace A1 := Lib.hid (A1.out.below hb)); (replace P1 := Lib.hid (P1.out.keep hb))))
    clear HH HO HM HV F1 f0 f1 f2 f3 f4 f5 f6 c0 c1
    by_cases hn : n ≤ 4094
    · rw [decide_eq_true hn, Bool.true_and] at HT
      have hn4 : decide (4094 < n) = false := decide_eq_false (by omega)
      have HF1 := Lib.hid (fun w h => HF.out w n h)
      have HP1 := Lib.hid (HP.out (ofV l n))
      clear HF HP
      generalize ofV l n = x at *
      have HX := Lib.hid (rfl : Por.hasZ (Por.low x) q = Por.hasZ (Por.low x) q)
      cases hz : Por.hasZ (Por.low x) q with
      | false =>
        rw [hz] at HP1 HT
        have HZ := Lib.hid (show takV o k l q g v = 0 ∧ takB o k l q g v = false from ⟨by rw [HW.out, HT.out]; rfl, HT.out⟩)
        clear hz HX HT HW
        go_wp2_with (first | ((with_reducible refine load_at ?_ ?_ w.heap.size ?_ o k A l.length c ?_ ?_); (· rfl); (· (first | rfl | (rw [hn4]; rfl))); (· rfl); (· exact P1.out)))
        refine (HF1.out _ A1.out).mono ?_; rintro e w8 ⟨rfl, hb⟩
        replace bel := Lib.hid (Bx.then_below bel.out hb)
        clear hb
        go_wp2_with fail
        refine (HP1.out _).mono ?_; rintro e w9 ⟨rfl, rfl⟩
        go_wp2
        go_ret2
        exact ⟨by rw [HZ.out.1, HZ.out.2]; rfl, bel.out⟩
      | true =>
        rw [hz] at HP1 HT
        have HZ := Lib.hid (show takV o k l q g v = n ∧ takB o k l q g v = true from ⟨by rw [HW.out, HT.out]; rfl, HT.out⟩)
        clear hz HX HT HW
        go_wp2_with (first | ((with_reducible refine load_at ?_ ?_ w.heap.size ?_ o k A l.length c ?_ ?_); (· rfl); (· (first | rfl | (rw [hn4]; rfl))); (· rfl); (· exact P1.out)))
        refine (HF1.out _ A1.out).mono ?_; rintro e w8 ⟨rfl, hb⟩
        replace bel := Lib.hid (Bx.then_below bel.out hb)
        clear hb
        go_wp2_with fail
        refine (HP1.out _).mono ?_; rintro e w9 ⟨rfl, rfl⟩
        go_wp2
        go_ret2
        exact ⟨by rw [HZ.out.1, HZ.out.2]; rfl, bel.out⟩
    · rw [decide_eq_false hn, Bool.false_and] at HT
      have HZ := Lib.hid (show takV o k l q g v = 0 ∧ takB o k l q g v = false from ⟨by rw [HW.out, HT.out]; rfl, HT.out⟩)
      clear HT HW HF HP
      go_wp2
      go_ret2
      exact ⟨by rw [HZ.out.1, HZ.out.2]; rfl, bel.out⟩

set_option maxRecDepth 20000 in
set_option maxHeartbeats 2000000 in
theorem takes_out (o k : Nat → Int) (l : List Vl) (A : Option Addr) (c : Nat) (q : Int) (hq : ¬ (0 ≤ q ∧ q < 8)) (d s : Int) (g : Bool) (p v t : Int) (b : ByteArray) (w : World) :
    Calls Try.prog 7 #[pv o k A l.length c, .int .i64 q, fr d s g p v t b] w fun e w' => e = .returned (.tuple #[.int .i64 (takV o k l q g v), .bool (takB o k l q g v)]) ∧ Below w.heap.size w w' := by
  have HH := Lib.hid (Por.has_any 255 q)
  rw [has_all, decide_eq_false hq] at HH
  have bel := Lib.hid (Bx.bel_box (Bx.box_below w (po o k A l.length c)) (fo d s g p v t b))
  have e2 : takB o k l q g v = false := by unfold takB; rw [decide_eq_false hq, Bool.false_and]
  have HZ := Lib.hid (show takV o k l q g v = 0 ∧ takB o k l q g v = false from ⟨by unfold takV; rw [e2]; rfl, e2⟩)
  have P1 := ((Bx.Blk.new w (pc o k A l.length c) 25).more (fo d s g p v t b)).at 1 rfl
  have P0 := ((Bx.Blk.new w (pc o k A l.length c) 25).more (fo d s g p v t b)).at 0 rfl
  clear e2
  go_enter Try.func7, Try.ntmps7
  go_wp2
  -- BY HAND
  refine wp_region_noPanic ?_
  refine wp_region_held_drew (S := fun w' => w'.cell? ⟨w.heap.size, 0, none⟩ = some (.int .i64 (o 0)) ∧ w'.cell? ⟨w.heap.size, 1, none⟩ = some (.int .i64 (o 1))) (by kernel_rfl) (by exact ⟨P0, P1⟩) (fun hHeld => ?_)
  refine wpAnyH_take (i := 0) (oi := ?o0) (v := ?v0) ?hi0 (by kernel_rfl) (by kernel_rfl) (by kernel_rfl) (fun _ _ _ h => h) ?y0 (by assumption) ?r0
  case hi0 => (simp only [List.getElem?_toArray, List.getElem?_cons_zero]; rfl)
  case y0 => (refine Or.inl ⟨by rfl, ?_⟩; intro w' hSw; (try dsimp only at hSw); go_simp; (try with_reducible rfl))
  try simp only [Act.put, List.setIfInBounds_toArray, List.set_cons_zero, List.set_cons_succ]
  refine wpAnyH_ready (rs := [1]) (by kernel_rfl) (by simp) ?_
  refine AllReadyH.cons (o := ?o1) ?hi1 ?hst1 AllReadyH.nil
  case hi1 => (simp only [List.getElem?_toArray, List.getElem?_cons_succ, List.getElem?_cons_zero]; rfl)
  intro K hK
  go_simp
  (go_at_call 20; with_reducible refine (HH.out _).mono ?_; rintro e w1 ⟨he, hw1⟩; subst he; subst hw1)
  go_wp2_with fail
  refine hK.out _ _ ⟨Bx.keep_cell (Bx.bel_refl _) hHeld.1, Bx.keep_cell (Bx.bel_refl _) hHeld.2⟩ (fun hNew => ?_)
  clear hHeld
  have hHeld := hNew
  clear hNew
  refine wpAnyH_take (i := 2) (oi := ?o2) (v := ?v2) ?hi2 (by kernel_rfl) (by kernel_rfl) (by kernel_rfl) (fun _ _ _ h => h) ?y2 (by assumption) ?r2
  case hi2 => (simp only [List.getElem?_toArray, List.getElem?_cons_succ, List.getElem?_cons_zero]; rfl)
  case y2 => (refine Or.inl ⟨by rfl, ?_⟩; intro w' hSw; (try dsimp only at hSw); go_simp; (try with_reducible rfl))
  try simp only [Act.put, List.setIfInBounds_toArray, List.set_cons_zero, List.set_cons_succ]
  refine wpAnyH_take (i := 3) (oi := ?o3) (v := ?v3) ?hi3 (by kernel_rfl) (by kernel_rfl) (by kernel_rfl) (fun _ _ _ h => h) ?y3 (by assumption) ?r3
  case hi3 => (simp only [List.getElem?_toArray, List.getElem?_cons_succ, List.getElem?_cons_zero]; rfl)
  case y3 => (refine Or.inl ⟨by rfl, ?_⟩; intro w' hSw; (try dsimp only at hSw); go_simp; (try with_reducible rfl))
  try simp only [Act.put, List.setIfInBounds_toArray, List.set_cons_zero, List.set_cons_succ]
  refine wpAnyH_take (i := 4) (oi := ?o4) (v := undef) ?hi4 (by kernel_rfl) (by kernel_rfl) (by kernel_rfl) (fun _ _ _ h => h) ?y4 (by assumption) ?r4
  case hi4 => (simp only [List.getElem?_toArray, List.getElem?_cons_succ, List.getElem?_cons_zero]; rfl)
  case y4 => exact Or.inr ⟨by rfl, rfl⟩
  try simp only [Act.put, List.setIfInBounds_toArray, List.set_cons_zero, List.set_cons_succ]
  refine wpAnyH_take (i := 5) (oi := ?o5) (v := undef) ?hi5 (by kernel_rfl) (by kernel_rfl) (by kernel_rfl) (fun _ _ _ h => h) ?y5 (by assumption) ?r5
  case hi5 => (simp only [List.getElem?_toArray, List.getElem?_cons_succ, List.getElem?_cons_zero]; rfl)
  case y5 => exact Or.inr ⟨by rfl, rfl⟩
  try simp only [Act.put, List.setIfInBounds_toArray, List.set_cons_zero, List.set_cons_succ]
  refine wpAnyH_take (i := 6) (oi := ?o6) (v := undef) ?hi6 (by kernel_rfl) (by kernel_rfl) (by kernel_rfl) (fun _ _ _ h => h) ?y6 (by assumption) ?r6
  case hi6 => (simp only [List.getElem?_toArray, List.getElem?_cons_succ, List.getElem?_cons_zero]; rfl)
  case y6 => exact Or.inr ⟨by rfl, rfl⟩
  try simp only [Act.put, List.setIfInBounds_toArray, List.set_cons_zero, List.set_cons_succ]
  refine wpAnyH_take (i := 7) (oi := ?o7) (v := undef) ?hi7 (by kernel_rfl) (by kernel_rfl) (by kernel_rfl) (fun _ _ _ h => h) ?y7 (by assumption) ?r7
  case hi7 => (simp only [List.getElem?_toArray, List.getElem?_cons_succ, List.getElem?_cons_zero]; rfl)
  case y7 => exact Or.inr ⟨by rfl, rfl⟩
  try simp only [Act.put, List.setIfInBounds_toArray, List.set_cons_zero, List.set_cons_succ]
  refine wpAnyH_take (i := 8) (oi := ?o8) (v := undef) ?hi8 (by kernel_rfl) (by kernel_rfl) (by kernel_rfl) (fun _ _ _ h => h) ?y8 (by assumption) ?r8
  case hi8 => (simp only [List.getElem?_toArray, List.getElem?_cons_succ, List.getElem?_cons_zero]; rfl)
  case y8 => exact Or.inr ⟨by rfl, rfl⟩
  try simp only [Act.put, List.setIfInBounds_toArray, List.set_cons_zero, List.set_cons_succ]
  refine wpAnyH_take (i := 9) (oi := ?o9) (v := undef) ?hi9 (by kernel_rfl) (by kernel_rfl) (by kernel_rfl) (fun _ _ _ h => h) ?y9 (by assumption) ?r9
  case hi9 => (simp only [List.getElem?_toArray, List.getElem?_cons_succ, List.getElem?_cons_zero]; rfl)
  case y9 => exact Or.inr ⟨by rfl, rfl⟩
  try simp only [Act.put, List.setIfInBounds_toArray, List.set_cons_zero, List.set_cons_succ]
  refine wpAnyH_take (i := 10) (oi := ?o10) (v := undef) ?hi10 (by kernel_rfl) (by kernel_rfl) (by kernel_rfl) (fun _ _ _ h => h) ?y10 (by assumption) ?r10
  case hi10 => (simp only [List.getElem?_toArray, List.getElem?_cons_succ, List.getElem?_cons_zero]; rfl)
  case y10 => exact Or.inr ⟨by rfl, rfl⟩
  try simp only [Act.put, List.setIfInBounds_toArray, List.set_cons_zero, List.set_cons_succ]
  refine wpAnyH_take (i := 11) (oi := ?o11) (v := undef) ?hi11 (by kernel_rfl) (by kernel_rfl) (by kernel_rfl) (fun _ _ _ h => h) ?y11 (by assumption) ?r11
  case hi11 => (simp only [List.getElem?_toArray, List.getElem?_cons_succ, List.getElem?_cons_zero]; rfl)
  case y11 => exact Or.inr ⟨by rfl, rfl⟩
  try simp only [Act.put, List.setIfInBounds_toArray, List.set_cons_zero, List.set_cons_succ]
  refine wpAnyH_take (i := 12) (oi := ?o12) (v := ?v12) ?hi12 (by kernel_rfl) (by kernel_rfl) (by kernel_rfl) (fun _ _ _ h => h) ?y12 (by assumption) ?r12
  case hi12 => (simp only [List.getElem?_toArray, List.getElem?_cons_succ, List.getElem?_cons_zero]; rfl)
  case y12 => (refine Or.inl ⟨by rfl, ?_⟩; intro w' hSw; (try dsimp only at hSw); go_simp; (try with_reducible rfl))
  try simp only [Act.put, List.setIfInBounds_toArray, List.set_cons_zero, List.set_cons_succ]
  refine wpAnyH_done (by kernel_rfl) ?_ _
  refine NoPanic.normal ?_
  go_wp2
  go_ret2
  exact ⟨by rw [HZ.out.1, HZ.out.2]; rfl, Bx.bel_drewn bel.out⟩

end Mem
end Go.Proofs.Ytbighadkcmhplaa
