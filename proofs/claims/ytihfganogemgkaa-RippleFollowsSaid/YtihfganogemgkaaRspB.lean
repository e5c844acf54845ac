/-
  What repeats, replaces, sortDesignated and Sort answer.
-/
import Derived.Test.YtihfganogemgkaaRspA
import Derived.Test.YtihfganogemgkaaCrdEq
import Derived.Deep.RegionHeld3
namespace Go.Proofs.Ytihfganogemgkaa
open Go.RowKit
namespace Rsp
open Pre Crd

set_option maxRecDepth 40000 in
set_option maxHeartbeats 8000000 in
theorem rep_no (c : Cd) (b : Bd) (w : World) (h : ¬ c.info = 2) : Calls Try.prog 47 #[cdv c, bdv b] w fun e w' => e = .returned (.bool false) ∧ Below w.heap.size w w' := by
  have B0 := Lib.hid ((Bx.Blk.new w (cdl c) 28).more (bdo b))
  have B1 := Lib.hid (Bx.Blk.new_at (W := w.alloc (cdo c)) (k := w.heap.size + 1) (bdl b) 49 (by simp))
  have bel := Lib.hid (Bx.bel_box (Bx.box_below w (cdo c)) (bdo b))
  have h2 : (c.info == 2) = false := by simpa using h
  clear h
  go_enter Try.func47, Try.ntmps47
  go_wp2
  go_quiet (fail)
  go_wp2
  go_ret
  exact ⟨rfl, below_drewN bel.out nq⟩

set_option maxRecDepth 40000 in
set_option maxHeartbeats 8000000 in
theorem rep_other (c : Cd) (b : Bd) (w : World) (h : c.info = 2) (h' : ¬ b.v = c.v) : Calls Try.prog 47 #[cdv c, bdv b] w fun e w' => e = .returned (.bool false) ∧ Below w.heap.size w w' := by
  have B0 := Lib.hid ((Bx.Blk.new w (cdl c) 28).more (bdo b))
  have B1 := Lib.hid (Bx.Blk.new_at (W := w.alloc (cdo c)) (k := w.heap.size + 1) (bdl b) 49 (by simp))
  have bel := Lib.hid (Bx.bel_box (Bx.box_below w (cdo c)) (bdo b))
  have h2 : (c.info == 2) = true := by simpa using h
  have hv : ∀ w, (binOp .eql 26 (vv b.v) (vv c.v)).run Try.prog w = .ok (.bool false) w := fun w => by rw [veql_at, decide_eq_false h']
  have hg := fun op a y w => vguard_at op a y b.v c.v w
  clear h h'
  go_enter Try.func47, Try.ntmps47
  go_wp2
  go_quiet (fail)
  go_wp2
  go_ret
  exact ⟨rfl, below_drewN bel.out nq⟩

set_option maxRecDepth 40000 in
set_option maxHeartbeats 8000000 in
theorem rep_same (c : Cd) (b : Bd) (ha : -9223372036854775808 ≤ b.t.a) (w : World) (h : c.info = 2) (h' : b.v = c.v) : Calls Try.prog 47 #[cdv c, bdv b] w fun e w' => e = .returned (.bool (decide (oldT b.t = c.t))) ∧ Below w.heap.size w w' := by
  have B0 := Lib.hid ((Bx.Blk.new w (cdl c) 28).more (bdo b))
  have B1 := Lib.hid (Bx.Blk.new_at (W := w.alloc (cdo c)) (k := w.heap.size + 1) (bdl b) 49 (by simp))
  have bel := Lib.hid (Bx.bel_box (Bx.box_below w (cdo c)) (bdo b))
  have h2 : (c.info == 2) = true := by simpa using h
  have hv : ∀ w, (binOp .eql 26 (vv b.v) (vv c.v)).run Try.prog w = .ok (.bool true) w := fun w => by rw [veql_at, decide_eq_true h']
  have hg := fun op a y w => vguard_at op a y b.v c.v w
  have HT := Lib.hid (times_any b)
  have HO := Lib.hid (fun w => older_any b.t ha w)
  have ht : ∀ w, (binOp .eql 24 (.agg #[.int .i64 (olderA b.t.a), .int .i64 b.t.m, .int .i64 b.t.h, .int .i64 b.t.d]) (.agg #[.int .i64 c.t.a, .int .i64 c.t.m, .int .i64 c.t.h, .int .i64 c.t.d])).run Try.prog w = .ok (.bool (decide (oldT b.t = c.t))) w := fun w => teql_at (oldT b.t) c.t w
  have hq : ∀ (op : BinOp) (a y : Operand) (w : World), Sem.run Try.prog (eqGuard op 24 a y (.agg #[.int .i64 (olderA b.t.a), .int .i64 b.t.m, .int .i64 b.t.h, .int .i64 b.t.d]) (.agg #[.int .i64 c.t.a, .int .i64 c.t.m, .int .i64 c.t.h, .int .i64 c.t.d])) w = .ok () w := fun op a y w => tguard_at op a y (oldT b.t) c.t w
  generalize decide (oldT b.t = c.t) = r at *
  clear h h'
  go_enter Try.func47, Try.ntmps47
  go_wp2
  refine wp_region_noPanic ?_
  refine wp_region_held_drew (S := fun w' => Bx.Blk w' w.heap.size (cdl c) ∧ Bx.Blk w' (w.heap.size + 1) (bdl b) ∧ w'.cell? ⟨w.heap.size, 4, none⟩ = some (.int .i64 c.info) ∧ w'.cell? ⟨w.heap.size, 5, none⟩ = some (.int .u64 c.v.r) ∧ w'.cell? ⟨w.heap.size, 6, none⟩ = some (.int .u64 c.v.c) ∧ w'.cell? ⟨w.heap.size, 7, none⟩ = some (.int .u64 c.v.b) ∧ w'.cell? ⟨w.heap.size, 8, none⟩ = some (.int .i64 c.v.p) ∧ w'.cell? ⟨w.heap.size, 9, none⟩ = some (.int .i64 c.t.a) ∧ w'.cell? ⟨w.heap.size, 10, none⟩ = some (.int .i64 c.t.m) ∧ w'.cell? ⟨w.heap.size, 11, none⟩ = some (.int .i64 c.t.h) ∧ w'.cell? ⟨w.heap.size, 12, none⟩ = some (.int .i64 c.t.d) ∧ w'.cell? ⟨w.heap.size + 1, 8, none⟩ = some (.int .u64 b.v.r) ∧ w'.cell? ⟨w.heap.size + 1, 9, none⟩ = some (.int .u64 b.v.c) ∧ w'.cell? ⟨w.heap.size + 1, 10, none⟩ = some (.int .u64 b.v.b) ∧ w'.cell? ⟨w.heap.size + 1, 11, none⟩ = some (.int .i64 b.v.p)) (by kernel_rfl) (by exact ⟨B0.out, B1.out, B0.out.at 4 rfl, B0.out.at 5 rfl, B0.out.at 6 rfl, B0.out.at 7 rfl, B0.out.at 8 rfl, B0.out.at 9 rfl, B0.out.at 10 rfl, B0.out.at 11 rfl, B0.out.at 12 rfl, B1.out.at 8 rfl, B1.out.at 9 rfl, B1.out.at 10 rfl, B1.out.at 11 rfl⟩) (fun hHeld => ?_)
  replace bel := Lib.hid (Bx.bel_drewn bel.out)
  refine wpAnyH_take (i := 0) (oi := ?o0) (v := ?v0) ?hi0 (by kernel_rfl) (by kernel_rfl) (by kernel_rfl) (fun _ _ _ h => h) ?y0 (by assumption) ?r0
  case hi0 => (simp only [List.getElem?_toArray, List.getElem?_cons_zero]; rfl)
  case y0 => (refine Or.inl ⟨by rfl, ?_⟩; intro w' hSw; (try dsimp only at hSw); go_simp; (try with_reducible rfl))
  try simp only [Act.put, List.setIfInBounds_toArray, List.set_cons_zero, List.set_cons_succ]
  refine wpAnyH_take (i := 1) (oi := ?o1) (v := ?v1) ?hi1 (by kernel_rfl) (by kernel_rfl) (by kernel_rfl) (fun _ _ _ h => h) ?y1 (by assumption) ?r1
  case hi1 => (simp only [List.getElem?_toArray, List.getElem?_cons_succ, List.getElem?_cons_zero]; rfl)
  case y1 => (refine Or.inl ⟨by rfl, ?_⟩; intro w' hSw; (try dsimp only at hSw); go_simp; (try with_reducible rfl))
  try simp only [Act.put, List.setIfInBounds_toArray, List.set_cons_zero, List.set_cons_succ]
  refine wpAnyH_take (i := 2) (oi := ?o2) (v := ?v2) ?hi2 (by kernel_rfl) (by kernel_rfl) (by kernel_rfl) (fun _ _ _ h => h) ?y2 (by assumption) ?r2
  case hi2 => (simp only [List.getElem?_toArray, List.getElem?_cons_succ, List.getElem?_cons_zero]; rfl)
  case y2 => (refine Or.inl ⟨by rfl, ?_⟩; intro w' hSw; (try dsimp only at hSw); go_simp; (try with_reducible rfl))
  try simp only [Act.put, List.setIfInBounds_toArray, List.set_cons_zero, List.set_cons_succ]
  refine wpAnyH_take (i := 3) (oi := ?o3) (v := ?v3) ?hi3 (by kernel_rfl) (by kernel_rfl) (by kernel_rfl) (fun _ _ _ h => h) ?y3 (by assumption) ?r3
  case hi3 => (simp only [List.getElem?_toArray, List.getElem?_cons_succ, List.getElem?_cons_zero]; rfl)
  case y3 => (refine Or.inl ⟨by rfl, ?_⟩; intro w' hSw; (try dsimp only at hSw); go_simp; (try with_reducible rfl))
  try simp only [Act.put, List.setIfInBounds_toArray, List.set_cons_zero, List.set_cons_succ]
  refine wpAnyH_take (i := 4) (oi := ?o4) (v := ?v4) ?hi4 (by kernel_rfl) (by kernel_rfl) (by kernel_rfl) (fun _ _ _ h => h) ?y4 (by assumption) ?r4
  case hi4 => (simp only [List.getElem?_toArray, List.getElem?_cons_succ, List.getElem?_cons_zero]; rfl)
  case y4 => (refine Or.inl ⟨by rfl, ?_⟩; intro w' hSw; (try dsimp only at hSw); go_simp; (try with_reducible rfl))
  try simp only [Act.put, List.setIfInBounds_toArray, List.set_cons_zero, List.set_cons_succ]
  refine wpAnyH_take (i := 5) (oi := ?o5) (v := ?v5) ?hi5 (by kernel_rfl) (by kernel_rfl) (by kernel_rfl) (fun _ _ _ h => h) ?y5 (by assumption) ?r5
  case hi5 => (simp only [List.getElem?_toArray, List.getElem?_cons_succ, List.getElem?_cons_zero]; rfl)
  case y5 => (refine Or.inl ⟨by rfl, ?_⟩; intro w' hSw; (try dsimp only at hSw); go_simp; (try with_reducible rfl))
  try simp only [Act.put, List.setIfInBounds_toArray, List.set_cons_zero, List.set_cons_succ]
  refine wpAnyH_take (i := 6) (oi := ?o6) (v := ?v6) ?hi6 (by kernel_rfl) (by kernel_rfl) (by kernel_rfl) (fun _ _ _ h => h) ?y6 (by assumption) ?r6
  case hi6 => (simp only [List.getElem?_toArray, List.getElem?_cons_succ, List.getElem?_cons_zero]; rfl)
  case y6 => (refine Or.inl ⟨by rfl, ?_⟩; intro w' hSw; (try dsimp only at hSw); go_simp; (try with_reducible rfl))
  try simp only [Act.put, List.setIfInBounds_toArray, List.set_cons_zero, List.set_cons_succ]
  refine wpAnyH_take (i := 7) (oi := ?o7) (v := ?v7) ?hi7 (by kernel_rfl) (by kernel_rfl) (by kernel_rfl) (fun _ _ _ h => h) ?y7 (by assumption) ?r7
  case hi7 => (simp only [List.getElem?_toArray, List.getElem?_cons_succ, List.getElem?_cons_zero]; rfl)
  case y7 => (refine Or.inl ⟨by rfl, ?_⟩; intro w' hSw; (try dsimp only at hSw); go_simp; (try with_reducible rfl))
  try simp only [Act.put, List.setIfInBounds_toArray, List.set_cons_zero, List.set_cons_succ]
  refine wpAnyH_take (i := 8) (oi := ?o8) (v := ?v8) ?hi8 (by kernel_rfl) (by kernel_rfl) (by kernel_rfl) (fun _ _ _ h => h) ?y8 (by assumption) ?r8
  case hi8 => (simp only [List.getElem?_toArray, List.getElem?_cons_succ, List.getElem?_cons_zero]; rfl)
  case y8 => (refine Or.inl ⟨by rfl, ?_⟩; intro w' hSw; (try dsimp only at hSw); go_simp; (try with_reducible rfl))
  try simp only [Act.put, List.setIfInBounds_toArray, List.set_cons_zero, List.set_cons_succ]
  refine wpAnyH_take (i := 9) (oi := ?o9) (v := ?v9) ?hi9 (by kernel_rfl) (by kernel_rfl) (by kernel_rfl) (fun _ _ _ h => h) ?y9 (by assumption) ?r9
  case hi9 => (simp only [List.getElem?_toArray, List.getElem?_cons_succ, List.getElem?_cons_zero]; rfl)
  case y9 => (refine Or.inl ⟨by rfl, ?_⟩; intro w' hSw; (try dsimp only at hSw); go_simp; (try with_reducible rfl))
  try simp only [Act.put, List.setIfInBounds_toArray, List.set_cons_zero, List.set_cons_succ]
  refine wpAnyH_take (i := 10) (oi := ?o10) (v := ?v10) ?hi10 (by kernel_rfl) (by kernel_rfl) (by kernel_rfl) (fun _ _ _ h => h) ?y10 (by assumption) ?r10
  case hi10 => (simp only [List.getElem?_toArray, List.getElem?_cons_succ, List.getElem?_cons_zero]; rfl)
  case y10 => (refine Or.inl ⟨by rfl, ?_⟩; intro w' hSw; (try dsimp only at hSw); go_simp; (try with_reducible rfl))
  try simp only [Act.put, List.setIfInBounds_toArray, List.set_cons_zero, List.set_cons_succ]
  refine wpAnyH_take (i := 11) (oi := ?o11) (v := bdv b) ?hi11 (by kernel_rfl) (by kernel_rfl) (by kernel_rfl) (fun _ _ _ h => h) ?y11 (by assumption) ?r11
  case hi11 => (simp only [List.getElem?_toArray, List.getElem?_cons_succ, List.getElem?_cons_zero]; rfl)
  case y11 => (refine bd_yields rfl rfl (w.heap.size + 1) rfl b ?_; intro w' hS; exact hS.2.1)
  try simp only [Act.put, List.setIfInBounds_toArray, List.set_cons_zero, List.set_cons_succ]
  refine wpAnyH_take (i := 14) (oi := ?o14) (v := ?v14) ?hi14 (by kernel_rfl) (by kernel_rfl) (by kernel_rfl) (fun _ _ _ h => h) ?y14 (by assumption) ?r14
  case hi14 => (simp only [List.getElem?_toArray, List.getElem?_cons_succ, List.getElem?_cons_zero]; rfl)
  case y14 => (refine Or.inl ⟨by rfl, ?_⟩; intro w' hSw; (try dsimp only at hSw); go_simp; (try with_reducible rfl))
  try simp only [Act.put, List.setIfInBounds_toArray, List.set_cons_zero, List.set_cons_succ]
  refine wpAnyH_take (i := 15) (oi := ?o15) (v := ?v15) ?hi15 (by kernel_rfl) (by kernel_rfl) (by kernel_rfl) (fun _ _ _ h => h) ?y15 (by assumption) ?r15
  case hi15 => (simp only [List.getElem?_toArray, List.getElem?_cons_succ, List.getElem?_cons_zero]; rfl)
  case y15 => (refine Or.inl ⟨by rfl, ?_⟩; intro w' hSw; (try dsimp only at hSw); go_simp; (try with_reducible rfl))
  try simp only [Act.put, List.setIfInBounds_toArray, List.set_cons_zero, List.set_cons_succ]
  refine wpAnyH_ready (rs := [12]) (by kernel_rfl) (by simp) ?_
  refine AllReadyH.cons (o := ?o12) ?hi12 ?hst12 AllReadyH.nil
  case hi12 => (simp only [List.getElem?_toArray, List.getElem?_cons_succ, List.getElem?_cons_zero]; rfl)
  intro K hK
  go_simp
  (go_at_call 43; (with_reducible refine (HT.out _).mono ?_); rintro e w1 ⟨rfl, hb1⟩)
  go_wp2_with fail
  refine hK.out _ _ ⟨Bx.Blk.keep hHeld.1 hb1, Bx.Blk.keep hHeld.2.1 hb1, Bx.keep_cell hb1 hHeld.2.2.1, Bx.keep_cell hb1 hHeld.2.2.2.1, Bx.keep_cell hb1 hHeld.2.2.2.2.1, Bx.keep_cell hb1 hHeld.2.2.2.2.2.1, Bx.keep_cell hb1 hHeld.2.2.2.2.2.2.1, Bx.keep_cell hb1 hHeld.2.2.2.2.2.2.2.1, Bx.keep_cell hb1 hHeld.2.2.2.2.2.2.2.2.1, Bx.keep_cell hb1 hHeld.2.2.2.2.2.2.2.2.2.1, Bx.keep_cell hb1 hHeld.2.2.2.2.2.2.2.2.2.2.1, Bx.keep_cell hb1 hHeld.2.2.2.2.2.2.2.2.2.2.2.1, Bx.keep_cell hb1 hHeld.2.2.2.2.2.2.2.2.2.2.2.2.1, Bx.keep_cell hb1 hHeld.2.2.2.2.2.2.2.2.2.2.2.2.2.1, Bx.keep_cell hb1 hHeld.2.2.2.2.2.2.2.2.2.2.2.2.2.2⟩ (fun hNew => ?_)
  clear hHeld
  have hHeld := hNew
  clear hNew hK K
  replace bel := Lib.hid (Bx.then_below bel.out hb1)
  clear hb1
  refine wpAnyH_ready (rs := [13]) (by kernel_rfl) (by simp) ?_
  refine AllReadyH.cons (o := ?o13) ?hi13 ?hst13 AllReadyH.nil
  case hi13 => (simp only [List.getElem?_toArray, List.getElem?_cons_succ, List.getElem?_cons_zero]; rfl)
  intro K hK
  go_simp
  (go_at_call 42; (with_reducible refine (HO.out _).mono ?_); rintro e w2 ⟨rfl, hb2⟩)
  go_wp2_with fail
  refine hK.out _ _ ⟨Bx.Blk.keep hHeld.1 hb2, Bx.Blk.keep hHeld.2.1 hb2, Bx.keep_cell hb2 hHeld.2.2.1, Bx.keep_cell hb2 hHeld.2.2.2.1, Bx.keep_cell hb2 hHeld.2.2.2.2.1, Bx.keep_cell hb2 hHeld.2.2.2.2.2.1, Bx.keep_cell hb2 hHeld.2.2.2.2.2.2.1, Bx.keep_cell hb2 hHeld.2.2.2.2.2.2.2.1, Bx.keep_cell hb2 hHeld.2.2.2.2.2.2.2.2.1, Bx.keep_cell hb2 hHeld.2.2.2.2.2.2.2.2.2.1, Bx.keep_cell hb2 hHeld.2.2.2.2.2.2.2.2.2.2.1, Bx.keep_cell hb2 hHeld.2.2.2.2.2.2.2.2.2.2.2.1, Bx.keep_cell hb2 hHeld.2.2.2.2.2.2.2.2.2.2.2.2.1, Bx.keep_cell hb2 hHeld.2.2.2.2.2.2.2.2.2.2.2.2.2.1, Bx.keep_cell hb2 hHeld.2.2.2.2.2.2.2.2.2.2.2.2.2.2⟩ (fun hNew => ?_)
  clear hHeld
  have hHeld := hNew
  clear hNew hK K
  replace bel := Lib.hid (Bx.then_below bel.out hb2)
  clear hb2
  refine wpAnyH_take (i := 16) (oi := ?o16) (v := ?v16) ?hi16 (by kernel_rfl) (by kernel_rfl) (by kernel_rfl) (fun _ _ _ h => h) ?y16 (by assumption) ?r16
  case hi16 => (simp only [List.getElem?_toArray, List.getElem?_cons_succ, List.getElem?_cons_zero]; rfl)
  case y16 => (refine Or.inl ⟨by rfl, ?_⟩; intro w' hSw; (try dsimp only at hSw); go_simp; (try with_reducible rfl))
  try simp only [Act.put, List.setIfInBounds_toArray, List.set_cons_zero, List.set_cons_succ]
  refine wpAnyH_take (i := 17) (oi := ?o17) (v := ?v17) ?hi17 (by kernel_rfl) (by kernel_rfl) (by kernel_rfl) (fun _ _ _ h => h) ?y17 (by assumption) ?r17
  case hi17 => (simp only [List.getElem?_toArray, List.getElem?_cons_succ, List.getElem?_cons_zero]; rfl)
  case y17 => (refine Or.inl ⟨by rfl, ?_⟩; intro w' hSw; (try dsimp only at hSw); go_simp; (try with_reducible rfl))
  try simp only [Act.put, List.setIfInBounds_toArray, List.set_cons_zero, List.set_cons_succ]
  refine wpAnyH_take (i := 18) (oi := ?o18) (v := ?v18) ?hi18 (by kernel_rfl) (by kernel_rfl) (by kernel_rfl) (fun _ _ _ h => h) ?y18 (by assumption) ?r18
  case hi18 => (simp only [List.getElem?_toArray, List.getElem?_cons_succ, List.getElem?_cons_zero]; rfl)
  case y18 => (refine Or.inl ⟨by rfl, ?_⟩; intro w' hSw; (try dsimp only at hSw); go_simp; (try with_reducible rfl))
  try simp only [Act.put, List.setIfInBounds_toArray, List.set_cons_zero, List.set_cons_succ]
  refine wpAnyH_done (by kernel_rfl) ?_ _
  refine NoPanic.normal ?_
  go_wp2_with fail
  go_ret
  exact ⟨rfl, bel.out⟩

set_option maxRecDepth 40000 in
set_option maxHeartbeats 8000000 in
theorem rep_any (c : Cd) (b : Bd) (ha : -9223372036854775808 ≤ b.t.a) (w : World) : Calls Try.prog 47 #[cdv c, bdv b] w fun e w' => e = .returned (.bool (repB c b)) ∧ Below w.heap.size w w' := by
  unfold repB
  by_cases h : c.info = 2
  · by_cases h' : b.v = c.v
    · rw [decide_eq_true h, decide_eq_true h']
      exact rep_same c b ha w h h'
    · rw [decide_eq_true h, decide_eq_false h']
      exact rep_other c b w h h'
  · rw [decide_eq_false h]
    exact rep_no c b w h

set_option maxRecDepth 40000 in
set_option maxHeartbeats 8000000 in
theorem repl_yes (c : Cd) (b : Bd) (w : World) (h : c.info = 0 ∨ (c.info = 2 ∧ b.v.b = c.v.b ∧ b.v.p = c.v.p)) : Calls Try.prog 48 #[cdv c, bdv b] w fun e w' => e = .returned (.bool true) ∧ Below w.heap.size w w' := by
  have B0 := Lib.hid ((Bx.Blk.new w (cdl c) 28).more (bdo b))
  have B1 := Lib.hid (Bx.Blk.new_at (W := w.alloc (cdo c)) (k := w.heap.size + 1) (bdl b) 49 (by simp))
  have bel := Lib.hid (Bx.bel_box (Bx.box_below w (cdo c)) (bdo b))
  rcases h with h | ⟨h, hb, hp⟩
  · have h0 : (c.info == 0) = true := by simpa using h
    clear h
    go_enter Try.func48, Try.ntmps48
    go_wp2
    go_ret
    exact ⟨rfl, bel.out⟩
  · have h0 : (c.info == 0) = false := by simp; omega
    have h2 : (c.info == 2) = true := by simpa using h
    have h3 : ((b.v.b : Int) == c.v.b) = true := by simp; omega
    have h4 : (b.v.p == c.v.p) = true := by simpa using hp
    clear h hb hp
    go_enter Try.func48, Try.ntmps48
    go_wp2
    go_ret
    exact ⟨rfl, bel.out⟩

set_option maxRecDepth 40000 in
set_option maxHeartbeats 8000000 in
theorem repl_no (c : Cd) (b : Bd) (w : World) (h : ¬ c.info = 0) (h' : ¬ (c.info = 2 ∧ b.v.b = c.v.b ∧ b.v.p = c.v.p)) : Calls Try.prog 48 #[cdv c, bdv b] w fun e w' => e = .returned (.bool (ltV b.v c.v)) ∧ Below w.heap.size w w' := by
  have B0 := Lib.hid ((Bx.Blk.new w (cdl c) 28).more (bdo b))
  have B1 := Lib.hid (Bx.Blk.new_at (W := w.alloc (cdo c)) (k := w.heap.size + 1) (bdl b) 49 (by simp))
  have bel := Lib.hid (Bx.bel_box (Bx.box_below w (cdo c)) (bdo b))
  have HB := Lib.hid (better_any b.v c.v)
  generalize ltV b.v c.v = r at *
  have h0 : (c.info == 0) = false := by simpa using h
  by_cases h2 : c.info = 2
  · have h2' : (c.info == 2) = true := by simpa using h2
    by_cases hb : b.v.b = c.v.b
    · have h3 : ((b.v.b : Int) == c.v.b) = true := by simp; omega
      have h4 : (b.v.p == c.v.p) = false := by simp; exact fun h => h' ⟨h2, hb, h⟩
      clear hb h2 h' h
      go_enter Try.func48, Try.ntmps48
      go_wp2_with fail
      refine (HB.out _).mono ?_; rintro e w1 ⟨rfl, hb1⟩
      have b2 := Lib.hid (Bx.then_below bel.out hb1)
      clear hb1
      go_wp2
      go_ret
      exact ⟨rfl, b2.out⟩
    · have h3 : ((b.v.b : Int) == c.v.b) = false := by simp; omega
      clear hb h2 h' h
      go_enter Try.func48, Try.ntmps48
      go_wp2_with fail
      refine (HB.out _).mono ?_; rintro e w1 ⟨rfl, hb1⟩
      have b2 := Lib.hid (Bx.then_below bel.out hb1)
      clear hb1
      go_wp2
      go_ret
      exact ⟨rfl, b2.out⟩
  · have h2' : (c.info == 2) = false := by simpa using h2
    clear h2 h' h
    go_enter Try.func48, Try.ntmps48
    go_wp2_with fail
    refine (HB.out _).mono ?_; rintro e w1 ⟨rfl, hb1⟩
    have b2 := Lib.hid (Bx.then_below bel.out hb1)
    clear hb1
    go_wp2
    go_ret
    exact ⟨rfl, b2.out⟩

set_option maxRecDepth 40000 in
set_option maxHeartbeats 8000000 in
theorem repl_any (c : Cd) (b : Bd) (w : World) : Calls Try.prog 48 #[cdv c, bdv b] w fun e w' => e = .returned (.bool (replB c b)) ∧ Below w.heap.size w w' := by
  unfold replB
  by_cases h : c.info = 0
  · rw [if_pos h]
    exact repl_yes c b w (.inl h)
  · rw [if_neg h]
    by_cases h' : c.info = 2 ∧ b.v.b = c.v.b ∧ b.v.p = c.v.p
    · rw [if_pos ⟨h'.1, by unfold fromB; simp [h'.2]⟩]
      exact repl_yes c b w (.inr h')
    · rw [if_neg (fun k => h' ⟨k.1, by have := k.2; unfold fromB at this; simpa using this⟩)]
      exact repl_no c b w h h'

set_option maxRecDepth 40000 in
set_option maxHeartbeats 8000000 in
theorem sortd2 (c : Cd) (b : Bd) (w : World) (HR : Hid (∀ w, Calls Try.prog 47 #[cdv c, bdv b] w fun e w' => e = .returned (.bool true) ∧ Below w.heap.size w w')) : Calls Try.prog 41 #[cdv c, bdv b] w fun e w' => e = .returned (.int .i64 2) ∧ Below w.heap.size w w' := by
  have B0 := Lib.hid ((Bx.Blk.new w (cdl c) 28).more (bdo b))
  have B1 := Lib.hid (Bx.Blk.new_at (W := w.alloc (cdo c)) (k := w.heap.size + 1) (bdl b) 49 (by simp))
  have bel := Lib.hid (Bx.bel_box (Bx.box_below w (cdo c)) (bdo b))
  go_enter Try.func41, Try.ntmps41
  go_wp2_with (first | ((with_reducible refine cd_load ?_ ?_ (w.heap.size) ?_ c ?_ ?_); (· rfl); (· rfl); (· rfl); (· exact B0.out)) | ((with_reducible refine bd_load ?_ ?_ (w.heap.size + 1) ?_ b ?_ ?_); (· rfl); (· rfl); (· rfl); (· exact B1.out)))
  refine (HR.out _).mono ?_; rintro e w1 ⟨rfl, hb⟩
  replace B0 := Lib.hid (B0.out.keep hb)
  replace B1 := Lib.hid (B1.out.keep hb)
  replace bel := Lib.hid (Bx.then_below bel.out hb)
  clear hb
  go_wp2_with (first | ((with_reducible refine cd_load ?_ ?_ (w.heap.size) ?_ c ?_ ?_); (· rfl); (· rfl); (· rfl); (· exact B0.out)) | ((with_reducible refine bd_load ?_ ?_ (w.heap.size + 1) ?_ b ?_ ?_); (· rfl); (· rfl); (· rfl); (· exact B1.out)))
  go_ret
  exact ⟨rfl, bel.out⟩

set_option maxRecDepth 40000 in
set_option maxHeartbeats 8000000 in
theorem sortd1 (c : Cd) (b : Bd) (w : World) (HR : Hid (∀ w, Calls Try.prog 47 #[cdv c, bdv b] w fun e w' => e = .returned (.bool false) ∧ Below w.heap.size w w')) (HL : Hid (∀ w, Calls Try.prog 48 #[cdv c, bdv b] w fun e w' => e = .returned (.bool true) ∧ Below w.heap.size w w')) : Calls Try.prog 41 #[cdv c, bdv b] w fun e w' => e = .returned (.int .i64 1) ∧ Below w.heap.size w w' := by
  have B0 := Lib.hid ((Bx.Blk.new w (cdl c) 28).more (bdo b))
  have B1 := Lib.hid (Bx.Blk.new_at (W := w.alloc (cdo c)) (k := w.heap.size + 1) (bdl b) 49 (by simp))
  have bel := Lib.hid (Bx.bel_box (Bx.box_below w (cdo c)) (bdo b))
  go_enter Try.func41, Try.ntmps41
  go_wp2_with (first | ((with_reducible refine cd_load ?_ ?_ (w.heap.size) ?_ c ?_ ?_); (· rfl); (· rfl); (· rfl); (· exact B0.out)) | ((with_reducible refine bd_load ?_ ?_ (w.heap.size + 1) ?_ b ?_ ?_); (· rfl); (· rfl); (· rfl); (· exact B1.out)))
  refine (HR.out _).mono ?_; rintro e w1 ⟨rfl, hb⟩
  replace B0 := Lib.hid (B0.out.keep hb)
  replace B1 := Lib.hid (B1.out.keep hb)
  replace bel := Lib.hid (Bx.then_below bel.out hb)
  clear hb
  go_wp2_with (first | ((with_reducible refine cd_load ?_ ?_ (w.heap.size) ?_ c ?_ ?_); (· rfl); (· rfl); (· rfl); (· exact B0.out)) | ((with_reducible refine bd_load ?_ ?_ (w.heap.size + 1) ?_ b ?_ ?_); (· rfl); (· rfl); (· rfl); (· exact B1.out)))
  refine (HL.out _).mono ?_; rintro e w2 ⟨rfl, hb⟩
  replace B0 := Lib.hid (B0.out.keep hb)
  replace B1 := Lib.hid (B1.out.keep hb)
  replace bel := Lib.hid (Bx.then_below bel.out hb)
  clear hb
  have c5 := B0.out.at 5 rfl
  have c6 := B0.out.at 6 rfl
  have c7 := B0.out.at 7 rfl
  have c8 := B0.out.at 8 rfl
  have d8 := B1.out.at 8 rfl
  have d9 := B1.out.at 9 rfl
  have d10 := B1.out.at 10 rfl
  have d11 := B1.out.at 11 rfl
  go_wp2_with (first | ((with_reducible refine cd_load ?_ ?_ (w.heap.size) ?_ c ?_ ?_); (· rfl); (· rfl); (· rfl); (· exact B0.out)) | ((with_reducible refine bd_load ?_ ?_ (w.heap.size + 1) ?_ b ?_ ?_); (· rfl); (· rfl); (· rfl); (· exact B1.out)))
  go_ret
  exact ⟨rfl, bel.out⟩

set_option maxRecDepth 40000 in
set_option maxHeartbeats 8000000 in
theorem sortd3 (c : Cd) (b : Bd) (w : World) (HR : Hid (∀ w, Calls Try.prog 47 #[cdv c, bdv b] w fun e w' => e = .returned (.bool false) ∧ Below w.heap.size w w')) (HL : Hid (∀ w, Calls Try.prog 48 #[cdv c, bdv b] w fun e w' => e = .returned (.bool false) ∧ Below w.heap.size w w')) (HB : Hid (∀ w, Calls Try.prog 20 #[vv c.v, vv b.v] w fun e w' => e = .returned (.bool true) ∧ Below w.heap.size w w')) : Calls Try.prog 41 #[cdv c, bdv b] w fun e w' => e = .returned (.int .i64 3) ∧ Below w.heap.size w w' := by
  have B0 := Lib.hid ((Bx.Blk.new w (cdl c) 28).more (bdo b))
  have B1 := Lib.hid (Bx.Blk.new_at (W := w.alloc (cdo c)) (k := w.heap.size + 1) (bdl b) 49 (by simp))
  have bel := Lib.hid (Bx.bel_box (Bx.box_below w (cdo c)) (bdo b))
  go_enter Try.func41, Try.ntmps41
  go_wp2_with (first | ((with_reducible refine cd_load ?_ ?_ (w.heap.size) ?_ c ?_ ?_); (· rfl); (· rfl); (· rfl); (· exact B0.out)) | ((with_reducible refine bd_load ?_ ?_ (w.heap.size + 1) ?_ b ?_ ?_); (· rfl); (· rfl); (· rfl); (· exact B1.out)))
  refine (HR.out _).mono ?_; rintro e w1 ⟨rfl, hb⟩
  replace B0 := Lib.hid (B0.out.keep hb)
  replace B1 := Lib.hid (B1.out.keep hb)
  replace bel := Lib.hid (Bx.then_below bel.out hb)
  clear hb
  go_wp2_with (first | ((with_reducible refine cd_load ?_ ?_ (w.heap.size) ?_ c ?_ ?_); (· rfl); (· rfl); (· rfl); (· exact B0.out)) | ((with_reducible refine bd_load ?_ ?_ (w.heap.size + 1) ?_ b ?_ ?_); (· rfl); (· rfl); (· rfl); (· exact B1.out)))
  refine (HL.out _).mono ?_; rintro e w2 ⟨rfl, hb⟩
  replace B0 := Lib.hid (B0.out.keep hb)
  replace B1 := Lib.hid (B1.out.keep hb)
  replace bel := Lib.hid (Bx.then_below bel.out hb)
  clear hb
  have c5 := B0.out.at 5 rfl
  have c6 := B0.out.at 6 rfl
  have c7 := B0.out.at 7 rfl
  have c8 := B0.out.at 8 rfl
  have d8 := B1.out.at 8 rfl
  have d9 := B1.out.at 9 rfl
  have d10 := B1.out.at 10 rfl
  have d11 := B1.out.at 11 rfl
  go_wp2_with (first | ((with_reducible refine cd_load ?_ ?_ (w.heap.size) ?_ c ?_ ?_); (· rfl); (· rfl); (· rfl); (· exact B0.out)) | ((with_reducible refine bd_load ?_ ?_ (w.heap.size + 1) ?_ b ?_ ?_); (· rfl); (· rfl); (· rfl); (· exact B1.out)))
  refine (HB.out _).mono ?_; rintro e w3 ⟨rfl, hb⟩
  replace B0 := Lib.hid (B0.out.keep hb)
  replace B1 := Lib.hid (B1.out.keep hb)
  replace bel := Lib.hid (Bx.then_below bel.out hb)
  clear hb
  go_wp2_with (first | ((with_reducible refine cd_load ?_ ?_ (w.heap.size) ?_ c ?_ ?_); (· rfl); (· rfl); (· rfl); (· exact B0.out)) | ((with_reducible refine bd_load ?_ ?_ (w.heap.size + 1) ?_ b ?_ ?_); (· rfl); (· rfl); (· rfl); (· exact B1.out)))
  go_ret
  exact ⟨rfl, bel.out⟩

set_option maxRecDepth 40000 in
set_option maxHeartbeats 8000000 in
theorem sortd0 (c : Cd) (b : Bd) (w : World) (HR : Hid (∀ w, Calls Try.prog 47 #[cdv c, bdv b] w fun e w' => e = .returned (.bool false) ∧ Below w.heap.size w w')) (HL : Hid (∀ w, Calls Try.prog 48 #[cdv c, bdv b] w fun e w' => e = .returned (.bool false) ∧ Below w.heap.size w w')) (HB : Hid (∀ w, Calls Try.prog 20 #[vv c.v, vv b.v] w fun e w' => e = .returned (.bool false) ∧ Below w.heap.size w w')) : Calls Try.prog 41 #[cdv c, bdv b] w fun e w' => e = .returned (.int .i64 0) ∧ Below w.heap.size w w' := by
  have B0 := Lib.hid ((Bx.Blk.new w (cdl c) 28).more (bdo b))
  have B1 := Lib.hid (Bx.Blk.new_at (W := w.alloc (cdo c)) (k := w.heap.size + 1) (bdl b) 49 (by simp))
  have bel := Lib.hid (Bx.bel_box (Bx.box_below w (cdo c)) (bdo b))
  go_enter Try.func41, Try.ntmps41
  go_wp2_with (first | ((with_reducible refine cd_load ?_ ?_ (w.heap.size) ?_ c ?_ ?_); (· rfl); (· rfl); (· rfl); (· exact B0.out)) | ((with_reducible refine bd_load ?_ ?_ (w.heap.size + 1) ?_ b ?_ ?_); (· rfl); (· rfl); (· rfl); (· exact B1.out)))
  refine (HR.out _).mono ?_; rintro e w1 ⟨rfl, hb⟩
  replace B0 := Lib.hid (B0.out.keep hb)
  replace B1 := Lib.hid (B1.out.keep hb)
  replace bel := Lib.hid (Bx.then_below bel.out hb)
  clear hb
  go_wp2_with (first | ((with_reducible refine cd_load ?_ ?_ (w.heap.size) ?_ c ?_ ?_); (· rfl); (· rfl); (· rfl); (· exact B0.out)) | ((with_reducible refine bd_load ?_ ?_ (w.heap.size + 1) ?_ b ?_ ?_); (· rfl); (· rfl); (· rfl); (· exact B1.out)))
  refine (HL.out _).mono ?_; rintro e w2 ⟨rfl, hb⟩
  replace B0 := Lib.hid (B0.out.keep hb)
  replace B1 := Lib.hid (B1.out.keep hb)
  replace bel := Lib.hid (Bx.then_below bel.out hb)
  clear hb
  have c5 := B0.out.at 5 rfl
  have c6 := B0.out.at 6 rfl
  have c7 := B0.out.at 7 rfl
  have c8 := B0.out.at 8 rfl
  have d8 := B1.out.at 8 rfl
  have d9 := B1.out.at 9 rfl
  have d10 := B1.out.at 10 rfl
  have d11 := B1.out.at 11 rfl
  go_wp2_with (first | ((with_reducible refine cd_load ?_ ?_ (w.heap.size) ?_ c ?_ ?_); (· rfl); (· rfl); (· rfl); (· exact B0.out)) | ((with_reducible refine bd_load ?_ ?_ (w.heap.size + 1) ?_ b ?_ ?_); (· rfl); (· rfl); (· rfl); (· exact B1.out)))
  refine (HB.out _).mono ?_; rintro e w3 ⟨rfl, hb⟩
  replace B0 := Lib.hid (B0.out.keep hb)
  replace B1 := Lib.hid (B1.out.keep hb)
  replace bel := Lib.hid (Bx.then_below bel.out hb)
  clear hb
  go_wp2_with (first | ((with_reducible refine cd_load ?_ ?_ (w.heap.size) ?_ c ?_ ?_); (· rfl); (· rfl); (· rfl); (· exact B0.out)) | ((with_reducible refine bd_load ?_ ?_ (w.heap.size + 1) ?_ b ?_ ?_); (· rfl); (· rfl); (· rfl); (· exact B1.out)))
  go_ret
  exact ⟨rfl, bel.out⟩

theorem sortd_any (c : Cd) (b : Bd) (ha : -9223372036854775808 ≤ b.t.a) (w : World) : Calls Try.prog 41 #[cdv c, bdv b] w fun e w' => e = .returned (.int .i64 (sortD c b)) ∧ Below w.heap.size w w' := by
  have HR := fun w => rep_any c b ha w
  have HL := fun w => repl_any c b w
  have HB := fun w => better_any c.v b.v w
  unfold sortD
  generalize repB c b = x at *
  generalize replB c b = y at *
  generalize ltV c.v b.v = z at *
  cases x
  · cases y
    · cases z
      · exact sortd0 c b w (Lib.hid HR) (Lib.hid HL) (Lib.hid HB)
      · exact sortd3 c b w (Lib.hid HR) (Lib.hid HL) (Lib.hid HB)
    · exact sortd1 c b w (Lib.hid HR) (Lib.hid HL)
  · exact sortd2 c b w (Lib.hid HR)

set_option maxRecDepth 40000 in
set_option maxHeartbeats 8000000 in
theorem sort3 (c : Cd) (b : Bd) (q : Int) (w : World) (HQ : Hid (∀ w, Calls Try.prog 40 #[bdv b] w fun e w' => e = .returned (.int .i64 q) ∧ Below w.heap.size w w')) (z : Int) (hq : q = 3) (HS : Hid (∀ w, Calls Try.prog 41 #[cdv c, bdv b] w fun e w' => e = .returned (.int .i64 z) ∧ Below w.heap.size w w')) : Calls Try.prog 27 #[cdv c, bdv b] w fun e w' => e = .returned (.int .i64 z) ∧ Below w.heap.size w w' := by
  have B0 := Lib.hid ((Bx.Blk.new w (cdl c) 28).more (bdo b))
  have B1 := Lib.hid (Bx.Blk.new_at (W := w.alloc (cdo c)) (k := w.heap.size + 1) (bdl b) 49 (by simp))
  have bel := Lib.hid (Bx.bel_box (Bx.box_below w (cdo c)) (bdo b))
  have q3 : (q == 3) = true := by simp; omega
  clear hq
  go_enter Try.func27, Try.ntmps27
  go_wp2_with (first | ((with_reducible refine cd_load ?_ ?_ (w.heap.size) ?_ c ?_ ?_); (· rfl); (· rfl); (· rfl); (· exact B0.out)) | ((with_reducible refine bd_load ?_ ?_ (w.heap.size + 1) ?_ b ?_ ?_); (· rfl); (· rfl); (· rfl); (· exact B1.out)))
  refine (HQ.out _).mono ?_; rintro e w1 ⟨rfl, hb⟩
  replace B0 := Lib.hid (B0.out.keep hb)
  replace B1 := Lib.hid (B1.out.keep hb)
  replace bel := Lib.hid (Bx.then_below bel.out hb)
  clear hb
  go_wp2_with (first | ((with_reducible refine cd_load ?_ ?_ (w.heap.size) ?_ c ?_ ?_); (· rfl); (· rfl); (· rfl); (· exact B0.out)) | ((with_reducible refine bd_load ?_ ?_ (w.heap.size + 1) ?_ b ?_ ?_); (· rfl); (· rfl); (· rfl); (· exact B1.out)))
  refine (HS.out _).mono ?_; rintro e w2 ⟨rfl, hb⟩
  replace B0 := Lib.hid (B0.out.keep hb)
  replace B1 := Lib.hid (B1.out.keep hb)
  replace bel := Lib.hid (Bx.then_below bel.out hb)
  clear hb
  go_wp2_with (first | ((with_reducible refine cd_load ?_ ?_ (w.heap.size) ?_ c ?_ ?_); (· rfl); (· rfl); (· rfl); (· exact B0.out)) | ((with_reducible refine bd_load ?_ ?_ (w.heap.size + 1) ?_ b ?_ ?_); (· rfl); (· rfl); (· rfl); (· exact B1.out)))
  go_ret
  exact ⟨rfl, bel.out⟩

set_option maxRecDepth 40000 in
set_option maxHeartbeats 8000000 in
theorem sort2t (c : Cd) (b : Bd) (q : Int) (w : World) (HQ : Hid (∀ w, Calls Try.prog 40 #[bdv b] w fun e w' => e = .returned (.int .i64 q) ∧ Below w.heap.size w w')) (hq : q = 2) (HB : Hid (∀ w, Calls Try.prog 20 #[vv b.v, vv c.v] w fun e w' => e = .returned (.bool true) ∧ Below w.heap.size w w')) : Calls Try.prog 27 #[cdv c, bdv b] w fun e w' => e = .returned (.int .i64 0) ∧ Below w.heap.size w w' := by
  have B0 := Lib.hid ((Bx.Blk.new w (cdl c) 28).more (bdo b))
  have B1 := Lib.hid (Bx.Blk.new_at (W := w.alloc (cdo c)) (k := w.heap.size + 1) (bdl b) 49 (by simp))
  have bel := Lib.hid (Bx.bel_box (Bx.box_below w (cdo c)) (bdo b))
  have q3 : (q == 3) = false := by simp; omega
  have q2 : (q == 2) = true := by simp; omega
  clear hq
  go_enter Try.func27, Try.ntmps27
  go_wp2_with (first | ((with_reducible refine cd_load ?_ ?_ (w.heap.size) ?_ c ?_ ?_); (· rfl); (· rfl); (· rfl); (· exact B0.out)) | ((with_reducible refine bd_load ?_ ?_ (w.heap.size + 1) ?_ b ?_ ?_); (· rfl); (· rfl); (· rfl); (· exact B1.out)))
  refine (HQ.out _).mono ?_; rintro e w1 ⟨rfl, hb⟩
  replace B0 := Lib.hid (B0.out.keep hb)
  replace B1 := Lib.hid (B1.out.keep hb)
  replace bel := Lib.hid (Bx.then_below bel.out hb)
  clear hb
  have c5 := B0.out.at 5 rfl
  have c6 := B0.out.at 6 rfl
  have c7 := B0.out.at 7 rfl
  have c8 := B0.out.at 8 rfl
  have d8 := B1.out.at 8 rfl
  have d9 := B1.out.at 9 rfl
  have d10 := B1.out.at 10 rfl
  have d11 := B1.out.at 11 rfl
  go_wp2_with (first | ((with_reducible refine cd_load ?_ ?_ (w.heap.size) ?_ c ?_ ?_); (· rfl); (· rfl); (· rfl); (· exact B0.out)) | ((with_reducible refine bd_load ?_ ?_ (w.heap.size + 1) ?_ b ?_ ?_); (· rfl); (· rfl); (· rfl); (· exact B1.out)))
  refine (HB.out _).mono ?_; rintro e w2 ⟨rfl, hb⟩
  replace B0 := Lib.hid (B0.out.keep hb)
  replace B1 := Lib.hid (B1.out.keep hb)
  replace bel := Lib.hid (Bx.then_below bel.out hb)
  clear hb
  go_wp2_with (first | ((with_reducible refine cd_load ?_ ?_ (w.heap.size) ?_ c ?_ ?_); (· rfl); (· rfl); (· rfl); (· exact B0.out)) | ((with_reducible refine bd_load ?_ ?_ (w.heap.size + 1) ?_ b ?_ ?_); (· rfl); (· rfl); (· rfl); (· exact B1.out)))
  go_ret
  exact ⟨rfl, bel.out⟩

set_option maxRecDepth 40000 in
set_option maxHeartbeats 8000000 in
theorem sort2f (c : Cd) (b : Bd) (q : Int) (w : World) (HQ : Hid (∀ w, Calls Try.prog 40 #[bdv b] w fun e w' => e = .returned (.int .i64 q) ∧ Below w.heap.size w w')) (hq : q = 2) (HB : Hid (∀ w, Calls Try.prog 20 #[vv b.v, vv c.v] w fun e w' => e = .returned (.bool false) ∧ Below w.heap.size w w')) : Calls Try.prog 27 #[cdv c, bdv b] w fun e w' => e = .returned (.int .i64 4) ∧ Below w.heap.size w w' := by
  have B0 := Lib.hid ((Bx.Blk.new w (cdl c) 28).more (bdo b))
  have B1 := Lib.hid (Bx.Blk.new_at (W := w.alloc (cdo c)) (k := w.heap.size + 1) (bdl b) 49 (by simp))
  have bel := Lib.hid (Bx.bel_box (Bx.box_below w (cdo c)) (bdo b))
  have q3 : (q == 3) = false := by simp; omega
  have q2 : (q == 2) = true := by simp; omega
  clear hq
  go_enter Try.func27, Try.ntmps27
  go_wp2_with (first | ((with_reducible refine cd_load ?_ ?_ (w.heap.size) ?_ c ?_ ?_); (· rfl); (· rfl); (· rfl); (· exact B0.out)) | ((with_reducible refine bd_load ?_ ?_ (w.heap.size + 1) ?_ b ?_ ?_); (· rfl); (· rfl); (· rfl); (· exact B1.out)))
  refine (HQ.out _).mono ?_; rintro e w1 ⟨rfl, hb⟩
  replace B0 := Lib.hid (B0.out.keep hb)
  replace B1 := Lib.hid (B1.out.keep hb)
  replace bel := Lib.hid (Bx.then_below bel.out hb)
  clear hb
  have c5 := B0.out.at 5 rfl
  have c6 := B0.out.at 6 rfl
  have c7 := B0.out.at 7 rfl
  have c8 := B0.out.at 8 rfl
  have d8 := B1.out.at 8 rfl
  have d9 := B1.out.at 9 rfl
  have d10 := B1.out.at 10 rfl
  have d11 := B1.out.at 11 rfl
  go_wp2_with (first | ((with_reducible refine cd_load ?_ ?_ (w.heap.size) ?_ c ?_ ?_); (· rfl); (· rfl); (· rfl); (· exact B0.out)) | ((with_reducible refine bd_load ?_ ?_ (w.heap.size + 1) ?_ b ?_ ?_); (· rfl); (· rfl); (· rfl); (· exact B1.out)))
  refine (HB.out _).mono ?_; rintro e w2 ⟨rfl, hb⟩
  replace B0 := Lib.hid (B0.out.keep hb)
  replace B1 := Lib.hid (B1.out.keep hb)
  replace bel := Lib.hid (Bx.then_below bel.out hb)
  clear hb
  go_wp2_with (first | ((with_reducible refine cd_load ?_ ?_ (w.heap.size) ?_ c ?_ ?_); (· rfl); (· rfl); (· rfl); (· exact B0.out)) | ((with_reducible refine bd_load ?_ ?_ (w.heap.size + 1) ?_ b ?_ ?_); (· rfl); (· rfl); (· rfl); (· exact B1.out)))
  go_ret
  exact ⟨rfl, bel.out⟩

set_option maxRecDepth 40000 in
set_option maxHeartbeats 8000000 in
theorem sort1t (c : Cd) (b : Bd) (q : Int) (w : World) (HQ : Hid (∀ w, Calls Try.prog 40 #[bdv b] w fun e w' => e = .returned (.int .i64 q) ∧ Below w.heap.size w w')) (hq : q = 1) (HB : Hid (∀ w, Calls Try.prog 20 #[vv b.v, vv c.v] w fun e w' => e = .returned (.bool true) ∧ Below w.heap.size w w')) : Calls Try.prog 27 #[cdv c, bdv b] w fun e w' => e = .returned (.int .i64 0) ∧ Below w.heap.size w w' := by
  have B0 := Lib.hid ((Bx.Blk.new w (cdl c) 28).more (bdo b))
  have B1 := Lib.hid (Bx.Blk.new_at (W := w.alloc (cdo c)) (k := w.heap.size + 1) (bdl b) 49 (by simp))
  have bel := Lib.hid (Bx.bel_box (Bx.box_below w (cdo c)) (bdo b))
  have q3 : (q == 3) = false := by simp; omega
  have q2 : (q == 2) = false := by simp; omega
  have q1 : (q == 1) = true := by simp; omega
  clear hq
  go_enter Try.func27, Try.ntmps27
  go_wp2_with (first | ((with_reducible refine cd_load ?_ ?_ (w.heap.size) ?_ c ?_ ?_); (· rfl); (· rfl); (· rfl); (· exact B0.out)) | ((with_reducible refine bd_load ?_ ?_ (w.heap.size + 1) ?_ b ?_ ?_); (· rfl); (· rfl); (· rfl); (· exact B1.out)))
  refine (HQ.out _).mono ?_; rintro e w1 ⟨rfl, hb⟩
  replace B0 := Lib.hid (B0.out.keep hb)
  replace B1 := Lib.hid (B1.out.keep hb)
  replace bel := Lib.hid (Bx.then_below bel.out hb)
  clear hb
  have c5 := B0.out.at 5 rfl
  have c6 := B0.out.at 6 rfl
  have c7 := B0.out.at 7 rfl
  have c8 := B0.out.at 8 rfl
  have d8 := B1.out.at 8 rfl
  have d9 := B1.out.at 9 rfl
  have d10 := B1.out.at 10 rfl
  have d11 := B1.out.at 11 rfl
  go_wp2_with (first | ((with_reducible refine cd_load ?_ ?_ (w.heap.size) ?_ c ?_ ?_); (· rfl); (· rfl); (· rfl); (· exact B0.out)) | ((with_reducible refine bd_load ?_ ?_ (w.heap.size + 1) ?_ b ?_ ?_); (· rfl); (· rfl); (· rfl); (· exact B1.out)))
  refine (HB.out _).mono ?_; rintro e w2 ⟨rfl, hb⟩
  replace B0 := Lib.hid (B0.out.keep hb)
  replace B1 := Lib.hid (B1.out.keep hb)
  replace bel := Lib.hid (Bx.then_below bel.out hb)
  clear hb
  go_wp2_with (first | ((with_reducible refine cd_load ?_ ?_ (w.heap.size) ?_ c ?_ ?_); (· rfl); (· rfl); (· rfl); (· exact B0.out)) | ((with_reducible refine bd_load ?_ ?_ (w.heap.size + 1) ?_ b ?_ ?_); (· rfl); (· rfl); (· rfl); (· exact B1.out)))
  go_ret
  exact ⟨rfl, bel.out⟩

set_option maxRecDepth 40000 in
set_option maxHeartbeats 8000000 in
theorem sort1f (c : Cd) (b : Bd) (q : Int) (w : World) (HQ : Hid (∀ w, Calls Try.prog 40 #[bdv b] w fun e w' => e = .returned (.int .i64 q) ∧ Below w.heap.size w w')) (hq : q = 1) (HB : Hid (∀ w, Calls Try.prog 20 #[vv b.v, vv c.v] w fun e w' => e = .returned (.bool false) ∧ Below w.heap.size w w')) : Calls Try.prog 27 #[cdv c, bdv b] w fun e w' => e = .returned (.int .i64 4) ∧ Below w.heap.size w w' := by
  have B0 := Lib.hid ((Bx.Blk.new w (cdl c) 28).more (bdo b))
  have B1 := Lib.hid (Bx.Blk.new_at (W := w.alloc (cdo c)) (k := w.heap.size + 1) (bdl b) 49 (by simp))
  have bel := Lib.hid (Bx.bel_box (Bx.box_below w (cdo c)) (bdo b))
  have q3 : (q == 3) = false := by simp; omega
  have q2 : (q == 2) = false := by simp; omega
  have q1 : (q == 1) = true := by simp; omega
  clear hq
  go_enter Try.func27, Try.ntmps27
  go_wp2_with (first | ((with_reducible refine cd_load ?_ ?_ (w.heap.size) ?_ c ?_ ?_); (· rfl); (· rfl); (· rfl); (· exact B0.out)) | ((with_reducible refine bd_load ?_ ?_ (w.heap.size + 1) ?_ b ?_ ?_); (· rfl); (· rfl); (· rfl); (· exact B1.out)))
  refine (HQ.out _).mono ?_; rintro e w1 ⟨rfl, hb⟩
  replace B0 := Lib.hid (B0.out.keep hb)
  replace B1 := Lib.hid (B1.out.keep hb)
  replace bel := Lib.hid (Bx.then_below bel.out hb)
  clear hb
  have c5 := B0.out.at 5 rfl
  have c6 := B0.out.at 6 rfl
  have c7 := B0.out.at 7 rfl
  have c8 := B0.out.at 8 rfl
  have d8 := B1.out.at 8 rfl
  have d9 := B1.out.at 9 rfl
  have d10 := B1.out.at 10 rfl
  have d11 := B1.out.at 11 rfl
  go_wp2_with (first | ((with_reducible refine cd_load ?_ ?_ (w.heap.size) ?_ c ?_ ?_); (· rfl); (· rfl); (· rfl); (· exact B0.out)) | ((with_reducible refine bd_load ?_ ?_ (w.heap.size + 1) ?_ b ?_ ?_); (· rfl); (· rfl); (· rfl); (· exact B1.out)))
  refine (HB.out _).mono ?_; rintro e w2 ⟨rfl, hb⟩
  replace B0 := Lib.hid (B0.out.keep hb)
  replace B1 := Lib.hid (B1.out.keep hb)
  replace bel := Lib.hid (Bx.then_below bel.out hb)
  clear hb
  go_wp2_with (first | ((with_reducible refine cd_load ?_ ?_ (w.heap.size) ?_ c ?_ ?_); (· rfl); (· rfl); (· rfl); (· exact B0.out)) | ((with_reducible refine bd_load ?_ ?_ (w.heap.size + 1) ?_ b ?_ ?_); (· rfl); (· rfl); (· rfl); (· exact B1.out)))
  go_ret
  exact ⟨rfl, bel.out⟩

set_option maxRecDepth 40000 in
set_option maxHeartbeats 8000000 in
theorem sort0 (c : Cd) (b : Bd) (q : Int) (w : World) (HQ : Hid (∀ w, Calls Try.prog 40 #[bdv b] w fun e w' => e = .returned (.int .i64 q) ∧ Below w.heap.size w w')) (h3 : ¬ q = 3) (h2 : ¬ q = 2) (h1 : ¬ q = 1) : Calls Try.prog 27 #[cdv c, bdv b] w fun e w' => e = .returned (.int .i64 0) ∧ Below w.heap.size w w' := by
  have B0 := Lib.hid ((Bx.Blk.new w (cdl c) 28).more (bdo b))
  have B1 := Lib.hid (Bx.Blk.new_at (W := w.alloc (cdo c)) (k := w.heap.size + 1) (bdl b) 49 (by simp))
  have bel := Lib.hid (Bx.bel_box (Bx.box_below w (cdo c)) (bdo b))
  have q3 : (q == 3) = false := by simp; omega
  have q2 : (q == 2) = false := by simp; omega
  have q1 : (q == 1) = false := by simp; omega
  clear h3 h2 h1
  go_enter Try.func27, Try.ntmps27
  go_wp2_with (first | ((with_reducible refine cd_load ?_ ?_ (w.heap.size) ?_ c ?_ ?_); (· rfl); (· rfl); (· rfl); (· exact B0.out)) | ((with_reducible refine bd_load ?_ ?_ (w.heap.size + 1) ?_ b ?_ ?_); (· rfl); (· rfl); (· rfl); (· exact B1.out)))
  refine (HQ.out _).mono ?_; rintro e w1 ⟨rfl, hb⟩
  replace B0 := Lib.hid (B0.out.keep hb)
  replace B1 := Lib.hid (B1.out.keep hb)
  replace bel := Lib.hid (Bx.then_below bel.out hb)
  clear hb
  go_wp2_with (first | ((with_reducible refine cd_load ?_ ?_ (w.heap.size) ?_ c ?_ ?_); (· rfl); (· rfl); (· rfl); (· exact B0.out)) | ((with_reducible refine bd_load ?_ ?_ (w.heap.size + 1) ?_ b ?_ ?_); (· rfl); (· rfl); (· rfl); (· exact B1.out)))
  go_ret
  exact ⟨rfl, bel.out⟩

theorem sort_any (c : Cd) (b : Bd) (ha : -9223372036854775808 ≤ b.t.a) (w : World) : Calls Try.prog 27 #[cdv c, bdv b] w fun e w' => e = .returned (.int .i64 (sortI c b)) ∧ Below w.heap.size w w' := by
  have HQ := fun w => role_any b w
  have HS := fun w => sortd_any c b ha w
  have HB := fun w => better_any b.v c.v w
  unfold sortI
  generalize roleI b = q at *
  generalize sortD c b = z at *
  generalize ltV b.v c.v = r at *
  by_cases h3 : q = 3
  · rw [if_pos h3]
    exact sort3 c b q w (Lib.hid HQ) z h3 (Lib.hid HS)
  rw [if_neg h3]
  by_cases h2 : q = 2
  · rw [if_pos (.inl h2)]
    cases r
    · exact sort2f c b q w (Lib.hid HQ) h2 (Lib.hid HB)
    · exact sort2t c b q w (Lib.hid HQ) h2 (Lib.hid HB)
  by_cases h1 : q = 1
  · rw [if_pos (.inr h1)]
    cases r
    · exact sort1f c b q w (Lib.hid HQ) h1 (Lib.hid HB)
    · exact sort1t c b q w (Lib.hid HQ) h1 (Lib.hid HB)
  rw [if_neg (fun h => h.elim h2 h1)]
  exact sort0 c b q w (Lib.hid HQ) h3 h2 h1

end Rsp
end Go.Proofs.Ytihfganogemgkaa
