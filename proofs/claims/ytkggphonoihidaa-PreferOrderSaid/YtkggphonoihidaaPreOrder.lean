/-
  The statement PreferOrder: for every three vectors the law PreferOrder returns true, and its arguments read afterwards as they read before.
-/
import Derived.Test.YtkggphonoihidaaPreAwake
import Derived.Test.YtkggphonoihidaaPreOpen
import Derived.Test.YtkggphonoihidaaFrame
import Derived.Test.YtkggphonoihidaaRows
namespace Go.Proofs.Ytkggphonoihidaa
open Go.RowKit
namespace Pre
open Oct

/-- The four ways that three vectors lie. -/
theorem ways (x y z : Vc) : (ltV x y = true ∧ ltV y x = false ∧ ¬ x = y ∧ ltV y z = true ∧ ltV x z = true) ∨ (ltV x y = true ∧ ltV y x = false ∧ ¬ x = y ∧ ltV y z = false) ∨ (ltV x y = false ∧ ltV y x = true ∧ ¬ x = y) ∨ (ltV x y = false ∧ ltV y x = false ∧ x = y) := by
  cases h1 : ltV x y with
  | true =>
    have h2 : ltV y x = false := tot.lt_le h1
    have h3 : ¬ x = y := fun e => by subst e; rw [h1] at h2; cases h2
    cases h4 : ltV y z with
    | true => exact .inl ⟨rfl, h2, h3, rfl, tot.tr _ _ _ h1 h4⟩
    | false => exact .inr (.inl ⟨rfl, h2, h3, rfl⟩)
  | false =>
    cases h2 : ltV y x with
    | true => exact .inr (.inr (.inl ⟨rfl, rfl, fun e => by subst e; rw [h1] at h2; cases h2⟩))
    | false => exact .inr (.inr (.inr ⟨rfl, rfl, tot.tot _ _ h1 h2⟩))

theorem at_three {x y z : Vc} {t : Int} (h : FstZ [x, y, z] t) : ∃ k : Nat, t = k ∧ k < 3 ∧ Hid (∀ (i : Nat) (hi : i < [x, y, z].length) (hk : k < [x, y, z].length), ltV [x, y, z][i] [x, y, z][k] = false) := by
  rcases h with ⟨h, _⟩ | ⟨k, rfl, v, h1, h2, _⟩
  · cases h
  · have hk := (List.getElem?_eq_some_iff.1 h1).1
    refine ⟨k, rfl, by simpa using hk, Lib.hid fun i hi hk' => ?_⟩
    rw [List.getElem?_eq_getElem hk'] at h1
    have e := Option.some.inj h1
    have g := h2 i _ (List.getElem?_eq_getElem hi)
    rw [← e] at g
    exact g

set_option maxRecDepth 20000 in
set_option maxHeartbeats 16000000 in
theorem law_order (w : World) (x : Vc) (_ : wfV x) (y : Vc) (_ : wfV y) (z : Vc) (_ : wfV z) :
    Calls Try.prog 4 #[vv x, vv y, vv z] w fun e w' => e = .returned (.bool true) ∧ Below w.heap.size w w' := by
  have HW := ways x y z
  have HL := Lib.hid (fun w' b h => least_any [x, y, z] (by simp) (some ⟨b, 0, none⟩) 3 w' h)
  have HLen : Hid ([x, y, z].length = 3) := Lib.hid rfl
  have HVS := Lib.hid (fun (w' : World) (b : Nat) h => Vs.three (w := w') (b := b) (x := x) (y := y) (z := z) h)
  obtain ⟨m1, m2, m3, m4⟩ := x
  obtain ⟨n1, n2, n3, n4⟩ := y
  obtain ⟨q1, q2, q3, q4⟩ := z
  have HAW := Lib.hid awake_any
  have HBT := Lib.hid better_any
  have bel := Lib.hid (Bx.bel_box (Bx.bel_box (Bx.box_below w (.cells #[.int .u64 m1, .int .u64 m2, .int .u64 m3, .int .i64 m4] 24)) (.cells #[.int .u64 n1, .int .u64 n2, .int .u64 n3, .int .i64 n4] 24)) (.cells #[.int .u64 q1, .int .u64 q2, .int .u64 q3, .int .i64 q4] 24))
  have X0 : Hid (Bx.Blk (((w.alloc (.cells #[.int .u64 m1, .int .u64 m2, .int .u64 m3, .int .i64 m4] 24)).alloc (.cells #[.int .u64 n1, .int .u64 n2, .int .u64 n3, .int .i64 n4] 24)).alloc (.cells #[.int .u64 q1, .int .u64 q2, .int .u64 q3, .int .i64 q4] 24)) w.heap.size [.int .u64 m1, .int .u64 m2, .int .u64 m3, .int .i64 m4]) := Lib.hid (((Bx.Blk.new w [.int .u64 m1, .int .u64 m2, .int .u64 m3, .int .i64 m4] 24).more _).more _)
  have Y0 : Hid (Bx.Blk (((w.alloc (.cells #[.int .u64 m1, .int .u64 m2, .int .u64 m3, .int .i64 m4] 24)).alloc (.cells #[.int .u64 n1, .int .u64 n2, .int .u64 n3, .int .i64 n4] 24)).alloc (.cells #[.int .u64 q1, .int .u64 q2, .int .u64 q3, .int .i64 q4] 24)) (w.heap.size + 1) [.int .u64 n1, .int .u64 n2, .int .u64 n3, .int .i64 n4]) := Lib.hid ((Bx.Blk.new_at [.int .u64 n1, .int .u64 n2, .int .u64 n3, .int .i64 n4] 24 (by simp)).more _)
  have Z0 : Hid (Bx.Blk (((w.alloc (.cells #[.int .u64 m1, .int .u64 m2, .int .u64 m3, .int .i64 m4] 24)).alloc (.cells #[.int .u64 n1, .int .u64 n2, .int .u64 n3, .int .i64 n4] 24)).alloc (.cells #[.int .u64 q1, .int .u64 q2, .int .u64 q3, .int .i64 q4] 24)) (w.heap.size + 1 + 1) [.int .u64 q1, .int .u64 q2, .int .u64 q3, .int .i64 q4]) := Lib.hid (Bx.Blk.new_at [.int .u64 q1, .int .u64 q2, .int .u64 q3, .int .i64 q4] 24 (by simp))
  have hgd : ∀ (op : BinOp) (a b : Operand) (w : World), Sem.run Try.prog (eqGuard op 24 a b (.agg #[.int .u64 m1, .int .u64 m2, .int .u64 m3, .int .i64 m4]) (.agg #[.int .u64 n1, .int .u64 n2, .int .u64 n3, .int .i64 n4])) w = .ok () w := fun op a b w => guard_at op a b m1 m2 m3 m4 n1 n2 n3 n4 w
  rcases HW with ⟨g1, g2, g3, g4, g5⟩ | ⟨g1, g2, g3, g4⟩ | ⟨g1, g2, g3⟩ | ⟨g1, g2, g3⟩
  · have heq : ∀ w, (binOp .eql 24 (.agg #[.int .u64 m1, .int .u64 m2, .int .u64 m3, .int .i64 m4]) (.agg #[.int .u64 n1, .int .u64 n2, .int .u64 n3, .int .i64 n4])).run Try.prog w = .ok (.bool false) w := fun w => by rw [eql_at, decide_eq_false g3]
    have HXY : Hid (∀ W, Calls Try.prog 7 #[.agg #[.int .u64 m1, .int .u64 m2, .int .u64 m3, .int .i64 m4], .agg #[.int .u64 n1, .int .u64 n2, .int .u64 n3, .int .i64 n4]] W fun e w' => e = .returned (.bool true) ∧ Below W.heap.size W w') := Lib.hid (fun W => by have h := better_any ⟨m1, m2, m3, m4⟩ ⟨n1, n2, n3, n4⟩ W; rw [g1] at h; exact h)
    have HYX : Hid (∀ W, Calls Try.prog 7 #[.agg #[.int .u64 n1, .int .u64 n2, .int .u64 n3, .int .i64 n4], .agg #[.int .u64 m1, .int .u64 m2, .int .u64 m3, .int .i64 m4]] W fun e w' => e = .returned (.bool false) ∧ Below W.heap.size W w') := Lib.hid (fun W => by have h := better_any ⟨n1, n2, n3, n4⟩ ⟨m1, m2, m3, m4⟩ W; rw [g2] at h; exact h)
    have HYZ : Hid (∀ W, Calls Try.prog 7 #[.agg #[.int .u64 n1, .int .u64 n2, .int .u64 n3, .int .i64 n4], .agg #[.int .u64 q1, .int .u64 q2, .int .u64 q3, .int .i64 q4]] W fun e w' => e = .returned (.bool true) ∧ Below W.heap.size W w') := Lib.hid (fun W => by have h := better_any ⟨n1, n2, n3, n4⟩ ⟨q1, q2, q3, q4⟩ W; rw [g4] at h; exact h)
    have HXZ : Hid (∀ W, Calls Try.prog 7 #[.agg #[.int .u64 m1, .int .u64 m2, .int .u64 m3, .int .i64 m4], .agg #[.int .u64 q1, .int .u64 q2, .int .u64 q3, .int .i64 q4]] W fun e w' => e = .returned (.bool true) ∧ Below W.heap.size W w') := Lib.hid (fun W => by have h := better_any ⟨m1, m2, m3, m4⟩ ⟨q1, q2, q3, q4⟩ W; rw [g5] at h; exact h)
    clear g1 g2 g3 g4 g5
    go_enter Try.func4, Try.ntmps4
    go_wp2
    generalize ((w.alloc (.cells #[.int .u64 m1, .int .u64 m2, .int .u64 m3, .int .i64 m4] 24)).alloc (.cells #[.int .u64 n1, .int .u64 n2, .int .u64 n3, .int .i64 n4] 24)).alloc (.cells #[.int .u64 q1, .int .u64 q2, .int .u64 q3, .int .i64 q4] 24) = W0 at *
    replace bel := bel.out
    obtain ⟨a0, a1, a2, a3⟩ := X0.out.all4
    obtain ⟨b0, b1, b2, b3⟩ := Y0.out.all4
    obtain ⟨c0, c1, c2, c3⟩ := Z0.out.all4
    refine wp_region_noPanic ?_
    refine wp_region_held_drew (S := fun w' => w'.cell? ⟨w.heap.size, 0, none⟩ = some (.int .u64 m1) ∧ w'.cell? ⟨w.heap.size, 1, none⟩ = some (.int .u64 m2) ∧ w'.cell? ⟨w.heap.size, 2, none⟩ = some (.int .u64 m3) ∧ w'.cell? ⟨w.heap.size, 3, none⟩ = some (.int .i64 m4) ∧ w'.cell? ⟨w.heap.size + 1, 0, none⟩ = some (.int .u64 n1) ∧ w'.cell? ⟨w.heap.size + 1, 1, none⟩ = some (.int .u64 n2) ∧ w'.cell? ⟨w.heap.size + 1, 2, none⟩ = some (.int .u64 n3) ∧ w'.cell? ⟨w.heap.size + 1, 3, none⟩ = some (.int .i64 n4) ∧ w'.cell? ⟨w.heap.size + 1 + 1, 0, none⟩ = some (.int .u64 q1) ∧ w'.cell? ⟨w.heap.size + 1 + 1, 1, none⟩ = some (.int .u64 q2) ∧ w'.cell? ⟨w.heap.size + 1 + 1, 2, none⟩ = some (.int .u64 q3) ∧ w'.cell? ⟨w.heap.size + 1 + 1, 3, none⟩ = some (.int .i64 q4)) (by kernel_rfl) (by exact ⟨a0, a1, a2, a3, b0, b1, b2, b3, c0, c1, c2, c3⟩) (fun hHeld => ?_)
    replace bel := Bx.bel_drewn bel
    refine wpAnyH_take (i := 0) (oi := ?o0w1) (v := ?v0w1) ?hi0w1 (by kernel_rfl) (by kernel_rfl) (by kernel_rfl) (fun _ _ _ h => h) ?y0w1 (by assumption) ?r0w1
    case hi0w1 => (simp only [List.getElem?_toArray, List.getElem?_cons_zero]; rfl)
    case y0w1 => (refine Or.inl ⟨by rfl, ?_⟩; intro w' hSw; (try dsimp only at hSw); go_simp; (try with_reducible rfl))
    try simp only [Act.put, List.setIfInBounds_toArray, List.set_cons_zero, List.set_cons_succ]
    refine wpAnyH_take (i := 1) (oi := ?o1w1) (v := ?v1w1) ?hi1w1 (by kernel_rfl) (by kernel_rfl) (by kernel_rfl) (fun _ _ _ h => h) ?y1w1 (by assumption) ?r1w1
    case hi1w1 => (simp only [List.getElem?_toArray, List.getElem?_cons_succ, List.getElem?_cons_zero]; rfl)
    case y1w1 => (refine Or.inl ⟨by rfl, ?_⟩; intro w' hSw; (try dsimp only at hSw); go_simp; (try with_reducible rfl))
    try simp only [Act.put, List.setIfInBounds_toArray, List.set_cons_zero, List.set_cons_succ]
    refine wpAnyH_ready (rs := [2]) (by kernel_rfl) (by simp) ?_
    refine AllReadyH.cons (o := ?o2w1) ?hi2w1 ?hst2w1 AllReadyH.nil
    case hi2w1 => (simp only [List.getElem?_toArray, List.getElem?_cons_succ, List.getElem?_cons_zero]; rfl)
    intro K hK
    go_simp
    (go_at_call 7; (with_reducible refine (HXY.out _).mono ?_); rintro e w1 ⟨rfl, hb1⟩)
    go_wp2_with fail
    refine hK.out _ _ ⟨Bx.keep_cell hb1 hHeld.1, Bx.keep_cell hb1 hHeld.2.1, Bx.keep_cell hb1 hHeld.2.2.1, Bx.keep_cell hb1 hHeld.2.2.2.1, Bx.keep_cell hb1 hHeld.2.2.2.2.1, Bx.keep_cell hb1 hHeld.2.2.2.2.2.1, Bx.keep_cell hb1 hHeld.2.2.2.2.2.2.1, Bx.keep_cell hb1 hHeld.2.2.2.2.2.2.2.1, Bx.keep_cell hb1 hHeld.2.2.2.2.2.2.2.2.1, Bx.keep_cell hb1 hHeld.2.2.2.2.2.2.2.2.2.1, Bx.keep_cell hb1 hHeld.2.2.2.2.2.2.2.2.2.2.1, Bx.keep_cell hb1 hHeld.2.2.2.2.2.2.2.2.2.2.2⟩ (fun hNew => ?_)
    clear hHeld
    have hHeld := hNew
    clear hNew hK K
    replace bel := Bx.then_below bel hb1
    clear hb1
    refine wpAnyH_take (i := 3) (oi := ?o3w1) (v := ?v3w1) ?hi3w1 (by kernel_rfl) (by kernel_rfl) (by kernel_rfl) (fun _ _ _ h => h) ?y3w1 (by assumption) ?r3w1
    case hi3w1 => (simp only [List.getElem?_toArray, List.getElem?_cons_succ, List.getElem?_cons_zero]; rfl)
    case y3w1 => (refine Or.inl ⟨by rfl, ?_⟩; intro w' hSw; (try dsimp only at hSw); go_simp; (try with_reducible rfl))
    try simp only [Act.put, List.setIfInBounds_toArray, List.set_cons_zero, List.set_cons_succ]
    refine wpAnyH_take (i := 4) (oi := ?o4w1) (v := ?v4w1) ?hi4w1 (by kernel_rfl) (by kernel_rfl) (by kernel_rfl) (fun _ _ _ h => h) ?y4w1 (by assumption) ?r4w1
    case hi4w1 => (simp only [List.getElem?_toArray, List.getElem?_cons_succ, List.getElem?_cons_zero]; rfl)
    case y4w1 => (refine Or.inl ⟨by rfl, ?_⟩; intro w' hSw; (try dsimp only at hSw); go_simp; (try with_reducible rfl))
    try simp only [Act.put, List.setIfInBounds_toArray, List.set_cons_zero, List.set_cons_succ]
    refine wpAnyH_take (i := 5) (oi := ?o5w1) (v := ?v5w1) ?hi5w1 (by kernel_rfl) (by kernel_rfl) (by kernel_rfl) (fun _ _ _ h => h) ?y5w1 (by assumption) ?r5w1
    case hi5w1 => (simp only [List.getElem?_toArray, List.getElem?_cons_succ, List.getElem?_cons_zero]; rfl)
    case y5w1 => (refine Or.inl ⟨by rfl, ?_⟩; intro w' hSw; (try dsimp only at hSw); go_simp; (try with_reducible rfl))
    try simp only [Act.put, List.setIfInBounds_toArray, List.set_cons_zero, List.set_cons_succ]
    refine wpAnyH_ready (rs := [6]) (by kernel_rfl) (by simp) ?_
    refine AllReadyH.cons (o := ?o6w1) ?hi6w1 ?hst6w1 AllReadyH.nil
    case hi6w1 => (simp only [List.getElem?_toArray, List.getElem?_cons_succ, List.getElem?_cons_zero]; rfl)
    intro K hK
    go_simp
    (go_at_call 7; (with_reducible refine (HYX.out _).mono ?_); rintro e w2 ⟨rfl, hb2⟩)
    go_wp2_with fail
    refine hK.out _ _ ⟨Bx.keep_cell hb2 hHeld.1, Bx.keep_cell hb2 hHeld.2.1, Bx.keep_cell hb2 hHeld.2.2.1, Bx.keep_cell hb2 hHeld.2.2.2.1, Bx.keep_cell hb2 hHeld.2.2.2.2.1, Bx.keep_cell hb2 hHeld.2.2.2.2.2.1, Bx.keep_cell hb2 hHeld.2.2.2.2.2.2.1, Bx.keep_cell hb2 hHeld.2.2.2.2.2.2.2.1, Bx.keep_cell hb2 hHeld.2.2.2.2.2.2.2.2.1, Bx.keep_cell hb2 hHeld.2.2.2.2.2.2.2.2.2.1, Bx.keep_cell hb2 hHeld.2.2.2.2.2.2.2.2.2.2.1, Bx.keep_cell hb2 hHeld.2.2.2.2.2.2.2.2.2.2.2⟩ (fun hNew => ?_)
    clear hHeld
    have hHeld := hNew
    clear hNew hK K
    replace bel := Bx.then_below bel hb2
    clear hb2
    refine wpAnyH_take (i := 7) (oi := ?o7w1) (v := ?v7w1) ?hi7w1 (by kernel_rfl) (by kernel_rfl) (by kernel_rfl) (fun _ _ _ h => h) ?y7w1 (by assumption) ?r7w1
    case hi7w1 => (simp only [List.getElem?_toArray, List.getElem?_cons_succ, List.getElem?_cons_zero]; rfl)
    case y7w1 => (refine Or.inl ⟨by rfl, ?_⟩; intro w' hSw; (try dsimp only at hSw); go_simp; (try with_reducible rfl))
    try simp only [Act.put, List.setIfInBounds_toArray, List.set_cons_zero, List.set_cons_succ]
    refine wpAnyH_take (i := 8) (oi := ?o8w1) (v := ?v8w1) ?hi8w1 (by kernel_rfl) (by kernel_rfl) (by kernel_rfl) (fun _ _ _ h => h) ?y8w1 (by assumption) ?r8w1
    case hi8w1 => (simp only [List.getElem?_toArray, List.getElem?_cons_succ, List.getElem?_cons_zero]; rfl)
    case y8w1 => (refine Or.inl ⟨by rfl, ?_⟩; intro w' hSw; (try dsimp only at hSw); go_simp; (try with_reducible rfl))
    try simp only [Act.put, List.setIfInBounds_toArray, List.set_cons_zero, List.set_cons_succ]
    refine wpAnyH_take (i := 9) (oi := ?o9w1) (v := ?v9w1) ?hi9w1 (by kernel_rfl) (by kernel_rfl) (by kernel_rfl) (fun _ _ _ h => h) ?y9w1 (by assumption) ?r9w1
    case hi9w1 => (simp only [List.getElem?_toArray, List.getElem?_cons_succ, List.getElem?_cons_zero]; rfl)
    case y9w1 => (refine Or.inl ⟨by rfl, ?_⟩; intro w' hSw; (try dsimp only at hSw); go_simp; (try with_reducible rfl))
    try simp only [Act.put, List.setIfInBounds_toArray, List.set_cons_zero, List.set_cons_succ]
    refine wpAnyH_take (i := 10) (oi := ?o10w1) (v := ?v10w1) ?hi10w1 (by kernel_rfl) (by kernel_rfl) (by kernel_rfl) (fun _ _ _ h => h) ?y10w1 (by assumption) ?r10w1
    case hi10w1 => (simp only [List.getElem?_toArray, List.getElem?_cons_succ, List.getElem?_cons_zero]; rfl)
    case y10w1 => (refine Or.inl ⟨by rfl, ?_⟩; intro w' hSw; (try dsimp only at hSw); go_simp; (try with_reducible rfl))
    try simp only [Act.put, List.setIfInBounds_toArray, List.set_cons_zero, List.set_cons_succ]
    refine wpAnyH_take (i := 11) (oi := ?o11w1) (v := ?v11w1) ?hi11w1 (by kernel_rfl) (by kernel_rfl) (by kernel_rfl) (fun _ _ _ h => h) ?y11w1 (by assumption) ?r11w1
    case hi11w1 => (simp only [List.getElem?_toArray, List.getElem?_cons_succ, List.getElem?_cons_zero]; rfl)
    case y11w1 => (refine Or.inl ⟨by rfl, ?_⟩; intro w' hSw; (try dsimp only at hSw); go_simp; (try with_reducible rfl))
    try simp only [Act.put, List.setIfInBounds_toArray, List.set_cons_zero, List.set_cons_succ]
    refine wpAnyH_take (i := 12) (oi := ?o12w1) (v := ?v12w1) ?hi12w1 (by kernel_rfl) (by kernel_rfl) (by kernel_rfl) (fun _ _ _ h => h) ?y12w1 (by assumption) ?r12w1
    case hi12w1 => (simp only [List.getElem?_toArray, List.getElem?_cons_succ, List.getElem?_cons_zero]; rfl)
    case y12w1 => (refine Or.inl ⟨by rfl, ?_⟩; intro w' hSw; (try dsimp only at hSw); go_simp; (try with_reducible rfl))
    try simp only [Act.put, List.setIfInBounds_toArray, List.set_cons_zero, List.set_cons_succ]
    refine wpAnyH_take (i := 13) (oi := ?o13w1) (v := ?v13w1) ?hi13w1 (by kernel_rfl) (by kernel_rfl) (by kernel_rfl) (fun _ _ _ h => h) ?y13w1 (by assumption) ?r13w1
    case hi13w1 => (simp only [List.getElem?_toArray, List.getElem?_cons_succ, List.getElem?_cons_zero]; rfl)
    case y13w1 => (refine Or.inl ⟨by rfl, ?_⟩; intro w' hSw; (try dsimp only at hSw); go_simp; (try with_reducible rfl))
    try simp only [Act.put, List.setIfInBounds_toArray, List.set_cons_zero, List.set_cons_succ]
    refine wpAnyH_ready (rs := [14]) (by kernel_rfl) (by simp) ?_
    refine AllReadyH.cons (o := ?o14w1) ?hi14w1 ?hst14w1 AllReadyH.nil
    case hi14w1 => (simp only [List.getElem?_toArray, List.getElem?_cons_succ, List.getElem?_cons_zero]; rfl)
    intro K hK
    go_simp
    (go_at_call 7; (with_reducible refine (HXY.out _).mono ?_); rintro e w3 ⟨rfl, hb3⟩)
    go_wp2_with fail
    refine hK.out _ _ ⟨Bx.keep_cell hb3 hHeld.1, Bx.keep_cell hb3 hHeld.2.1, Bx.keep_cell hb3 hHeld.2.2.1, Bx.keep_cell hb3 hHeld.2.2.2.1, Bx.keep_cell hb3 hHeld.2.2.2.2.1, Bx.keep_cell hb3 hHeld.2.2.2.2.2.1, Bx.keep_cell hb3 hHeld.2.2.2.2.2.2.1, Bx.keep_cell hb3 hHeld.2.2.2.2.2.2.2.1, Bx.keep_cell hb3 hHeld.2.2.2.2.2.2.2.2.1, Bx.keep_cell hb3 hHeld.2.2.2.2.2.2.2.2.2.1, Bx.keep_cell hb3 hHeld.2.2.2.2.2.2.2.2.2.2.1, Bx.keep_cell hb3 hHeld.2.2.2.2.2.2.2.2.2.2.2⟩ (fun hNew => ?_)
    clear hHeld
    have hHeld := hNew
    clear hNew hK K
    replace bel := Bx.then_below bel hb3
    clear hb3
    refine wpAnyH_take (i := 15) (oi := ?o15w1) (v := ?v15w1) ?hi15w1 (by kernel_rfl) (by kernel_rfl) (by kernel_rfl) (fun _ _ _ h => h) ?y15w1 (by assumption) ?r15w1
    case hi15w1 => (simp only [List.getElem?_toArray, List.getElem?_cons_succ, List.getElem?_cons_zero]; rfl)
    case y15w1 => (refine Or.inl ⟨by rfl, ?_⟩; intro w' hSw; (try dsimp only at hSw); go_simp; (try with_reducible rfl))
    try simp only [Act.put, List.setIfInBounds_toArray, List.set_cons_zero, List.set_cons_succ]
    refine wpAnyH_take (i := 16) (oi := ?o16w1) (v := ?v16w1) ?hi16w1 (by kernel_rfl) (by kernel_rfl) (by kernel_rfl) (fun _ _ _ h => h) ?y16w1 (by assumption) ?r16w1
    case hi16w1 => (simp only [List.getElem?_toArray, List.getElem?_cons_succ, List.getElem?_cons_zero]; rfl)
    case y16w1 => (refine Or.inl ⟨by rfl, ?_⟩; intro w' hSw; (try dsimp only at hSw); go_simp; (try with_reducible rfl))
    try simp only [Act.put, List.setIfInBounds_toArray, List.set_cons_zero, List.set_cons_succ]
    refine wpAnyH_take (i := 17) (oi := ?o17w1) (v := undef) ?hi17w1 (by kernel_rfl) (by kernel_rfl) (by kernel_rfl) (fun _ _ _ h => h) ?y17w1 (by assumption) ?r17w1
    case hi17w1 => (simp only [List.getElem?_toArray, List.getElem?_cons_succ, List.getElem?_cons_zero]; rfl)
    case y17w1 => exact Or.inr ⟨by rfl, rfl⟩
    try simp only [Act.put, List.setIfInBounds_toArray, List.set_cons_zero, List.set_cons_succ]
    refine wpAnyH_take (i := 18) (oi := ?o18w1) (v := undef) ?hi18w1 (by kernel_rfl) (by kernel_rfl) (by kernel_rfl) (fun _ _ _ h => h) ?y18w1 (by assumption) ?r18w1
    case hi18w1 => (simp only [List.getElem?_toArray, List.getElem?_cons_succ, List.getElem?_cons_zero]; rfl)
    case y18w1 => exact Or.inr ⟨by rfl, rfl⟩
    try simp only [Act.put, List.setIfInBounds_toArray, List.set_cons_zero, List.set_cons_succ]
    refine wpAnyH_take (i := 19) (oi := ?o19w1) (v := undef) ?hi19w1 (by kernel_rfl) (by kernel_rfl) (by kernel_rfl) (fun _ _ _ h => h) ?y19w1 (by assumption) ?r19w1
    case hi19w1 => (simp only [List.getElem?_toArray, List.getElem?_cons_succ, List.getElem?_cons_zero]; rfl)
    case y19w1 => exact Or.inr ⟨by rfl, rfl⟩
    try simp only [Act.put, List.setIfInBounds_toArray, List.set_cons_zero, List.set_cons_succ]
    refine wpAnyH_take (i := 20) (oi := ?o20w1) (v := undef) ?hi20w1 (by kernel_rfl) (by kernel_rfl) (by kernel_rfl) (fun _ _ _ h => h) ?y20w1 (by assumption) ?r20w1
    case hi20w1 => (simp only [List.getElem?_toArray, List.getElem?_cons_succ, List.getElem?_cons_zero]; rfl)
    case y20w1 => exact Or.inr ⟨by rfl, rfl⟩
    try simp only [Act.put, List.setIfInBounds_toArray, List.set_cons_zero, List.set_cons_succ]
    refine wpAnyH_take (i := 21) (oi := ?o21w1) (v := ?v21w1) ?hi21w1 (by kernel_rfl) (by kernel_rfl) (by kernel_rfl) (fun _ _ _ h => h) ?y21w1 (by assumption) ?r21w1
    case hi21w1 => (simp only [List.getElem?_toArray, List.getElem?_cons_succ, List.getElem?_cons_zero]; rfl)
    case y21w1 => (refine Or.inl ⟨by rfl, ?_⟩; intro w' hSw; (try dsimp only at hSw); go_simp; (try with_reducible rfl))
    try simp only [Act.put, List.setIfInBounds_toArray, List.set_cons_zero, List.set_cons_succ]
    refine wpAnyH_take (i := 22) (oi := ?o22w1) (v := ?v22w1) ?hi22w1 (by kernel_rfl) (by kernel_rfl) (by kernel_rfl) (fun _ _ _ h => h) ?y22w1 (by assumption) ?r22w1
    case hi22w1 => (simp only [List.getElem?_toArray, List.getElem?_cons_succ, List.getElem?_cons_zero]; rfl)
    case y22w1 => (refine Or.inl ⟨by rfl, ?_⟩; intro w' hSw; (try dsimp only at hSw); go_simp; (try with_reducible rfl))
    try simp only [Act.put, List.setIfInBounds_toArray, List.set_cons_zero, List.set_cons_succ]
    refine wpAnyH_take (i := 23) (oi := ?o23w1) (v := ?v23w1) ?hi23w1 (by kernel_rfl) (by kernel_rfl) (by kernel_rfl) (fun _ _ _ h => h) ?y23w1 (by assumption) ?r23w1
    case hi23w1 => (simp only [List.getElem?_toArray, List.getElem?_cons_succ, List.getElem?_cons_zero]; rfl)
    case y23w1 => (refine Or.inl ⟨by rfl, ?_⟩; intro w' hSw; (try dsimp only at hSw); go_simp; (try with_reducible rfl))
    try simp only [Act.put, List.setIfInBounds_toArray, List.set_cons_zero, List.set_cons_succ]
    refine wpAnyH_take (i := 24) (oi := ?o24w1) (v := ?v24w1) ?hi24w1 (by kernel_rfl) (by kernel_rfl) (by kernel_rfl) (fun _ _ _ h => h) ?y24w1 (by assumption) ?r24w1
    case hi24w1 => (simp only [List.getElem?_toArray, List.getElem?_cons_succ, List.getElem?_cons_zero]; rfl)
    case y24w1 => (refine Or.inl ⟨by rfl, ?_⟩; intro w' hSw; (try dsimp only at hSw); go_simp; (try with_reducible rfl))
    try simp only [Act.put, List.setIfInBounds_toArray, List.set_cons_zero, List.set_cons_succ]
    refine wpAnyH_take (i := 25) (oi := ?o25w1) (v := ?v25w1) ?hi25w1 (by kernel_rfl) (by kernel_rfl) (by kernel_rfl) (fun _ _ _ h => h) ?y25w1 (by assumption) ?r25w1
    case hi25w1 => (simp only [List.getElem?_toArray, List.getElem?_cons_succ, List.getElem?_cons_zero]; rfl)
    case y25w1 => (refine Or.inl ⟨by rfl, ?_⟩; intro w' hSw; (try dsimp only at hSw); go_simp; (try with_reducible rfl))
    try simp only [Act.put, List.setIfInBounds_toArray, List.set_cons_zero, List.set_cons_succ]
    refine wpAnyH_take (i := 26) (oi := ?o26w1) (v := ?v26w1) ?hi26w1 (by kernel_rfl) (by kernel_rfl) (by kernel_rfl) (fun _ _ _ h => h) ?y26w1 (by assumption) ?r26w1
    case hi26w1 => (simp only [List.getElem?_toArray, List.getElem?_cons_succ, List.getElem?_cons_zero]; rfl)
    case y26w1 => (refine Or.inl ⟨by rfl, ?_⟩; intro w' hSw; (try dsimp only at hSw); go_simp; (try with_reducible rfl))
    try simp only [Act.put, List.setIfInBounds_toArray, List.set_cons_zero, List.set_cons_succ]
    refine wpAnyH_ready (rs := [27]) (by kernel_rfl) (by simp) ?_
    refine AllReadyH.cons (o := ?o27w1) ?hi27w1 ?hst27w1 AllReadyH.nil
    case hi27w1 => (simp only [List.getElem?_toArray, List.getElem?_cons_succ, List.getElem?_cons_zero]; rfl)
    intro K hK
    go_simp
    (go_at_call 7; (with_reducible refine (HXY.out _).mono ?_); rintro e w4 ⟨rfl, hb4⟩)
    go_wp2_with fail
    refine hK.out _ _ ⟨Bx.keep_cell hb4 hHeld.1, Bx.keep_cell hb4 hHeld.2.1, Bx.keep_cell hb4 hHeld.2.2.1, Bx.keep_cell hb4 hHeld.2.2.2.1, Bx.keep_cell hb4 hHeld.2.2.2.2.1, Bx.keep_cell hb4 hHeld.2.2.2.2.2.1, Bx.keep_cell hb4 hHeld.2.2.2.2.2.2.1, Bx.keep_cell hb4 hHeld.2.2.2.2.2.2.2.1, Bx.keep_cell hb4 hHeld.2.2.2.2.2.2.2.2.1, Bx.keep_cell hb4 hHeld.2.2.2.2.2.2.2.2.2.1, Bx.keep_cell hb4 hHeld.2.2.2.2.2.2.2.2.2.2.1, Bx.keep_cell hb4 hHeld.2.2.2.2.2.2.2.2.2.2.2⟩ (fun hNew => ?_)
    clear hHeld
    have hHeld := hNew
    clear hNew hK K
    replace bel := Bx.then_below bel hb4
    clear hb4
    refine wpAnyH_take (i := 28) (oi := ?o28w1) (v := ?v28w1) ?hi28w1 (by kernel_rfl) (by kernel_rfl) (by kernel_rfl) (fun _ _ _ h => h) ?y28w1 (by assumption) ?r28w1
    case hi28w1 => (simp only [List.getElem?_toArray, List.getElem?_cons_succ, List.getElem?_cons_zero]; rfl)
    case y28w1 => (refine Or.inl ⟨by rfl, ?_⟩; intro w' hSw; (try dsimp only at hSw); go_simp; (try with_reducible rfl))
    try simp only [Act.put, List.setIfInBounds_toArray, List.set_cons_zero, List.set_cons_succ]
    refine wpAnyH_take (i := 29) (oi := ?o29w1) (v := ?v29w1) ?hi29w1 (by kernel_rfl) (by kernel_rfl) (by kernel_rfl) (fun _ _ _ h => h) ?y29w1 (by assumption) ?r29w1
    case hi29w1 => (simp only [List.getElem?_toArray, List.getElem?_cons_succ, List.getElem?_cons_zero]; rfl)
    case y29w1 => (refine Or.inl ⟨by rfl, ?_⟩; intro w' hSw; (try dsimp only at hSw); go_simp; (try with_reducible rfl))
    try simp only [Act.put, List.setIfInBounds_toArray, List.set_cons_zero, List.set_cons_succ]
    refine wpAnyH_take (i := 30) (oi := ?o30w1) (v := ?v30w1) ?hi30w1 (by kernel_rfl) (by kernel_rfl) (by kernel_rfl) (fun _ _ _ h => h) ?y30w1 (by assumption) ?r30w1
    case hi30w1 => (simp only [List.getElem?_toArray, List.getElem?_cons_succ, List.getElem?_cons_zero]; rfl)
    case y30w1 => (refine Or.inl ⟨by rfl, ?_⟩; intro w' hSw; (try dsimp only at hSw); go_simp; (try with_reducible rfl))
    try simp only [Act.put, List.setIfInBounds_toArray, List.set_cons_zero, List.set_cons_succ]
    refine wpAnyH_ready (rs := [31]) (by kernel_rfl) (by simp) ?_
    refine AllReadyH.cons (o := ?o31w1) ?hi31w1 ?hst31w1 AllReadyH.nil
    case hi31w1 => (simp only [List.getElem?_toArray, List.getElem?_cons_succ, List.getElem?_cons_zero]; rfl)
    intro K hK
    go_simp
    (go_at_call 7; (with_reducible refine (HYZ.out _).mono ?_); rintro e w5 ⟨rfl, hb5⟩)
    go_wp2_with fail
    refine hK.out _ _ ⟨Bx.keep_cell hb5 hHeld.1, Bx.keep_cell hb5 hHeld.2.1, Bx.keep_cell hb5 hHeld.2.2.1, Bx.keep_cell hb5 hHeld.2.2.2.1, Bx.keep_cell hb5 hHeld.2.2.2.2.1, Bx.keep_cell hb5 hHeld.2.2.2.2.2.1, Bx.keep_cell hb5 hHeld.2.2.2.2.2.2.1, Bx.keep_cell hb5 hHeld.2.2.2.2.2.2.2.1, Bx.keep_cell hb5 hHeld.2.2.2.2.2.2.2.2.1, Bx.keep_cell hb5 hHeld.2.2.2.2.2.2.2.2.2.1, Bx.keep_cell hb5 hHeld.2.2.2.2.2.2.2.2.2.2.1, Bx.keep_cell hb5 hHeld.2.2.2.2.2.2.2.2.2.2.2⟩ (fun hNew => ?_)
    clear hHeld
    have hHeld := hNew
    clear hNew hK K
    replace bel := Bx.then_below bel hb5
    clear hb5
    refine wpAnyH_take (i := 32) (oi := ?o32w1) (v := ?v32w1) ?hi32w1 (by kernel_rfl) (by kernel_rfl) (by kernel_rfl) (fun _ _ _ h => h) ?y32w1 (by assumption) ?r32w1
    case hi32w1 => (simp only [List.getElem?_toArray, List.getElem?_cons_succ, List.getElem?_cons_zero]; rfl)
    case y32w1 => (refine Or.inl ⟨by rfl, ?_⟩; intro w' hSw; (try dsimp only at hSw); go_simp; (try with_reducible rfl))
    try simp only [Act.put, List.setIfInBounds_toArray, List.set_cons_zero, List.set_cons_succ]
    refine wpAnyH_take (i := 33) (oi := ?o33w1) (v := ?v33w1) ?hi33w1 (by kernel_rfl) (by kernel_rfl) (by kernel_rfl) (fun _ _ _ h => h) ?y33w1 (by assumption) ?r33w1
    case hi33w1 => (simp only [List.getElem?_toArray, List.getElem?_cons_succ, List.getElem?_cons_zero]; rfl)
    case y33w1 => (refine Or.inl ⟨by rfl, ?_⟩; intro w' hSw; (try dsimp only at hSw); go_simp; (try with_reducible rfl))
    try simp only [Act.put, List.setIfInBounds_toArray, List.set_cons_zero, List.set_cons_succ]
    refine wpAnyH_take (i := 34) (oi := ?o34w1) (v := ?v34w1) ?hi34w1 (by kernel_rfl) (by kernel_rfl) (by kernel_rfl) (fun _ _ _ h => h) ?y34w1 (by assumption) ?r34w1
    case hi34w1 => (simp only [List.getElem?_toArray, List.getElem?_cons_succ, List.getElem?_cons_zero]; rfl)
    case y34w1 => (refine Or.inl ⟨by rfl, ?_⟩; intro w' hSw; (try dsimp only at hSw); go_simp; (try with_reducible rfl))
    try simp only [Act.put, List.setIfInBounds_toArray, List.set_cons_zero, List.set_cons_succ]
    refine wpAnyH_take (i := 35) (oi := ?o35w1) (v := ?v35w1) ?hi35w1 (by kernel_rfl) (by kernel_rfl) (by kernel_rfl) (fun _ _ _ h => h) ?y35w1 (by assumption) ?r35w1
    case hi35w1 => (simp only [List.getElem?_toArray, List.getElem?_cons_succ, List.getElem?_cons_zero]; rfl)
    case y35w1 => (refine Or.inl ⟨by rfl, ?_⟩; intro w' hSw; (try dsimp only at hSw); go_simp; (try with_reducible rfl))
    try simp only [Act.put, List.setIfInBounds_toArray, List.set_cons_zero, List.set_cons_succ]
    refine wpAnyH_ready (rs := [36]) (by kernel_rfl) (by simp) ?_
    refine AllReadyH.cons (o := ?o36w1) ?hi36w1 ?hst36w1 AllReadyH.nil
    case hi36w1 => (simp only [List.getElem?_toArray, List.getElem?_cons_succ, List.getElem?_cons_zero]; rfl)
    intro K hK
    go_simp
    (go_at_call 7; (with_reducible refine (HXZ.out _).mono ?_); rintro e w6 ⟨rfl, hb6⟩)
    go_wp2_with fail
    refine hK.out _ _ ⟨Bx.keep_cell hb6 hHeld.1, Bx.keep_cell hb6 hHeld.2.1, Bx.keep_cell hb6 hHeld.2.2.1, Bx.keep_cell hb6 hHeld.2.2.2.1, Bx.keep_cell hb6 hHeld.2.2.2.2.1, Bx.keep_cell hb6 hHeld.2.2.2.2.2.1, Bx.keep_cell hb6 hHeld.2.2.2.2.2.2.1, Bx.keep_cell hb6 hHeld.2.2.2.2.2.2.2.1, Bx.keep_cell hb6 hHeld.2.2.2.2.2.2.2.2.1, Bx.keep_cell hb6 hHeld.2.2.2.2.2.2.2.2.2.1, Bx.keep_cell hb6 hHeld.2.2.2.2.2.2.2.2.2.2.1, Bx.keep_cell hb6 hHeld.2.2.2.2.2.2.2.2.2.2.2⟩ (fun hNew => ?_)
    clear hHeld
    have hHeld := hNew
    clear hNew hK K
    replace bel := Bx.then_below bel hb6
    clear hb6
    refine wpAnyH_take (i := 37) (oi := ?o37w1) (v := ?v37w1) ?hi37w1 (by kernel_rfl) (by kernel_rfl) (by kernel_rfl) (fun _ _ _ h => h) ?y37w1 (by assumption) ?r37w1
    case hi37w1 => (simp only [List.getElem?_toArray, List.getElem?_cons_succ, List.getElem?_cons_zero]; rfl)
    case y37w1 => (refine Or.inl ⟨by rfl, ?_⟩; intro w' hSw; (try dsimp only at hSw); go_simp; (try with_reducible rfl))
    try simp only [Act.put, List.setIfInBounds_toArray, List.set_cons_zero, List.set_cons_succ]
    refine wpAnyH_take (i := 38) (oi := ?o38w1) (v := ?v38w1) ?hi38w1 (by kernel_rfl) (by kernel_rfl) (by kernel_rfl) (fun _ _ _ h => h) ?y38w1 (by assumption) ?r38w1
    case hi38w1 => (simp only [List.getElem?_toArray, List.getElem?_cons_succ, List.getElem?_cons_zero]; rfl)
    case y38w1 => (refine Or.inl ⟨by rfl, ?_⟩; intro w' hSw; (try dsimp only at hSw); go_simp; (try with_reducible rfl))
    try simp only [Act.put, List.setIfInBounds_toArray, List.set_cons_zero, List.set_cons_succ]
    refine wpAnyH_take (i := 39) (oi := ?o39w1) (v := ?v39w1) ?hi39w1 (by kernel_rfl) (by kernel_rfl) (by kernel_rfl) (fun _ _ _ h => h) ?y39w1 (by assumption) ?r39w1
    case hi39w1 => (simp only [List.getElem?_toArray, List.getElem?_cons_succ, List.getElem?_cons_zero]; rfl)
    case y39w1 => (refine Or.inl ⟨by rfl, ?_⟩; intro w' hSw; (try dsimp only at hSw); go_simp; (try with_reducible rfl))
    try simp only [Act.put, List.setIfInBounds_toArray, List.set_cons_zero, List.set_cons_succ]
    refine wpAnyH_done (by kernel_rfl) ?_ _
    refine NoPanic.normal ?_
    clear a0 a1 a2 a3 b0 b1 b2 b3 c0 c1 c2 c3 X0 Y0 Z0 heq hgd HXY HXZ HYX HYZ
    obtain ⟨a0, a1, a2, a3, b0, b1, b2, b3, c0, c1, c2, c3⟩ := hHeld
    go_wp2_with fail
    have HV := Lib.hid (HVS.out _ _ (Bx.Blk.new w6 [.int .u64 m1, .int .u64 m2, .int .u64 m3, .int .i64 m4, .int .u64 n1, .int .u64 n2, .int .u64 n3, .int .i64 n4, .int .u64 q1, .int .u64 q2, .int .u64 q3, .int .i64 q4] 24))
    replace bel := Bx.bel_box bel (.cells #[.int .u64 m1, .int .u64 m2, .int .u64 m3, .int .i64 m4, .int .u64 n1, .int .u64 n2, .int .u64 n3, .int .i64 n4, .int .u64 q1, .int .u64 q2, .int .u64 q3, .int .i64 q4] 24)
    refine (HL.out _ _ HV.out).mono ?_; rintro e wa ⟨⟨at_, rfl, hat⟩, hb⟩
    replace bel := Bx.then_below bel hb
    replace HV := Lib.hid (HV.out.below hb)
    clear hb a0 a1 a2 a3 b0 b1 b2 b3 c0 c1 c2 c3
    obtain ⟨k, rfl, hk3, HK⟩ := at_three hat
    clear hat
    have l1 : ¬ ((k : Int) < 0) := by omega
    have l2 : ¬ ((2 : Int) < (k : Int)) := by omega
    have l3 : (0 : Int) ≤ (k : Int) := by omega
    have l4 : (k : Int) < 3 := by omega
    obtain ⟨L, hL⟩ : ∃ L : List Vc, L = [⟨m1, m2, m3, m4⟩, ⟨n1, n2, n3, n4⟩, ⟨q1, q2, q3, q4⟩] := ⟨_, rfl⟩
    rw [← hL] at HV HLen HK
    clear hL HL HVS
    have B0 := Lib.hid bel
    clear bel
    obtain ⟨AD, hAD⟩ : ∃ AD, AD = (⟨w6.heap.size, 0, none⟩ : Addr) := ⟨_, rfl⟩
    rw [← hAD]
    rw [← hAD] at HV
    clear hAD
    go_wp2
    go_loopw [10, 65] (fun _ ix wr => ∃ i : Nat, i ≤ 3 ∧ ix = .int .i64 i ∧ Aside (Vs wr (some AD) L) ∧ Aside (Below w.heap.size w wr)) (fun _ ix _ => 3 - (intOf ix).toNat)
    case atStart => exact ⟨0, Nat.zero_le _, rfl, HV.out, B0.out⟩
    case round =>
      obtain ⟨i, hi, rfl, HA, HB⟩ := hrel
      by_cases hlt : i < 3
      · have hil : i < L.length := by rw [HLen.out]; exact hlt
        have hkl : k < L.length := by rw [HLen.out]; exact hk3
        obtain ⟨b, p, e1, hbl, d0, d1, d2, d3⟩ := HA.out.at hil
        cases e1
        have BX := Lib.hid (Bx.bel_box HB.out (vo L[i]))
        have MX := Lib.hid (Bx.Blk.new wr (enc L[i]) 24)
        have A2 := Lib.hid (HA.out.below (Bx.box_below wr (vo L[i])))
        obtain ⟨b', p', e2, _, f0, f1, f2, f3⟩ := A2.out.at hkl
        injection e2 with e2
        injection e2 with e2 e3
        subst e2 e3
        have HC := Lib.hid (fun W => HBT.out L[i] L[k] W)
        rw [HK.out i hil hkl] at HC
        generalize L[i] = s at *
        generalize L[k] = t at *
        obtain ⟨s1, s2, s3, s4⟩ := s
        obtain ⟨t1, t2, t3, t4⟩ := t
        simp only at d0 d1 d2 d3 f0 f1 f2 f3
        obtain ⟨j0, j1, j2, j3⟩ := MX.out.all4
        go_wp2_with fail
        go_region_held3 (fun w' => (w'.cell? ⟨b, p + k * 4, none⟩ = some (.int .u64 t1) ∧ w'.cell? ⟨b, p + k * 4 + 1, none⟩ = some (.int .u64 t2) ∧ w'.cell? ⟨b, p + k * 4 + 2, none⟩ = some (.int .u64 t3) ∧ w'.cell? ⟨b, p + k * 4 + 3, none⟩ = some (.int .i64 t4)) ∧ (w'.cell? ⟨wr.heap.size, 0, none⟩ = some (.int .u64 s1) ∧ w'.cell? ⟨wr.heap.size, 1, none⟩ = some (.int .u64 s2) ∧ w'.cell? ⟨wr.heap.size, 2, none⟩ = some (.int .u64 s3) ∧ w'.cell? ⟨wr.heap.size, 3, none⟩ = some (.int .i64 s4)))
          (first | go_keep | (go_split_ands; exact ⟨⟨Bx.keep_cell (by assumption) (by assumption), Bx.keep_cell (by assumption) (by assumption), Bx.keep_cell (by assumption) (by assumption), Bx.keep_cell (by assumption) (by assumption)⟩, Bx.keep_cell (by assumption) (by assumption), Bx.keep_cell (by assumption) (by assumption), Bx.keep_cell (by assumption) (by assumption), Bx.keep_cell (by assumption) (by assumption)⟩))
          (first | (go_at_call 7; with_reducible refine (HC.out _).mono ?_; rintro e w1 ⟨rfl, hb1⟩))
        have B2 := Lib.hid (BX.out.drew.trans (hb1.mono BX.out.size))
        have A3 := Lib.hid (A2.out.below (show Below (wr.alloc (vo ⟨s1, s2, s3, s4⟩)).heap.size (wr.alloc (vo ⟨s1, s2, s3, s4⟩)) w1 from (Below.refl _ _).drew.trans hb1))
        clear hb1
        go_wp2
        go_roundw
        case rel => exact ⟨i + 1, by omega, by go_num, A3.out, B2.out⟩
        case measure => simp [intOf]; omega
      · have B1 := HB
        go_wp2_with fail
        refine (HAW.out _).mono ?_; rintro e w1 ⟨rfl, hb⟩
        have B2 := Lib.hid (Bx.then_below B1.out hb)
        clear hb
        go_wp2
        go_ret
        exact ⟨rfl, B2.out⟩
  · have heq : ∀ w, (binOp .eql 24 (.agg #[.int .u64 m1, .int .u64 m2, .int .u64 m3, .int .i64 m4]) (.agg #[.int .u64 n1, .int .u64 n2, .int .u64 n3, .int .i64 n4])).run Try.prog w = .ok (.bool false) w := fun w => by rw [eql_at, decide_eq_false g3]
    have HXY : Hid (∀ W, Calls Try.prog 7 #[.agg #[.int .u64 m1, .int .u64 m2, .int .u64 m3, .int .i64 m4], .agg #[.int .u64 n1, .int .u64 n2, .int .u64 n3, .int .i64 n4]] W fun e w' => e = .returned (.bool true) ∧ Below W.heap.size W w') := Lib.hid (fun W => by have h := better_any ⟨m1, m2, m3, m4⟩ ⟨n1, n2, n3, n4⟩ W; rw [g1] at h; exact h)
    have HYX : Hid (∀ W, Calls Try.prog 7 #[.agg #[.int .u64 n1, .int .u64 n2, .int .u64 n3, .int .i64 n4], .agg #[.int .u64 m1, .int .u64 m2, .int .u64 m3, .int .i64 m4]] W fun e w' => e = .returned (.bool false) ∧ Below W.heap.size W w') := Lib.hid (fun W => by have h := better_any ⟨n1, n2, n3, n4⟩ ⟨m1, m2, m3, m4⟩ W; rw [g2] at h; exact h)
    have HYZ : Hid (∀ W, Calls Try.prog 7 #[.agg #[.int .u64 n1, .int .u64 n2, .int .u64 n3, .int .i64 n4], .agg #[.int .u64 q1, .int .u64 q2, .int .u64 q3, .int .i64 q4]] W fun e w' => e = .returned (.bool false) ∧ Below W.heap.size W w') := Lib.hid (fun W => by have h := better_any ⟨n1, n2, n3, n4⟩ ⟨q1, q2, q3, q4⟩ W; rw [g4] at h; exact h)
    clear g1 g2 g3 g4
    go_enter Try.func4, Try.ntmps4
    go_wp2
    generalize ((w.alloc (.cells #[.int .u64 m1, .int .u64 m2, .int .u64 m3, .int .i64 m4] 24)).alloc (.cells #[.int .u64 n1, .int .u64 n2, .int .u64 n3, .int .i64 n4] 24)).alloc (.cells #[.int .u64 q1, .int .u64 q2, .int .u64 q3, .int .i64 q4] 24) = W0 at *
    replace bel := bel.out
    obtain ⟨a0, a1, a2, a3⟩ := X0.out.all4
    obtain ⟨b0, b1, b2, b3⟩ := Y0.out.all4
    obtain ⟨c0, c1, c2, c3⟩ := Z0.out.all4
    refine wp_region_noPanic ?_
    refine wp_region_held_drew (S := fun w' => w'.cell? ⟨w.heap.size, 0, none⟩ = some (.int .u64 m1) ∧ w'.cell? ⟨w.heap.size, 1, none⟩ = some (.int .u64 m2) ∧ w'.cell? ⟨w.heap.size, 2, none⟩ = some (.int .u64 m3) ∧ w'.cell? ⟨w.heap.size, 3, none⟩ = some (.int .i64 m4) ∧ w'.cell? ⟨w.heap.size + 1, 0, none⟩ = some (.int .u64 n1) ∧ w'.cell? ⟨w.heap.size + 1, 1, none⟩ = some (.int .u64 n2) ∧ w'.cell? ⟨w.heap.size + 1, 2, none⟩ = some (.int .u64 n3) ∧ w'.cell? ⟨w.heap.size + 1, 3, none⟩ = some (.int .i64 n4) ∧ w'.cell? ⟨w.heap.size + 1 + 1, 0, none⟩ = some (.int .u64 q1) ∧ w'.cell? ⟨w.heap.size + 1 + 1, 1, none⟩ = some (.int .u64 q2) ∧ w'.cell? ⟨w.heap.size + 1 + 1, 2, none⟩ = some (.int .u64 q3) ∧ w'.cell? ⟨w.heap.size + 1 + 1, 3, none⟩ = some (.int .i64 q4)) (by kernel_rfl) (by exact ⟨a0, a1, a2, a3, b0, b1, b2, b3, c0, c1, c2, c3⟩) (fun hHeld => ?_)
    replace bel := Bx.bel_drewn bel
    refine wpAnyH_take (i := 0) (oi := ?o0w2) (v := ?v0w2) ?hi0w2 (by kernel_rfl) (by kernel_rfl) (by kernel_rfl) (fun _ _ _ h => h) ?y0w2 (by assumption) ?r0w2
    case hi0w2 => (simp only [List.getElem?_toArray, List.getElem?_cons_zero]; rfl)
    case y0w2 => (refine Or.inl ⟨by rfl, ?_⟩; intro w' hSw; (try dsimp only at hSw); go_simp; (try with_reducible rfl))
    try simp only [Act.put, List.setIfInBounds_toArray, List.set_cons_zero, List.set_cons_succ]
    refine wpAnyH_take (i := 1) (oi := ?o1w2) (v := ?v1w2) ?hi1w2 (by kernel_rfl) (by kernel_rfl) (by kernel_rfl) (fun _ _ _ h => h) ?y1w2 (by assumption) ?r1w2
    case hi1w2 => (simp only [List.getElem?_toArray, List.getElem?_cons_succ, List.getElem?_cons_zero]; rfl)
    case y1w2 => (refine Or.inl ⟨by rfl, ?_⟩; intro w' hSw; (try dsimp only at hSw); go_simp; (try with_reducible rfl))
    try simp only [Act.put, List.setIfInBounds_toArray, List.set_cons_zero, List.set_cons_succ]
    refine wpAnyH_ready (rs := [2]) (by kernel_rfl) (by simp) ?_
    refine AllReadyH.cons (o := ?o2w2) ?hi2w2 ?hst2w2 AllReadyH.nil
    case hi2w2 => (simp only [List.getElem?_toArray, List.getElem?_cons_succ, List.getElem?_cons_zero]; rfl)
    intro K hK
    go_simp
    (go_at_call 7; (with_reducible refine (HXY.out _).mono ?_); rintro e w1 ⟨rfl, hb1⟩)
    go_wp2_with fail
    refine hK.out _ _ ⟨Bx.keep_cell hb1 hHeld.1, Bx.keep_cell hb1 hHeld.2.1, Bx.keep_cell hb1 hHeld.2.2.1, Bx.keep_cell hb1 hHeld.2.2.2.1, Bx.keep_cell hb1 hHeld.2.2.2.2.1, Bx.keep_cell hb1 hHeld.2.2.2.2.2.1, Bx.keep_cell hb1 hHeld.2.2.2.2.2.2.1, Bx.keep_cell hb1 hHeld.2.2.2.2.2.2.2.1, Bx.keep_cell hb1 hHeld.2.2.2.2.2.2.2.2.1, Bx.keep_cell hb1 hHeld.2.2.2.2.2.2.2.2.2.1, Bx.keep_cell hb1 hHeld.2.2.2.2.2.2.2.2.2.2.1, Bx.keep_cell hb1 hHeld.2.2.2.2.2.2.2.2.2.2.2⟩ (fun hNew => ?_)
    clear hHeld
    have hHeld := hNew
    clear hNew hK K
    replace bel := Bx.then_below bel hb1
    clear hb1
    refine wpAnyH_take (i := 3) (oi := ?o3w2) (v := ?v3w2) ?hi3w2 (by kernel_rfl) (by kernel_rfl) (by kernel_rfl) (fun _ _ _ h => h) ?y3w2 (by assumption) ?r3w2
    case hi3w2 => (simp only [List.getElem?_toArray, List.getElem?_cons_succ, List.getElem?_cons_zero]; rfl)
    case y3w2 => (refine Or.inl ⟨by rfl, ?_⟩; intro w' hSw; (try dsimp only at hSw); go_simp; (try with_reducible rfl))
    try simp only [Act.put, List.setIfInBounds_toArray, List.set_cons_zero, List.set_cons_succ]
    refine wpAnyH_take (i := 4) (oi := ?o4w2) (v := ?v4w2) ?hi4w2 (by kernel_rfl) (by kernel_rfl) (by kernel_rfl) (fun _ _ _ h => h) ?y4w2 (by assumption) ?r4w2
    case hi4w2 => (simp only [List.getElem?_toArray, List.getElem?_cons_succ, List.getElem?_cons_zero]; rfl)
    case y4w2 => (refine Or.inl ⟨by rfl, ?_⟩; intro w' hSw; (try dsimp only at hSw); go_simp; (try with_reducible rfl))
    try simp only [Act.put, List.setIfInBounds_toArray, List.set_cons_zero, List.set_cons_succ]
    refine wpAnyH_take (i := 5) (oi := ?o5w2) (v := ?v5w2) ?hi5w2 (by kernel_rfl) (by kernel_rfl) (by kernel_rfl) (fun _ _ _ h => h) ?y5w2 (by assumption) ?r5w2
    case hi5w2 => (simp only [List.getElem?_toArray, List.getElem?_cons_succ, List.getElem?_cons_zero]; rfl)
    case y5w2 => (refine Or.inl ⟨by rfl, ?_⟩; intro w' hSw; (try dsimp only at hSw); go_simp; (try with_reducible rfl))
    try simp only [Act.put, List.setIfInBounds_toArray, List.set_cons_zero, List.set_cons_succ]
    refine wpAnyH_ready (rs := [6]) (by kernel_rfl) (by simp) ?_
    refine AllReadyH.cons (o := ?o6w2) ?hi6w2 ?hst6w2 AllReadyH.nil
    case hi6w2 => (simp only [List.getElem?_toArray, List.getElem?_cons_succ, List.getElem?_cons_zero]; rfl)
    intro K hK
    go_simp
    (go_at_call 7; (with_reducible refine (HYX.out _).mono ?_); rintro e w2 ⟨rfl, hb2⟩)
    go_wp2_with fail
    refine hK.out _ _ ⟨Bx.keep_cell hb2 hHeld.1, Bx.keep_cell hb2 hHeld.2.1, Bx.keep_cell hb2 hHeld.2.2.1, Bx.keep_cell hb2 hHeld.2.2.2.1, Bx.keep_cell hb2 hHeld.2.2.2.2.1, Bx.keep_cell hb2 hHeld.2.2.2.2.2.1, Bx.keep_cell hb2 hHeld.2.2.2.2.2.2.1, Bx.keep_cell hb2 hHeld.2.2.2.2.2.2.2.1, Bx.keep_cell hb2 hHeld.2.2.2.2.2.2.2.2.1, Bx.keep_cell hb2 hHeld.2.2.2.2.2.2.2.2.2.1, Bx.keep_cell hb2 hHeld.2.2.2.2.2.2.2.2.2.2.1, Bx.keep_cell hb2 hHeld.2.2.2.2.2.2.2.2.2.2.2⟩ (fun hNew => ?_)
    clear hHeld
    have hHeld := hNew
    clear hNew hK K
    replace bel := Bx.then_below bel hb2
    clear hb2
    refine wpAnyH_take (i := 7) (oi := ?o7w2) (v := ?v7w2) ?hi7w2 (by kernel_rfl) (by kernel_rfl) (by kernel_rfl) (fun _ _ _ h => h) ?y7w2 (by assumption) ?r7w2
    case hi7w2 => (simp only [List.getElem?_toArray, List.getElem?_cons_succ, List.getElem?_cons_zero]; rfl)
    case y7w2 => (refine Or.inl ⟨by rfl, ?_⟩; intro w' hSw; (try dsimp only at hSw); go_simp; (try with_reducible rfl))
    try simp only [Act.put, List.setIfInBounds_toArray, List.set_cons_zero, List.set_cons_succ]
    refine wpAnyH_take (i := 8) (oi := ?o8w2) (v := ?v8w2) ?hi8w2 (by kernel_rfl) (by kernel_rfl) (by kernel_rfl) (fun _ _ _ h => h) ?y8w2 (by assumption) ?r8w2
    case hi8w2 => (simp only [List.getElem?_toArray, List.getElem?_cons_succ, List.getElem?_cons_zero]; rfl)
    case y8w2 => (refine Or.inl ⟨by rfl, ?_⟩; intro w' hSw; (try dsimp only at hSw); go_simp; (try with_reducible rfl))
    try simp only [Act.put, List.setIfInBounds_toArray, List.set_cons_zero, List.set_cons_succ]
    refine wpAnyH_take (i := 9) (oi := ?o9w2) (v := ?v9w2) ?hi9w2 (by kernel_rfl) (by kernel_rfl) (by kernel_rfl) (fun _ _ _ h => h) ?y9w2 (by assumption) ?r9w2
    case hi9w2 => (simp only [List.getElem?_toArray, List.getElem?_cons_succ, List.getElem?_cons_zero]; rfl)
    case y9w2 => (refine Or.inl ⟨by rfl, ?_⟩; intro w' hSw; (try dsimp only at hSw); go_simp; (try with_reducible rfl))
    try simp only [Act.put, List.setIfInBounds_toArray, List.set_cons_zero, List.set_cons_succ]
    refine wpAnyH_take (i := 10) (oi := ?o10w2) (v := ?v10w2) ?hi10w2 (by kernel_rfl) (by kernel_rfl) (by kernel_rfl) (fun _ _ _ h => h) ?y10w2 (by assumption) ?r10w2
    case hi10w2 => (simp only [List.getElem?_toArray, List.getElem?_cons_succ, List.getElem?_cons_zero]; rfl)
    case y10w2 => (refine Or.inl ⟨by rfl, ?_⟩; intro w' hSw; (try dsimp only at hSw); go_simp; (try with_reducible rfl))
    try simp only [Act.put, List.setIfInBounds_toArray, List.set_cons_zero, List.set_cons_succ]
    refine wpAnyH_take (i := 11) (oi := ?o11w2) (v := ?v11w2) ?hi11w2 (by kernel_rfl) (by kernel_rfl) (by kernel_rfl) (fun _ _ _ h => h) ?y11w2 (by assumption) ?r11w2
    case hi11w2 => (simp only [List.getElem?_toArray, List.getElem?_cons_succ, List.getElem?_cons_zero]; rfl)
    case y11w2 => (refine Or.inl ⟨by rfl, ?_⟩; intro w' hSw; (try dsimp only at hSw); go_simp; (try with_reducible rfl))
    try simp only [Act.put, List.setIfInBounds_toArray, List.set_cons_zero, List.set_cons_succ]
    refine wpAnyH_take (i := 12) (oi := ?o12w2) (v := ?v12w2) ?hi12w2 (by kernel_rfl) (by kernel_rfl) (by kernel_rfl) (fun _ _ _ h => h) ?y12w2 (by assumption) ?r12w2
    case hi12w2 => (simp only [List.getElem?_toArray, List.getElem?_cons_succ, List.getElem?_cons_zero]; rfl)
    case y12w2 => (refine Or.inl ⟨by rfl, ?_⟩; intro w' hSw; (try dsimp only at hSw); go_simp; (try with_reducible rfl))
    try simp only [Act.put, List.setIfInBounds_toArray, List.set_cons_zero, List.set_cons_succ]
    refine wpAnyH_take (i := 13) (oi := ?o13w2) (v := ?v13w2) ?hi13w2 (by kernel_rfl) (by kernel_rfl) (by kernel_rfl) (fun _ _ _ h => h) ?y13w2 (by assumption) ?r13w2
    case hi13w2 => (simp only [List.getElem?_toArray, List.getElem?_cons_succ, List.getElem?_cons_zero]; rfl)
    case y13w2 => (refine Or.inl ⟨by rfl, ?_⟩; intro w' hSw; (try dsimp only at hSw); go_simp; (try with_reducible rfl))
    try simp only [Act.put, List.setIfInBounds_toArray, List.set_cons_zero, List.set_cons_succ]
    refine wpAnyH_ready (rs := [14]) (by kernel_rfl) (by simp) ?_
    refine AllReadyH.cons (o := ?o14w2) ?hi14w2 ?hst14w2 AllReadyH.nil
    case hi14w2 => (simp only [List.getElem?_toArray, List.getElem?_cons_succ, List.getElem?_cons_zero]; rfl)
    intro K hK
    go_simp
    (go_at_call 7; (with_reducible refine (HXY.out _).mono ?_); rintro e w3 ⟨rfl, hb3⟩)
    go_wp2_with fail
    refine hK.out _ _ ⟨Bx.keep_cell hb3 hHeld.1, Bx.keep_cell hb3 hHeld.2.1, Bx.keep_cell hb3 hHeld.2.2.1, Bx.keep_cell hb3 hHeld.2.2.2.1, Bx.keep_cell hb3 hHeld.2.2.2.2.1, Bx.keep_cell hb3 hHeld.2.2.2.2.2.1, Bx.keep_cell hb3 hHeld.2.2.2.2.2.2.1, Bx.keep_cell hb3 hHeld.2.2.2.2.2.2.2.1, Bx.keep_cell hb3 hHeld.2.2.2.2.2.2.2.2.1, Bx.keep_cell hb3 hHeld.2.2.2.2.2.2.2.2.2.1, Bx.keep_cell hb3 hHeld.2.2.2.2.2.2.2.2.2.2.1, Bx.keep_cell hb3 hHeld.2.2.2.2.2.2.2.2.2.2.2⟩ (fun hNew => ?_)
    clear hHeld
    have hHeld := hNew
    clear hNew hK K
    replace bel := Bx.then_below bel hb3
    clear hb3
    refine wpAnyH_take (i := 15) (oi := ?o15w2) (v := ?v15w2) ?hi15w2 (by kernel_rfl) (by kernel_rfl) (by kernel_rfl) (fun _ _ _ h => h) ?y15w2 (by assumption) ?r15w2
    case hi15w2 => (simp only [List.getElem?_toArray, List.getElem?_cons_succ, List.getElem?_cons_zero]; rfl)
    case y15w2 => (refine Or.inl ⟨by rfl, ?_⟩; intro w' hSw; (try dsimp only at hSw); go_simp; (try with_reducible rfl))
    try simp only [Act.put, List.setIfInBounds_toArray, List.set_cons_zero, List.set_cons_succ]
    refine wpAnyH_take (i := 16) (oi := ?o16w2) (v := ?v16w2) ?hi16w2 (by kernel_rfl) (by kernel_rfl) (by kernel_rfl) (fun _ _ _ h => h) ?y16w2 (by assumption) ?r16w2
    case hi16w2 => (simp only [List.getElem?_toArray, List.getElem?_cons_succ, List.getElem?_cons_zero]; rfl)
    case y16w2 => (refine Or.inl ⟨by rfl, ?_⟩; intro w' hSw; (try dsimp only at hSw); go_simp; (try with_reducible rfl))
    try simp only [Act.put, List.setIfInBounds_toArray, List.set_cons_zero, List.set_cons_succ]
    refine wpAnyH_take (i := 17) (oi := ?o17w2) (v := undef) ?hi17w2 (by kernel_rfl) (by kernel_rfl) (by kernel_rfl) (fun _ _ _ h => h) ?y17w2 (by assumption) ?r17w2
    case hi17w2 => (simp only [List.getElem?_toArray, List.getElem?_cons_succ, List.getElem?_cons_zero]; rfl)
    case y17w2 => exact Or.inr ⟨by rfl, rfl⟩
    try simp only [Act.put, List.setIfInBounds_toArray, List.set_cons_zero, List.set_cons_succ]
    refine wpAnyH_take (i := 18) (oi := ?o18w2) (v := undef) ?hi18w2 (by kernel_rfl) (by kernel_rfl) (by kernel_rfl) (fun _ _ _ h => h) ?y18w2 (by assumption) ?r18w2
    case hi18w2 => (simp only [List.getElem?_toArray, List.getElem?_cons_succ, List.getElem?_cons_zero]; rfl)
    case y18w2 => exact Or.inr ⟨by rfl, rfl⟩
    try simp only [Act.put, List.setIfInBounds_toArray, List.set_cons_zero, List.set_cons_succ]
    refine wpAnyH_take (i := 19) (oi := ?o19w2) (v := undef) ?hi19w2 (by kernel_rfl) (by kernel_rfl) (by kernel_rfl) (fun _ _ _ h => h) ?y19w2 (by assumption) ?r19w2
    case hi19w2 => (simp only [List.getElem?_toArray, List.getElem?_cons_succ, List.getElem?_cons_zero]; rfl)
    case y19w2 => exact Or.inr ⟨by rfl, rfl⟩
    try simp only [Act.put, List.setIfInBounds_toArray, List.set_cons_zero, List.set_cons_succ]
    refine wpAnyH_take (i := 20) (oi := ?o20w2) (v := undef) ?hi20w2 (by kernel_rfl) (by kernel_rfl) (by kernel_rfl) (fun _ _ _ h => h) ?y20w2 (by assumption) ?r20w2
    case hi20w2 => (simp only [List.getElem?_toArray, List.getElem?_cons_succ, List.getElem?_cons_zero]; rfl)
    case y20w2 => exact Or.inr ⟨by rfl, rfl⟩
    try simp only [Act.put, List.setIfInBounds_toArray, List.set_cons_zero, List.set_cons_succ]
    refine wpAnyH_take (i := 21) (oi := ?o21w2) (v := ?v21w2) ?hi21w2 (by kernel_rfl) (by kernel_rfl) (by kernel_rfl) (fun _ _ _ h => h) ?y21w2 (by assumption) ?r21w2
    case hi21w2 => (simp only [List.getElem?_toArray, List.getElem?_cons_succ, List.getElem?_cons_zero]; rfl)
    case y21w2 => (refine Or.inl ⟨by rfl, ?_⟩; intro w' hSw; (try dsimp only at hSw); go_simp; (try with_reducible rfl))
    try simp only [Act.put, List.setIfInBounds_toArray, List.set_cons_zero, List.set_cons_succ]
    refine wpAnyH_take (i := 22) (oi := ?o22w2) (v := ?v22w2) ?hi22w2 (by kernel_rfl) (by kernel_rfl) (by kernel_rfl) (fun _ _ _ h => h) ?y22w2 (by assumption) ?r22w2
    case hi22w2 => (simp only [List.getElem?_toArray, List.getElem?_cons_succ, List.getElem?_cons_zero]; rfl)
    case y22w2 => (refine Or.inl ⟨by rfl, ?_⟩; intro w' hSw; (try dsimp only at hSw); go_simp; (try with_reducible rfl))
    try simp only [Act.put, List.setIfInBounds_toArray, List.set_cons_zero, List.set_cons_succ]
    refine wpAnyH_take (i := 23) (oi := ?o23w2) (v := ?v23w2) ?hi23w2 (by kernel_rfl) (by kernel_rfl) (by kernel_rfl) (fun _ _ _ h => h) ?y23w2 (by assumption) ?r23w2
    case hi23w2 => (simp only [List.getElem?_toArray, List.getElem?_cons_succ, List.getElem?_cons_zero]; rfl)
    case y23w2 => (refine Or.inl ⟨by rfl, ?_⟩; intro w' hSw; (try dsimp only at hSw); go_simp; (try with_reducible rfl))
    try simp only [Act.put, List.setIfInBounds_toArray, List.set_cons_zero, List.set_cons_succ]
    refine wpAnyH_take (i := 24) (oi := ?o24w2) (v := ?v24w2) ?hi24w2 (by kernel_rfl) (by kernel_rfl) (by kernel_rfl) (fun _ _ _ h => h) ?y24w2 (by assumption) ?r24w2
    case hi24w2 => (simp only [List.getElem?_toArray, List.getElem?_cons_succ, List.getElem?_cons_zero]; rfl)
    case y24w2 => (refine Or.inl ⟨by rfl, ?_⟩; intro w' hSw; (try dsimp only at hSw); go_simp; (try with_reducible rfl))
    try simp only [Act.put, List.setIfInBounds_toArray, List.set_cons_zero, List.set_cons_succ]
    refine wpAnyH_take (i := 25) (oi := ?o25w2) (v := ?v25w2) ?hi25w2 (by kernel_rfl) (by kernel_rfl) (by kernel_rfl) (fun _ _ _ h => h) ?y25w2 (by assumption) ?r25w2
    case hi25w2 => (simp only [List.getElem?_toArray, List.getElem?_cons_succ, List.getElem?_cons_zero]; rfl)
    case y25w2 => (refine Or.inl ⟨by rfl, ?_⟩; intro w' hSw; (try dsimp only at hSw); go_simp; (try with_reducible rfl))
    try simp only [Act.put, List.setIfInBounds_toArray, List.set_cons_zero, List.set_cons_succ]
    refine wpAnyH_take (i := 26) (oi := ?o26w2) (v := ?v26w2) ?hi26w2 (by kernel_rfl) (by kernel_rfl) (by kernel_rfl) (fun _ _ _ h => h) ?y26w2 (by assumption) ?r26w2
    case hi26w2 => (simp only [List.getElem?_toArray, List.getElem?_cons_succ, List.getElem?_cons_zero]; rfl)
    case y26w2 => (refine Or.inl ⟨by rfl, ?_⟩; intro w' hSw; (try dsimp only at hSw); go_simp; (try with_reducible rfl))
    try simp only [Act.put, List.setIfInBounds_toArray, List.set_cons_zero, List.set_cons_succ]
    refine wpAnyH_ready (rs := [27]) (by kernel_rfl) (by simp) ?_
    refine AllReadyH.cons (o := ?o27w2) ?hi27w2 ?hst27w2 AllReadyH.nil
    case hi27w2 => (simp only [List.getElem?_toArray, List.getElem?_cons_succ, List.getElem?_cons_zero]; rfl)
    intro K hK
    go_simp
    (go_at_call 7; (with_reducible refine (HXY.out _).mono ?_); rintro e w4 ⟨rfl, hb4⟩)
    go_wp2_with fail
    refine hK.out _ _ ⟨Bx.keep_cell hb4 hHeld.1, Bx.keep_cell hb4 hHeld.2.1, Bx.keep_cell hb4 hHeld.2.2.1, Bx.keep_cell hb4 hHeld.2.2.2.1, Bx.keep_cell hb4 hHeld.2.2.2.2.1, Bx.keep_cell hb4 hHeld.2.2.2.2.2.1, Bx.keep_cell hb4 hHeld.2.2.2.2.2.2.1, Bx.keep_cell hb4 hHeld.2.2.2.2.2.2.2.1, Bx.keep_cell hb4 hHeld.2.2.2.2.2.2.2.2.1, Bx.keep_cell hb4 hHeld.2.2.2.2.2.2.2.2.2.1, Bx.keep_cell hb4 hHeld.2.2.2.2.2.2.2.2.2.2.1, Bx.keep_cell hb4 hHeld.2.2.2.2.2.2.2.2.2.2.2⟩ (fun hNew => ?_)
    clear hHeld
    have hHeld := hNew
    clear hNew hK K
    replace bel := Bx.then_below bel hb4
    clear hb4
    refine wpAnyH_take (i := 28) (oi := ?o28w2) (v := ?v28w2) ?hi28w2 (by kernel_rfl) (by kernel_rfl) (by kernel_rfl) (fun _ _ _ h => h) ?y28w2 (by assumption) ?r28w2
    case hi28w2 => (simp only [List.getElem?_toArray, List.getElem?_cons_succ, List.getElem?_cons_zero]; rfl)
    case y28w2 => (refine Or.inl ⟨by rfl, ?_⟩; intro w' hSw; (try dsimp only at hSw); go_simp; (try with_reducible rfl))
    try simp only [Act.put, List.setIfInBounds_toArray, List.set_cons_zero, List.set_cons_succ]
    refine wpAnyH_take (i := 29) (oi := ?o29w2) (v := ?v29w2) ?hi29w2 (by kernel_rfl) (by kernel_rfl) (by kernel_rfl) (fun _ _ _ h => h) ?y29w2 (by assumption) ?r29w2
    case hi29w2 => (simp only [List.getElem?_toArray, List.getElem?_cons_succ, List.getElem?_cons_zero]; rfl)
    case y29w2 => (refine Or.inl ⟨by rfl, ?_⟩; intro w' hSw; (try dsimp only at hSw); go_simp; (try with_reducible rfl))
    try simp only [Act.put, List.setIfInBounds_toArray, List.set_cons_zero, List.set_cons_succ]
    refine wpAnyH_take (i := 30) (oi := ?o30w2) (v := ?v30w2) ?hi30w2 (by kernel_rfl) (by kernel_rfl) (by kernel_rfl) (fun _ _ _ h => h) ?y30w2 (by assumption) ?r30w2
    case hi30w2 => (simp only [List.getElem?_toArray, List.getElem?_cons_succ, List.getElem?_cons_zero]; rfl)
    case y30w2 => (refine Or.inl ⟨by rfl, ?_⟩; intro w' hSw; (try dsimp only at hSw); go_simp; (try with_reducible rfl))
    try simp only [Act.put, List.setIfInBounds_toArray, List.set_cons_zero, List.set_cons_succ]
    refine wpAnyH_ready (rs := [31]) (by kernel_rfl) (by simp) ?_
    refine AllReadyH.cons (o := ?o31w2) ?hi31w2 ?hst31w2 AllReadyH.nil
    case hi31w2 => (simp only [List.getElem?_toArray, List.getElem?_cons_succ, List.getElem?_cons_zero]; rfl)
    intro K hK
    go_simp
    (go_at_call 7; (with_reducible refine (HYZ.out _).mono ?_); rintro e w5 ⟨rfl, hb5⟩)
    go_wp2_with fail
    refine hK.out _ _ ⟨Bx.keep_cell hb5 hHeld.1, Bx.keep_cell hb5 hHeld.2.1, Bx.keep_cell hb5 hHeld.2.2.1, Bx.keep_cell hb5 hHeld.2.2.2.1, Bx.keep_cell hb5 hHeld.2.2.2.2.1, Bx.keep_cell hb5 hHeld.2.2.2.2.2.1, Bx.keep_cell hb5 hHeld.2.2.2.2.2.2.1, Bx.keep_cell hb5 hHeld.2.2.2.2.2.2.2.1, Bx.keep_cell hb5 hHeld.2.2.2.2.2.2.2.2.1, Bx.keep_cell hb5 hHeld.2.2.2.2.2.2.2.2.2.1, Bx.keep_cell hb5 hHeld.2.2.2.2.2.2.2.2.2.2.1, Bx.keep_cell hb5 hHeld.2.2.2.2.2.2.2.2.2.2.2⟩ (fun hNew => ?_)
    clear hHeld
    have hHeld := hNew
    clear hNew hK K
    replace bel := Bx.then_below bel hb5
    clear hb5
    refine wpAnyH_take (i := 32) (oi := ?o32w2) (v := ?v32w2) ?hi32w2 (by kernel_rfl) (by kernel_rfl) (by kernel_rfl) (fun _ _ _ h => h) ?y32w2 (by assumption) ?r32w2
    case hi32w2 => (simp only [List.getElem?_toArray, List.getElem?_cons_succ, List.getElem?_cons_zero]; rfl)
    case y32w2 => (refine Or.inl ⟨by rfl, ?_⟩; intro w' hSw; (try dsimp only at hSw); go_simp; (try with_reducible rfl))
    try simp only [Act.put, List.setIfInBounds_toArray, List.set_cons_zero, List.set_cons_succ]
    refine wpAnyH_take (i := 33) (oi := ?o33w2) (v := ?v33w2) ?hi33w2 (by kernel_rfl) (by kernel_rfl) (by kernel_rfl) (fun _ _ _ h => h) ?y33w2 (by assumption) ?r33w2
    case hi33w2 => (simp only [List.getElem?_toArray, List.getElem?_cons_succ, List.getElem?_cons_zero]; rfl)
    case y33w2 => (refine Or.inl ⟨by rfl, ?_⟩; intro w' hSw; (try dsimp only at hSw); go_simp; (try with_reducible rfl))
    try simp only [Act.put, List.setIfInBounds_toArray, List.set_cons_zero, List.set_cons_succ]
    refine wpAnyH_take (i := 34) (oi := ?o34w2) (v := undef) ?hi34w2 (by kernel_rfl) (by kernel_rfl) (by kernel_rfl) (fun _ _ _ h => h) ?y34w2 (by assumption) ?r34w2
    case hi34w2 => (simp only [List.getElem?_toArray, List.getElem?_cons_succ, List.getElem?_cons_zero]; rfl)
    case y34w2 => exact Or.inr ⟨by rfl, rfl⟩
    try simp only [Act.put, List.setIfInBounds_toArray, List.set_cons_zero, List.set_cons_succ]
    refine wpAnyH_take (i := 35) (oi := ?o35w2) (v := undef) ?hi35w2 (by kernel_rfl) (by kernel_rfl) (by kernel_rfl) (fun _ _ _ h => h) ?y35w2 (by assumption) ?r35w2
    case hi35w2 => (simp only [List.getElem?_toArray, List.getElem?_cons_succ, List.getElem?_cons_zero]; rfl)
    case y35w2 => exact Or.inr ⟨by rfl, rfl⟩
    try simp only [Act.put, List.setIfInBounds_toArray, List.set_cons_zero, List.set_cons_succ]
    refine wpAnyH_take (i := 36) (oi := ?o36w2) (v := undef) ?hi36w2 (by kernel_rfl) (by kernel_rfl) (by kernel_rfl) (fun _ _ _ h => h) ?y36w2 (by assumption) ?r36w2
    case hi36w2 => (simp only [List.getElem?_toArray, List.getElem?_cons_succ, List.getElem?_cons_zero]; rfl)
    case y36w2 => exact Or.inr ⟨by rfl, rfl⟩
    try simp only [Act.put, List.setIfInBounds_toArray, List.set_cons_zero, List.set_cons_succ]
    refine wpAnyH_take (i := 37) (oi := ?o37w2) (v := undef) ?hi37w2 (by kernel_rfl) (by kernel_rfl) (by kernel_rfl) (fun _ _ _ h => h) ?y37w2 (by assumption) ?r37w2
    case hi37w2 => (simp only [List.getElem?_toArray, List.getElem?_cons_succ, List.getElem?_cons_zero]; rfl)
    case y37w2 => exact Or.inr ⟨by rfl, rfl⟩
    try simp only [Act.put, List.setIfInBounds_toArray, List.set_cons_zero, List.set_cons_succ]
    refine wpAnyH_take (i := 38) (oi := ?o38w2) (v := ?v38w2) ?hi38w2 (by kernel_rfl) (by kernel_rfl) (by kernel_rfl) (fun _ _ _ h => h) ?y38w2 (by assumption) ?r38w2
    case hi38w2 => (simp only [List.getElem?_toArray, List.getElem?_cons_succ, List.getElem?_cons_zero]; rfl)
    case y38w2 => (refine Or.inl ⟨by rfl, ?_⟩; intro w' hSw; (try dsimp only at hSw); go_simp; (try with_reducible rfl))
    try simp only [Act.put, List.setIfInBounds_toArray, List.set_cons_zero, List.set_cons_succ]
    refine wpAnyH_take (i := 39) (oi := ?o39w2) (v := ?v39w2) ?hi39w2 (by kernel_rfl) (by kernel_rfl) (by kernel_rfl) (fun _ _ _ h => h) ?y39w2 (by assumption) ?r39w2
    case hi39w2 => (simp only [List.getElem?_toArray, List.getElem?_cons_succ, List.getElem?_cons_zero]; rfl)
    case y39w2 => (refine Or.inl ⟨by rfl, ?_⟩; intro w' hSw; (try dsimp only at hSw); go_simp; (try with_reducible rfl))
    try simp only [Act.put, List.setIfInBounds_toArray, List.set_cons_zero, List.set_cons_succ]
    refine wpAnyH_done (by kernel_rfl) ?_ _
    refine NoPanic.normal ?_
    clear a0 a1 a2 a3 b0 b1 b2 b3 c0 c1 c2 c3 X0 Y0 Z0 heq hgd HXY HYX HYZ
    obtain ⟨a0, a1, a2, a3, b0, b1, b2, b3, c0, c1, c2, c3⟩ := hHeld
    go_wp2_with fail
    have HV := Lib.hid (HVS.out _ _ (Bx.Blk.new w5 [.int .u64 m1, .int .u64 m2, .int .u64 m3, .int .i64 m4, .int .u64 n1, .int .u64 n2, .int .u64 n3, .int .i64 n4, .int .u64 q1, .int .u64 q2, .int .u64 q3, .int .i64 q4] 24))
    replace bel := Bx.bel_box bel (.cells #[.int .u64 m1, .int .u64 m2, .int .u64 m3, .int .i64 m4, .int .u64 n1, .int .u64 n2, .int .u64 n3, .int .i64 n4, .int .u64 q1, .int .u64 q2, .int .u64 q3, .int .i64 q4] 24)
    refine (HL.out _ _ HV.out).mono ?_; rintro e wa ⟨⟨at_, rfl, hat⟩, hb⟩
    replace bel := Bx.then_below bel hb
    replace HV := Lib.hid (HV.out.below hb)
    clear hb a0 a1 a2 a3 b0 b1 b2 b3 c0 c1 c2 c3
    obtain ⟨k, rfl, hk3, HK⟩ := at_three hat
    clear hat
    have l1 : ¬ ((k : Int) < 0) := by omega
    have l2 : ¬ ((2 : Int) < (k : Int)) := by omega
    have l3 : (0 : Int) ≤ (k : Int) := by omega
    have l4 : (k : Int) < 3 := by omega
    obtain ⟨L, hL⟩ : ∃ L : List Vc, L = [⟨m1, m2, m3, m4⟩, ⟨n1, n2, n3, n4⟩, ⟨q1, q2, q3, q4⟩] := ⟨_, rfl⟩
    rw [← hL] at HV HLen HK
    clear hL HL HVS
    have B0 := Lib.hid bel
    clear bel
    obtain ⟨AD, hAD⟩ : ∃ AD, AD = (⟨w5.heap.size, 0, none⟩ : Addr) := ⟨_, rfl⟩
    rw [← hAD]
    rw [← hAD] at HV
    clear hAD
    go_wp2
    go_loopw [10, 65] (fun _ ix wr => ∃ i : Nat, i ≤ 3 ∧ ix = .int .i64 i ∧ Aside (Vs wr (some AD) L) ∧ Aside (Below w.heap.size w wr)) (fun _ ix _ => 3 - (intOf ix).toNat)
    case atStart => exact ⟨0, Nat.zero_le _, rfl, HV.out, B0.out⟩
    case round =>
      obtain ⟨i, hi, rfl, HA, HB⟩ := hrel
      by_cases hlt : i < 3
      · have hil : i < L.length := by rw [HLen.out]; exact hlt
        have hkl : k < L.length := by rw [HLen.out]; exact hk3
        obtain ⟨b, p, e1, hbl, d0, d1, d2, d3⟩ := HA.out.at hil
        cases e1
        have BX := Lib.hid (Bx.bel_box HB.out (vo L[i]))
        have MX := Lib.hid (Bx.Blk.new wr (enc L[i]) 24)
        have A2 := Lib.hid (HA.out.below (Bx.box_below wr (vo L[i])))
        obtain ⟨b', p', e2, _, f0, f1, f2, f3⟩ := A2.out.at hkl
        injection e2 with e2
        injection e2 with e2 e3
        subst e2 e3
        have HC := Lib.hid (fun W => HBT.out L[i] L[k] W)
        rw [HK.out i hil hkl] at HC
        generalize L[i] = s at *
        generalize L[k] = t at *
        obtain ⟨s1, s2, s3, s4⟩ := s
        obtain ⟨t1, t2, t3, t4⟩ := t
        simp only at d0 d1 d2 d3 f0 f1 f2 f3
        obtain ⟨j0, j1, j2, j3⟩ := MX.out.all4
        go_wp2_with fail
        go_region_held3 (fun w' => (w'.cell? ⟨b, p + k * 4, none⟩ = some (.int .u64 t1) ∧ w'.cell? ⟨b, p + k * 4 + 1, none⟩ = some (.int .u64 t2) ∧ w'.cell? ⟨b, p + k * 4 + 2, none⟩ = some (.int .u64 t3) ∧ w'.cell? ⟨b, p + k * 4 + 3, none⟩ = some (.int .i64 t4)) ∧ (w'.cell? ⟨wr.heap.size, 0, none⟩ = some (.int .u64 s1) ∧ w'.cell? ⟨wr.heap.size, 1, none⟩ = some (.int .u64 s2) ∧ w'.cell? ⟨wr.heap.size, 2, none⟩ = some (.int .u64 s3) ∧ w'.cell? ⟨wr.heap.size, 3, none⟩ = some (.int .i64 s4)))
          (first | go_keep | (go_split_ands; exact ⟨⟨Bx.keep_cell (by assumption) (by assumption), Bx.keep_cell (by assumption) (by assumption), Bx.keep_cell (by assumption) (by assumption), Bx.keep_cell (by assumption) (by assumption)⟩, Bx.keep_cell (by assumption) (by assumption), Bx.keep_cell (by assumption) (by assumption), Bx.keep_cell (by assumption) (by assumption), Bx.keep_cell (by assumption) (by assumption)⟩))
          (first | (go_at_call 7; with_reducible refine (HC.out _).mono ?_; rintro e w1 ⟨rfl, hb1⟩))
        have B2 := Lib.hid (BX.out.drew.trans (hb1.mono BX.out.size))
        have A3 := Lib.hid (A2.out.below (show Below (wr.alloc (vo ⟨s1, s2, s3, s4⟩)).heap.size (wr.alloc (vo ⟨s1, s2, s3, s4⟩)) w1 from (Below.refl _ _).drew.trans hb1))
        clear hb1
        go_wp2
        go_roundw
        case rel => exact ⟨i + 1, by omega, by go_num, A3.out, B2.out⟩
        case measure => simp [intOf]; omega
      · have B1 := HB
        go_wp2_with fail
        refine (HAW.out _).mono ?_; rintro e w1 ⟨rfl, hb⟩
        have B2 := Lib.hid (Bx.then_below B1.out hb)
        clear hb
        go_wp2
        go_ret
        exact ⟨rfl, B2.out⟩
  · have heq : ∀ w, (binOp .eql 24 (.agg #[.int .u64 m1, .int .u64 m2, .int .u64 m3, .int .i64 m4]) (.agg #[.int .u64 n1, .int .u64 n2, .int .u64 n3, .int .i64 n4])).run Try.prog w = .ok (.bool false) w := fun w => by rw [eql_at, decide_eq_false g3]
    have HXY : Hid (∀ W, Calls Try.prog 7 #[.agg #[.int .u64 m1, .int .u64 m2, .int .u64 m3, .int .i64 m4], .agg #[.int .u64 n1, .int .u64 n2, .int .u64 n3, .int .i64 n4]] W fun e w' => e = .returned (.bool false) ∧ Below W.heap.size W w') := Lib.hid (fun W => by have h := better_any ⟨m1, m2, m3, m4⟩ ⟨n1, n2, n3, n4⟩ W; rw [g1] at h; exact h)
    have HYX : Hid (∀ W, Calls Try.prog 7 #[.agg #[.int .u64 n1, .int .u64 n2, .int .u64 n3, .int .i64 n4], .agg #[.int .u64 m1, .int .u64 m2, .int .u64 m3, .int .i64 m4]] W fun e w' => e = .returned (.bool true) ∧ Below W.heap.size W w') := Lib.hid (fun W => by have h := better_any ⟨n1, n2, n3, n4⟩ ⟨m1, m2, m3, m4⟩ W; rw [g2] at h; exact h)
    clear g1 g2 g3
    go_enter Try.func4, Try.ntmps4
    go_wp2
    generalize ((w.alloc (.cells #[.int .u64 m1, .int .u64 m2, .int .u64 m3, .int .i64 m4] 24)).alloc (.cells #[.int .u64 n1, .int .u64 n2, .int .u64 n3, .int .i64 n4] 24)).alloc (.cells #[.int .u64 q1, .int .u64 q2, .int .u64 q3, .int .i64 q4] 24) = W0 at *
    replace bel := bel.out
    obtain ⟨a0, a1, a2, a3⟩ := X0.out.all4
    obtain ⟨b0, b1, b2, b3⟩ := Y0.out.all4
    obtain ⟨c0, c1, c2, c3⟩ := Z0.out.all4
    refine wp_region_noPanic ?_
    refine wp_region_held_drew (S := fun w' => w'.cell? ⟨w.heap.size, 0, none⟩ = some (.int .u64 m1) ∧ w'.cell? ⟨w.heap.size, 1, none⟩ = some (.int .u64 m2) ∧ w'.cell? ⟨w.heap.size, 2, none⟩ = some (.int .u64 m3) ∧ w'.cell? ⟨w.heap.size, 3, none⟩ = some (.int .i64 m4) ∧ w'.cell? ⟨w.heap.size + 1, 0, none⟩ = some (.int .u64 n1) ∧ w'.cell? ⟨w.heap.size + 1, 1, none⟩ = some (.int .u64 n2) ∧ w'.cell? ⟨w.heap.size + 1, 2, none⟩ = some (.int .u64 n3) ∧ w'.cell? ⟨w.heap.size + 1, 3, none⟩ = some (.int .i64 n4) ∧ w'.cell? ⟨w.heap.size + 1 + 1, 0, none⟩ = some (.int .u64 q1) ∧ w'.cell? ⟨w.heap.size + 1 + 1, 1, none⟩ = some (.int .u64 q2) ∧ w'.cell? ⟨w.heap.size + 1 + 1, 2, none⟩ = some (.int .u64 q3) ∧ w'.cell? ⟨w.heap.size + 1 + 1, 3, none⟩ = some (.int .i64 q4)) (by kernel_rfl) (by exact ⟨a0, a1, a2, a3, b0, b1, b2, b3, c0, c1, c2, c3⟩) (fun hHeld => ?_)
    replace bel := Bx.bel_drewn bel
    refine wpAnyH_take (i := 0) (oi := ?o0w3) (v := ?v0w3) ?hi0w3 (by kernel_rfl) (by kernel_rfl) (by kernel_rfl) (fun _ _ _ h => h) ?y0w3 (by assumption) ?r0w3
    case hi0w3 => (simp only [List.getElem?_toArray, List.getElem?_cons_zero]; rfl)
    case y0w3 => (refine Or.inl ⟨by rfl, ?_⟩; intro w' hSw; (try dsimp only at hSw); go_simp; (try with_reducible rfl))
    try simp only [Act.put, List.setIfInBounds_toArray, List.set_cons_zero, List.set_cons_succ]
    refine wpAnyH_take (i := 1) (oi := ?o1w3) (v := ?v1w3) ?hi1w3 (by kernel_rfl) (by kernel_rfl) (by kernel_rfl) (fun _ _ _ h => h) ?y1w3 (by assumption) ?r1w3
    case hi1w3 => (simp only [List.getElem?_toArray, List.getElem?_cons_succ, List.getElem?_cons_zero]; rfl)
    case y1w3 => (refine Or.inl ⟨by rfl, ?_⟩; intro w' hSw; (try dsimp only at hSw); go_simp; (try with_reducible rfl))
    try simp only [Act.put, List.setIfInBounds_toArray, List.set_cons_zero, List.set_cons_succ]
    refine wpAnyH_ready (rs := [2]) (by kernel_rfl) (by simp) ?_
    refine AllReadyH.cons (o := ?o2w3) ?hi2w3 ?hst2w3 AllReadyH.nil
    case hi2w3 => (simp only [List.getElem?_toArray, List.getElem?_cons_succ, List.getElem?_cons_zero]; rfl)
    intro K hK
    go_simp
    (go_at_call 7; (with_reducible refine (HXY.out _).mono ?_); rintro e w1 ⟨rfl, hb1⟩)
    go_wp2_with fail
    refine hK.out _ _ ⟨Bx.keep_cell hb1 hHeld.1, Bx.keep_cell hb1 hHeld.2.1, Bx.keep_cell hb1 hHeld.2.2.1, Bx.keep_cell hb1 hHeld.2.2.2.1, Bx.keep_cell hb1 hHeld.2.2.2.2.1, Bx.keep_cell hb1 hHeld.2.2.2.2.2.1, Bx.keep_cell hb1 hHeld.2.2.2.2.2.2.1, Bx.keep_cell hb1 hHeld.2.2.2.2.2.2.2.1, Bx.keep_cell hb1 hHeld.2.2.2.2.2.2.2.2.1, Bx.keep_cell hb1 hHeld.2.2.2.2.2.2.2.2.2.1, Bx.keep_cell hb1 hHeld.2.2.2.2.2.2.2.2.2.2.1, Bx.keep_cell hb1 hHeld.2.2.2.2.2.2.2.2.2.2.2⟩ (fun hNew => ?_)
    clear hHeld
    have hHeld := hNew
    clear hNew hK K
    replace bel := Bx.then_below bel hb1
    clear hb1
    refine wpAnyH_take (i := 3) (oi := ?o3w3) (v := ?v3w3) ?hi3w3 (by kernel_rfl) (by kernel_rfl) (by kernel_rfl) (fun _ _ _ h => h) ?y3w3 (by assumption) ?r3w3
    case hi3w3 => (simp only [List.getElem?_toArray, List.getElem?_cons_succ, List.getElem?_cons_zero]; rfl)
    case y3w3 => (refine Or.inl ⟨by rfl, ?_⟩; intro w' hSw; (try dsimp only at hSw); go_simp; (try with_reducible rfl))
    try simp only [Act.put, List.setIfInBounds_toArray, List.set_cons_zero, List.set_cons_succ]
    refine wpAnyH_take (i := 4) (oi := ?o4w3) (v := undef) ?hi4w3 (by kernel_rfl) (by kernel_rfl) (by kernel_rfl) (fun _ _ _ h => h) ?y4w3 (by assumption) ?r4w3
    case hi4w3 => (simp only [List.getElem?_toArray, List.getElem?_cons_succ, List.getElem?_cons_zero]; rfl)
    case y4w3 => exact Or.inr ⟨by rfl, rfl⟩
    try simp only [Act.put, List.setIfInBounds_toArray, List.set_cons_zero, List.set_cons_succ]
    refine wpAnyH_take (i := 5) (oi := ?o5w3) (v := undef) ?hi5w3 (by kernel_rfl) (by kernel_rfl) (by kernel_rfl) (fun _ _ _ h => h) ?y5w3 (by assumption) ?r5w3
    case hi5w3 => (simp only [List.getElem?_toArray, List.getElem?_cons_succ, List.getElem?_cons_zero]; rfl)
    case y5w3 => exact Or.inr ⟨by rfl, rfl⟩
    try simp only [Act.put, List.setIfInBounds_toArray, List.set_cons_zero, List.set_cons_succ]
    refine wpAnyH_take (i := 6) (oi := ?o6w3) (v := undef) ?hi6w3 (by kernel_rfl) (by kernel_rfl) (by kernel_rfl) (fun _ _ _ h => h) ?y6w3 (by assumption) ?r6w3
    case hi6w3 => (simp only [List.getElem?_toArray, List.getElem?_cons_succ, List.getElem?_cons_zero]; rfl)
    case y6w3 => exact Or.inr ⟨by rfl, rfl⟩
    try simp only [Act.put, List.setIfInBounds_toArray, List.set_cons_zero, List.set_cons_succ]
    refine wpAnyH_take (i := 7) (oi := ?o7w3) (v := ?v7w3) ?hi7w3 (by kernel_rfl) (by kernel_rfl) (by kernel_rfl) (fun _ _ _ h => h) ?y7w3 (by assumption) ?r7w3
    case hi7w3 => (simp only [List.getElem?_toArray, List.getElem?_cons_succ, List.getElem?_cons_zero]; rfl)
    case y7w3 => (refine Or.inl ⟨by rfl, ?_⟩; intro w' hSw; (try dsimp only at hSw); go_simp; (try with_reducible rfl))
    try simp only [Act.put, List.setIfInBounds_toArray, List.set_cons_zero, List.set_cons_succ]
    refine wpAnyH_take (i := 8) (oi := ?o8w3) (v := ?v8w3) ?hi8w3 (by kernel_rfl) (by kernel_rfl) (by kernel_rfl) (fun _ _ _ h => h) ?y8w3 (by assumption) ?r8w3
    case hi8w3 => (simp only [List.getElem?_toArray, List.getElem?_cons_succ, List.getElem?_cons_zero]; rfl)
    case y8w3 => (refine Or.inl ⟨by rfl, ?_⟩; intro w' hSw; (try dsimp only at hSw); go_simp; (try with_reducible rfl))
    try simp only [Act.put, List.setIfInBounds_toArray, List.set_cons_zero, List.set_cons_succ]
    refine wpAnyH_take (i := 9) (oi := ?o9w3) (v := ?v9w3) ?hi9w3 (by kernel_rfl) (by kernel_rfl) (by kernel_rfl) (fun _ _ _ h => h) ?y9w3 (by assumption) ?r9w3
    case hi9w3 => (simp only [List.getElem?_toArray, List.getElem?_cons_succ, List.getElem?_cons_zero]; rfl)
    case y9w3 => (refine Or.inl ⟨by rfl, ?_⟩; intro w' hSw; (try dsimp only at hSw); go_simp; (try with_reducible rfl))
    try simp only [Act.put, List.setIfInBounds_toArray, List.set_cons_zero, List.set_cons_succ]
    refine wpAnyH_take (i := 10) (oi := ?o10w3) (v := ?v10w3) ?hi10w3 (by kernel_rfl) (by kernel_rfl) (by kernel_rfl) (fun _ _ _ h => h) ?y10w3 (by assumption) ?r10w3
    case hi10w3 => (simp only [List.getElem?_toArray, List.getElem?_cons_succ, List.getElem?_cons_zero]; rfl)
    case y10w3 => (refine Or.inl ⟨by rfl, ?_⟩; intro w' hSw; (try dsimp only at hSw); go_simp; (try with_reducible rfl))
    try simp only [Act.put, List.setIfInBounds_toArray, List.set_cons_zero, List.set_cons_succ]
    refine wpAnyH_take (i := 11) (oi := ?o11w3) (v := ?v11w3) ?hi11w3 (by kernel_rfl) (by kernel_rfl) (by kernel_rfl) (fun _ _ _ h => h) ?y11w3 (by assumption) ?r11w3
    case hi11w3 => (simp only [List.getElem?_toArray, List.getElem?_cons_succ, List.getElem?_cons_zero]; rfl)
    case y11w3 => (refine Or.inl ⟨by rfl, ?_⟩; intro w' hSw; (try dsimp only at hSw); go_simp; (try with_reducible rfl))
    try simp only [Act.put, List.setIfInBounds_toArray, List.set_cons_zero, List.set_cons_succ]
    refine wpAnyH_take (i := 12) (oi := ?o12w3) (v := ?v12w3) ?hi12w3 (by kernel_rfl) (by kernel_rfl) (by kernel_rfl) (fun _ _ _ h => h) ?y12w3 (by assumption) ?r12w3
    case hi12w3 => (simp only [List.getElem?_toArray, List.getElem?_cons_succ, List.getElem?_cons_zero]; rfl)
    case y12w3 => (refine Or.inl ⟨by rfl, ?_⟩; intro w' hSw; (try dsimp only at hSw); go_simp; (try with_reducible rfl))
    try simp only [Act.put, List.setIfInBounds_toArray, List.set_cons_zero, List.set_cons_succ]
    refine wpAnyH_take (i := 13) (oi := ?o13w3) (v := ?v13w3) ?hi13w3 (by kernel_rfl) (by kernel_rfl) (by kernel_rfl) (fun _ _ _ h => h) ?y13w3 (by assumption) ?r13w3
    case hi13w3 => (simp only [List.getElem?_toArray, List.getElem?_cons_succ, List.getElem?_cons_zero]; rfl)
    case y13w3 => (refine Or.inl ⟨by rfl, ?_⟩; intro w' hSw; (try dsimp only at hSw); go_simp; (try with_reducible rfl))
    try simp only [Act.put, List.setIfInBounds_toArray, List.set_cons_zero, List.set_cons_succ]
    refine wpAnyH_ready (rs := [14]) (by kernel_rfl) (by simp) ?_
    refine AllReadyH.cons (o := ?o14w3) ?hi14w3 ?hst14w3 AllReadyH.nil
    case hi14w3 => (simp only [List.getElem?_toArray, List.getElem?_cons_succ, List.getElem?_cons_zero]; rfl)
    intro K hK
    go_simp
    (go_at_call 7; (with_reducible refine (HXY.out _).mono ?_); rintro e w2 ⟨rfl, hb2⟩)
    go_wp2_with fail
    refine hK.out _ _ ⟨Bx.keep_cell hb2 hHeld.1, Bx.keep_cell hb2 hHeld.2.1, Bx.keep_cell hb2 hHeld.2.2.1, Bx.keep_cell hb2 hHeld.2.2.2.1, Bx.keep_cell hb2 hHeld.2.2.2.2.1, Bx.keep_cell hb2 hHeld.2.2.2.2.2.1, Bx.keep_cell hb2 hHeld.2.2.2.2.2.2.1, Bx.keep_cell hb2 hHeld.2.2.2.2.2.2.2.1, Bx.keep_cell hb2 hHeld.2.2.2.2.2.2.2.2.1, Bx.keep_cell hb2 hHeld.2.2.2.2.2.2.2.2.2.1, Bx.keep_cell hb2 hHeld.2.2.2.2.2.2.2.2.2.2.1, Bx.keep_cell hb2 hHeld.2.2.2.2.2.2.2.2.2.2.2⟩ (fun hNew => ?_)
    clear hHeld
    have hHeld := hNew
    clear hNew hK K
    replace bel := Bx.then_below bel hb2
    clear hb2
    refine wpAnyH_take (i := 15) (oi := ?o15w3) (v := ?v15w3) ?hi15w3 (by kernel_rfl) (by kernel_rfl) (by kernel_rfl) (fun _ _ _ h => h) ?y15w3 (by assumption) ?r15w3
    case hi15w3 => (simp only [List.getElem?_toArray, List.getElem?_cons_succ, List.getElem?_cons_zero]; rfl)
    case y15w3 => (refine Or.inl ⟨by rfl, ?_⟩; intro w' hSw; (try dsimp only at hSw); go_simp; (try with_reducible rfl))
    try simp only [Act.put, List.setIfInBounds_toArray, List.set_cons_zero, List.set_cons_succ]
    refine wpAnyH_take (i := 16) (oi := ?o16w3) (v := ?v16w3) ?hi16w3 (by kernel_rfl) (by kernel_rfl) (by kernel_rfl) (fun _ _ _ h => h) ?y16w3 (by assumption) ?r16w3
    case hi16w3 => (simp only [List.getElem?_toArray, List.getElem?_cons_succ, List.getElem?_cons_zero]; rfl)
    case y16w3 => (refine Or.inl ⟨by rfl, ?_⟩; intro w' hSw; (try dsimp only at hSw); go_simp; (try with_reducible rfl))
    try simp only [Act.put, List.setIfInBounds_toArray, List.set_cons_zero, List.set_cons_succ]
    refine wpAnyH_take (i := 17) (oi := ?o17w3) (v := ?v17w3) ?hi17w3 (by kernel_rfl) (by kernel_rfl) (by kernel_rfl) (fun _ _ _ h => h) ?y17w3 (by assumption) ?r17w3
    case hi17w3 => (simp only [List.getElem?_toArray, List.getElem?_cons_succ, List.getElem?_cons_zero]; rfl)
    case y17w3 => (refine Or.inl ⟨by rfl, ?_⟩; intro w' hSw; (try dsimp only at hSw); go_simp; (try with_reducible rfl))
    try simp only [Act.put, List.setIfInBounds_toArray, List.set_cons_zero, List.set_cons_succ]
    refine wpAnyH_take (i := 18) (oi := ?o18w3) (v := ?v18w3) ?hi18w3 (by kernel_rfl) (by kernel_rfl) (by kernel_rfl) (fun _ _ _ h => h) ?y18w3 (by assumption) ?r18w3
    case hi18w3 => (simp only [List.getElem?_toArray, List.getElem?_cons_succ, List.getElem?_cons_zero]; rfl)
    case y18w3 => (refine Or.inl ⟨by rfl, ?_⟩; intro w' hSw; (try dsimp only at hSw); go_simp; (try with_reducible rfl))
    try simp only [Act.put, List.setIfInBounds_toArray, List.set_cons_zero, List.set_cons_succ]
    refine wpAnyH_ready (rs := [19]) (by kernel_rfl) (by simp) ?_
    refine AllReadyH.cons (o := ?o19w3) ?hi19w3 ?hst19w3 AllReadyH.nil
    case hi19w3 => (simp only [List.getElem?_toArray, List.getElem?_cons_succ, List.getElem?_cons_zero]; rfl)
    intro K hK
    go_simp
    (go_at_call 7; (with_reducible refine (HYX.out _).mono ?_); rintro e w3 ⟨rfl, hb3⟩)
    go_wp2_with fail
    refine hK.out _ _ ⟨Bx.keep_cell hb3 hHeld.1, Bx.keep_cell hb3 hHeld.2.1, Bx.keep_cell hb3 hHeld.2.2.1, Bx.keep_cell hb3 hHeld.2.2.2.1, Bx.keep_cell hb3 hHeld.2.2.2.2.1, Bx.keep_cell hb3 hHeld.2.2.2.2.2.1, Bx.keep_cell hb3 hHeld.2.2.2.2.2.2.1, Bx.keep_cell hb3 hHeld.2.2.2.2.2.2.2.1, Bx.keep_cell hb3 hHeld.2.2.2.2.2.2.2.2.1, Bx.keep_cell hb3 hHeld.2.2.2.2.2.2.2.2.2.1, Bx.keep_cell hb3 hHeld.2.2.2.2.2.2.2.2.2.2.1, Bx.keep_cell hb3 hHeld.2.2.2.2.2.2.2.2.2.2.2⟩ (fun hNew => ?_)
    clear hHeld
    have hHeld := hNew
    clear hNew hK K
    replace bel := Bx.then_below bel hb3
    clear hb3
    refine wpAnyH_take (i := 20) (oi := ?o20w3) (v := ?v20w3) ?hi20w3 (by kernel_rfl) (by kernel_rfl) (by kernel_rfl) (fun _ _ _ h => h) ?y20w3 (by assumption) ?r20w3
    case hi20w3 => (simp only [List.getElem?_toArray, List.getElem?_cons_succ, List.getElem?_cons_zero]; rfl)
    case y20w3 => (refine Or.inl ⟨by rfl, ?_⟩; intro w' hSw; (try dsimp only at hSw); go_simp; (try with_reducible rfl))
    try simp only [Act.put, List.setIfInBounds_toArray, List.set_cons_zero, List.set_cons_succ]
    refine wpAnyH_take (i := 21) (oi := ?o21w3) (v := ?v21w3) ?hi21w3 (by kernel_rfl) (by kernel_rfl) (by kernel_rfl) (fun _ _ _ h => h) ?y21w3 (by assumption) ?r21w3
    case hi21w3 => (simp only [List.getElem?_toArray, List.getElem?_cons_succ, List.getElem?_cons_zero]; rfl)
    case y21w3 => (refine Or.inl ⟨by rfl, ?_⟩; intro w' hSw; (try dsimp only at hSw); go_simp; (try with_reducible rfl))
    try simp only [Act.put, List.setIfInBounds_toArray, List.set_cons_zero, List.set_cons_succ]
    refine wpAnyH_take (i := 22) (oi := ?o22w3) (v := ?v22w3) ?hi22w3 (by kernel_rfl) (by kernel_rfl) (by kernel_rfl) (fun _ _ _ h => h) ?y22w3 (by assumption) ?r22w3
    case hi22w3 => (simp only [List.getElem?_toArray, List.getElem?_cons_succ, List.getElem?_cons_zero]; rfl)
    case y22w3 => (refine Or.inl ⟨by rfl, ?_⟩; intro w' hSw; (try dsimp only at hSw); go_simp; (try with_reducible rfl))
    try simp only [Act.put, List.setIfInBounds_toArray, List.set_cons_zero, List.set_cons_succ]
    refine wpAnyH_take (i := 23) (oi := ?o23w3) (v := ?v23w3) ?hi23w3 (by kernel_rfl) (by kernel_rfl) (by kernel_rfl) (fun _ _ _ h => h) ?y23w3 (by assumption) ?r23w3
    case hi23w3 => (simp only [List.getElem?_toArray, List.getElem?_cons_succ, List.getElem?_cons_zero]; rfl)
    case y23w3 => (refine Or.inl ⟨by rfl, ?_⟩; intro w' hSw; (try dsimp only at hSw); go_simp; (try with_reducible rfl))
    try simp only [Act.put, List.setIfInBounds_toArray, List.set_cons_zero, List.set_cons_succ]
    refine wpAnyH_take (i := 24) (oi := ?o24w3) (v := ?v24w3) ?hi24w3 (by kernel_rfl) (by kernel_rfl) (by kernel_rfl) (fun _ _ _ h => h) ?y24w3 (by assumption) ?r24w3
    case hi24w3 => (simp only [List.getElem?_toArray, List.getElem?_cons_succ, List.getElem?_cons_zero]; rfl)
    case y24w3 => (refine Or.inl ⟨by rfl, ?_⟩; intro w' hSw; (try dsimp only at hSw); go_simp; (try with_reducible rfl))
    try simp only [Act.put, List.setIfInBounds_toArray, List.set_cons_zero, List.set_cons_succ]
    refine wpAnyH_take (i := 25) (oi := ?o25w3) (v := ?v25w3) ?hi25w3 (by kernel_rfl) (by kernel_rfl) (by kernel_rfl) (fun _ _ _ h => h) ?y25w3 (by assumption) ?r25w3
    case hi25w3 => (simp only [List.getElem?_toArray, List.getElem?_cons_succ, List.getElem?_cons_zero]; rfl)
    case y25w3 => (refine Or.inl ⟨by rfl, ?_⟩; intro w' hSw; (try dsimp only at hSw); go_simp; (try with_reducible rfl))
    try simp only [Act.put, List.setIfInBounds_toArray, List.set_cons_zero, List.set_cons_succ]
    refine wpAnyH_take (i := 26) (oi := ?o26w3) (v := ?v26w3) ?hi26w3 (by kernel_rfl) (by kernel_rfl) (by kernel_rfl) (fun _ _ _ h => h) ?y26w3 (by assumption) ?r26w3
    case hi26w3 => (simp only [List.getElem?_toArray, List.getElem?_cons_succ, List.getElem?_cons_zero]; rfl)
    case y26w3 => (refine Or.inl ⟨by rfl, ?_⟩; intro w' hSw; (try dsimp only at hSw); go_simp; (try with_reducible rfl))
    try simp only [Act.put, List.setIfInBounds_toArray, List.set_cons_zero, List.set_cons_succ]
    refine wpAnyH_ready (rs := [27]) (by kernel_rfl) (by simp) ?_
    refine AllReadyH.cons (o := ?o27w3) ?hi27w3 ?hst27w3 AllReadyH.nil
    case hi27w3 => (simp only [List.getElem?_toArray, List.getElem?_cons_succ, List.getElem?_cons_zero]; rfl)
    intro K hK
    go_simp
    (go_at_call 7; (with_reducible refine (HXY.out _).mono ?_); rintro e w4 ⟨rfl, hb4⟩)
    go_wp2_with fail
    refine hK.out _ _ ⟨Bx.keep_cell hb4 hHeld.1, Bx.keep_cell hb4 hHeld.2.1, Bx.keep_cell hb4 hHeld.2.2.1, Bx.keep_cell hb4 hHeld.2.2.2.1, Bx.keep_cell hb4 hHeld.2.2.2.2.1, Bx.keep_cell hb4 hHeld.2.2.2.2.2.1, Bx.keep_cell hb4 hHeld.2.2.2.2.2.2.1, Bx.keep_cell hb4 hHeld.2.2.2.2.2.2.2.1, Bx.keep_cell hb4 hHeld.2.2.2.2.2.2.2.2.1, Bx.keep_cell hb4 hHeld.2.2.2.2.2.2.2.2.2.1, Bx.keep_cell hb4 hHeld.2.2.2.2.2.2.2.2.2.2.1, Bx.keep_cell hb4 hHeld.2.2.2.2.2.2.2.2.2.2.2⟩ (fun hNew => ?_)
    clear hHeld
    have hHeld := hNew
    clear hNew hK K
    replace bel := Bx.then_below bel hb4
    clear hb4
    refine wpAnyH_take (i := 28) (oi := ?o28w3) (v := ?v28w3) ?hi28w3 (by kernel_rfl) (by kernel_rfl) (by kernel_rfl) (fun _ _ _ h => h) ?y28w3 (by assumption) ?r28w3
    case hi28w3 => (simp only [List.getElem?_toArray, List.getElem?_cons_succ, List.getElem?_cons_zero]; rfl)
    case y28w3 => (refine Or.inl ⟨by rfl, ?_⟩; intro w' hSw; (try dsimp only at hSw); go_simp; (try with_reducible rfl))
    try simp only [Act.put, List.setIfInBounds_toArray, List.set_cons_zero, List.set_cons_succ]
    refine wpAnyH_take (i := 29) (oi := ?o29w3) (v := undef) ?hi29w3 (by kernel_rfl) (by kernel_rfl) (by kernel_rfl) (fun _ _ _ h => h) ?y29w3 (by assumption) ?r29w3
    case hi29w3 => (simp only [List.getElem?_toArray, List.getElem?_cons_succ, List.getElem?_cons_zero]; rfl)
    case y29w3 => exact Or.inr ⟨by rfl, rfl⟩
    try simp only [Act.put, List.setIfInBounds_toArray, List.set_cons_zero, List.set_cons_succ]
    refine wpAnyH_take (i := 30) (oi := ?o30w3) (v := undef) ?hi30w3 (by kernel_rfl) (by kernel_rfl) (by kernel_rfl) (fun _ _ _ h => h) ?y30w3 (by assumption) ?r30w3
    case hi30w3 => (simp only [List.getElem?_toArray, List.getElem?_cons_succ, List.getElem?_cons_zero]; rfl)
    case y30w3 => exact Or.inr ⟨by rfl, rfl⟩
    try simp only [Act.put, List.setIfInBounds_toArray, List.set_cons_zero, List.set_cons_succ]
    refine wpAnyH_take (i := 31) (oi := ?o31w3) (v := undef) ?hi31w3 (by kernel_rfl) (by kernel_rfl) (by kernel_rfl) (fun _ _ _ h => h) ?y31w3 (by assumption) ?r31w3
    case hi31w3 => (simp only [List.getElem?_toArray, List.getElem?_cons_succ, List.getElem?_cons_zero]; rfl)
    case y31w3 => exact Or.inr ⟨by rfl, rfl⟩
    try simp only [Act.put, List.setIfInBounds_toArray, List.set_cons_zero, List.set_cons_succ]
    refine wpAnyH_take (i := 32) (oi := ?o32w3) (v := ?v32w3) ?hi32w3 (by kernel_rfl) (by kernel_rfl) (by kernel_rfl) (fun _ _ _ h => h) ?y32w3 (by assumption) ?r32w3
    case hi32w3 => (simp only [List.getElem?_toArray, List.getElem?_cons_succ, List.getElem?_cons_zero]; rfl)
    case y32w3 => (refine Or.inl ⟨by rfl, ?_⟩; intro w' hSw; (try dsimp only at hSw); go_simp; (try with_reducible rfl))
    try simp only [Act.put, List.setIfInBounds_toArray, List.set_cons_zero, List.set_cons_succ]
    refine wpAnyH_take (i := 33) (oi := ?o33w3) (v := ?v33w3) ?hi33w3 (by kernel_rfl) (by kernel_rfl) (by kernel_rfl) (fun _ _ _ h => h) ?y33w3 (by assumption) ?r33w3
    case hi33w3 => (simp only [List.getElem?_toArray, List.getElem?_cons_succ, List.getElem?_cons_zero]; rfl)
    case y33w3 => (refine Or.inl ⟨by rfl, ?_⟩; intro w' hSw; (try dsimp only at hSw); go_simp; (try with_reducible rfl))
    try simp only [Act.put, List.setIfInBounds_toArray, List.set_cons_zero, List.set_cons_succ]
    refine wpAnyH_take (i := 34) (oi := ?o34w3) (v := undef) ?hi34w3 (by kernel_rfl) (by kernel_rfl) (by kernel_rfl) (fun _ _ _ h => h) ?y34w3 (by assumption) ?r34w3
    case hi34w3 => (simp only [List.getElem?_toArray, List.getElem?_cons_succ, List.getElem?_cons_zero]; rfl)
    case y34w3 => exact Or.inr ⟨by rfl, rfl⟩
    try simp only [Act.put, List.setIfInBounds_toArray, List.set_cons_zero, List.set_cons_succ]
    refine wpAnyH_take (i := 35) (oi := ?o35w3) (v := undef) ?hi35w3 (by kernel_rfl) (by kernel_rfl) (by kernel_rfl) (fun _ _ _ h => h) ?y35w3 (by assumption) ?r35w3
    case hi35w3 => (simp only [List.getElem?_toArray, List.getElem?_cons_succ, List.getElem?_cons_zero]; rfl)
    case y35w3 => exact Or.inr ⟨by rfl, rfl⟩
    try simp only [Act.put, List.setIfInBounds_toArray, List.set_cons_zero, List.set_cons_succ]
    refine wpAnyH_take (i := 36) (oi := ?o36w3) (v := undef) ?hi36w3 (by kernel_rfl) (by kernel_rfl) (by kernel_rfl) (fun _ _ _ h => h) ?y36w3 (by assumption) ?r36w3
    case hi36w3 => (simp only [List.getElem?_toArray, List.getElem?_cons_succ, List.getElem?_cons_zero]; rfl)
    case y36w3 => exact Or.inr ⟨by rfl, rfl⟩
    try simp only [Act.put, List.setIfInBounds_toArray, List.set_cons_zero, List.set_cons_succ]
    refine wpAnyH_take (i := 37) (oi := ?o37w3) (v := undef) ?hi37w3 (by kernel_rfl) (by kernel_rfl) (by kernel_rfl) (fun _ _ _ h => h) ?y37w3 (by assumption) ?r37w3
    case hi37w3 => (simp only [List.getElem?_toArray, List.getElem?_cons_succ, List.getElem?_cons_zero]; rfl)
    case y37w3 => exact Or.inr ⟨by rfl, rfl⟩
    try simp only [Act.put, List.setIfInBounds_toArray, List.set_cons_zero, List.set_cons_succ]
    refine wpAnyH_take (i := 38) (oi := ?o38w3) (v := ?v38w3) ?hi38w3 (by kernel_rfl) (by kernel_rfl) (by kernel_rfl) (fun _ _ _ h => h) ?y38w3 (by assumption) ?r38w3
    case hi38w3 => (simp only [List.getElem?_toArray, List.getElem?_cons_succ, List.getElem?_cons_zero]; rfl)
    case y38w3 => (refine Or.inl ⟨by rfl, ?_⟩; intro w' hSw; (try dsimp only at hSw); go_simp; (try with_reducible rfl))
    try simp only [Act.put, List.setIfInBounds_toArray, List.set_cons_zero, List.set_cons_succ]
    refine wpAnyH_take (i := 39) (oi := ?o39w3) (v := ?v39w3) ?hi39w3 (by kernel_rfl) (by kernel_rfl) (by kernel_rfl) (fun _ _ _ h => h) ?y39w3 (by assumption) ?r39w3
    case hi39w3 => (simp only [List.getElem?_toArray, List.getElem?_cons_succ, List.getElem?_cons_zero]; rfl)
    case y39w3 => (refine Or.inl ⟨by rfl, ?_⟩; intro w' hSw; (try dsimp only at hSw); go_simp; (try with_reducible rfl))
    try simp only [Act.put, List.setIfInBounds_toArray, List.set_cons_zero, List.set_cons_succ]
    refine wpAnyH_done (by kernel_rfl) ?_ _
    refine NoPanic.normal ?_
    clear a0 a1 a2 a3 b0 b1 b2 b3 c0 c1 c2 c3 X0 Y0 Z0 heq hgd HXY HYX
    obtain ⟨a0, a1, a2, a3, b0, b1, b2, b3, c0, c1, c2, c3⟩ := hHeld
    go_wp2_with fail
    have HV := Lib.hid (HVS.out _ _ (Bx.Blk.new w4 [.int .u64 m1, .int .u64 m2, .int .u64 m3, .int .i64 m4, .int .u64 n1, .int .u64 n2, .int .u64 n3, .int .i64 n4, .int .u64 q1, .int .u64 q2, .int .u64 q3, .int .i64 q4] 24))
    replace bel := Bx.bel_box bel (.cells #[.int .u64 m1, .int .u64 m2, .int .u64 m3, .int .i64 m4, .int .u64 n1, .int .u64 n2, .int .u64 n3, .int .i64 n4, .int .u64 q1, .int .u64 q2, .int .u64 q3, .int .i64 q4] 24)
    refine (HL.out _ _ HV.out).mono ?_; rintro e wa ⟨⟨at_, rfl, hat⟩, hb⟩
    replace bel := Bx.then_below bel hb
    replace HV := Lib.hid (HV.out.below hb)
    clear hb a0 a1 a2 a3 b0 b1 b2 b3 c0 c1 c2 c3
    obtain ⟨k, rfl, hk3, HK⟩ := at_three hat
    clear hat
    have l1 : ¬ ((k : Int) < 0) := by omega
    have l2 : ¬ ((2 : Int) < (k : Int)) := by omega
    have l3 : (0 : Int) ≤ (k : Int) := by omega
    have l4 : (k : Int) < 3 := by omega
    obtain ⟨L, hL⟩ : ∃ L : List Vc, L = [⟨m1, m2, m3, m4⟩, ⟨n1, n2, n3, n4⟩, ⟨q1, q2, q3, q4⟩] := ⟨_, rfl⟩
    rw [← hL] at HV HLen HK
    clear hL HL HVS
    have B0 := Lib.hid bel
    clear bel
    obtain ⟨AD, hAD⟩ : ∃ AD, AD = (⟨w4.heap.size, 0, none⟩ : Addr) := ⟨_, rfl⟩
    rw [← hAD]
    rw [← hAD] at HV
    clear hAD
    go_wp2
    go_loopw [10, 65] (fun _ ix wr => ∃ i : Nat, i ≤ 3 ∧ ix = .int .i64 i ∧ Aside (Vs wr (some AD) L) ∧ Aside (Below w.heap.size w wr)) (fun _ ix _ => 3 - (intOf ix).toNat)
    case atStart => exact ⟨0, Nat.zero_le _, rfl, HV.out, B0.out⟩
    case round =>
      obtain ⟨i, hi, rfl, HA, HB⟩ := hrel
      by_cases hlt : i < 3
      · have hil : i < L.length := by rw [HLen.out]; exact hlt
        have hkl : k < L.length := by rw [HLen.out]; exact hk3
        obtain ⟨b, p, e1, hbl, d0, d1, d2, d3⟩ := HA.out.at hil
        cases e1
        have BX := Lib.hid (Bx.bel_box HB.out (vo L[i]))
        have MX := Lib.hid (Bx.Blk.new wr (enc L[i]) 24)
        have A2 := Lib.hid (HA.out.below (Bx.box_below wr (vo L[i])))
        obtain ⟨b', p', e2, _, f0, f1, f2, f3⟩ := A2.out.at hkl
        injection e2 with e2
        injection e2 with e2 e3
        subst e2 e3
        have HC := Lib.hid (fun W => HBT.out L[i] L[k] W)
        rw [HK.out i hil hkl] at HC
        generalize L[i] = s at *
        generalize L[k] = t at *
        obtain ⟨s1, s2, s3, s4⟩ := s
        obtain ⟨t1, t2, t3, t4⟩ := t
        simp only at d0 d1 d2 d3 f0 f1 f2 f3
        obtain ⟨j0, j1, j2, j3⟩ := MX.out.all4
        go_wp2_with fail
        go_region_held3 (fun w' => (w'.cell? ⟨b, p + k * 4, none⟩ = some (.int .u64 t1) ∧ w'.cell? ⟨b, p + k * 4 + 1, none⟩ = some (.int .u64 t2) ∧ w'.cell? ⟨b, p + k * 4 + 2, none⟩ = some (.int .u64 t3) ∧ w'.cell? ⟨b, p + k * 4 + 3, none⟩ = some (.int .i64 t4)) ∧ (w'.cell? ⟨wr.heap.size, 0, none⟩ = some (.int .u64 s1) ∧ w'.cell? ⟨wr.heap.size, 1, none⟩ = some (.int .u64 s2) ∧ w'.cell? ⟨wr.heap.size, 2, none⟩ = some (.int .u64 s3) ∧ w'.cell? ⟨wr.heap.size, 3, none⟩ = some (.int .i64 s4)))
          (first | go_keep | (go_split_ands; exact ⟨⟨Bx.keep_cell (by assumption) (by assumption), Bx.keep_cell (by assumption) (by assumption), Bx.keep_cell (by assumption) (by assumption), Bx.keep_cell (by assumption) (by assumption)⟩, Bx.keep_cell (by assumption) (by assumption), Bx.keep_cell (by assumption) (by assumption), Bx.keep_cell (by assumption) (by assumption), Bx.keep_cell (by assumption) (by assumption)⟩))
          (first | (go_at_call 7; with_reducible refine (HC.out _).mono ?_; rintro e w1 ⟨rfl, hb1⟩))
        have B2 := Lib.hid (BX.out.drew.trans (hb1.mono BX.out.size))
        have A3 := Lib.hid (A2.out.below (show Below (wr.alloc (vo ⟨s1, s2, s3, s4⟩)).heap.size (wr.alloc (vo ⟨s1, s2, s3, s4⟩)) w1 from (Below.refl _ _).drew.trans hb1))
        clear hb1
        go_wp2
        go_roundw
        case rel => exact ⟨i + 1, by omega, by go_num, A3.out, B2.out⟩
        case measure => simp [intOf]; omega
      · have B1 := HB
        go_wp2_with fail
        refine (HAW.out _).mono ?_; rintro e w1 ⟨rfl, hb⟩
        have B2 := Lib.hid (Bx.then_below B1.out hb)
        clear hb
        go_wp2
        go_ret
        exact ⟨rfl, B2.out⟩
  · have heq : ∀ w, (binOp .eql 24 (.agg #[.int .u64 m1, .int .u64 m2, .int .u64 m3, .int .i64 m4]) (.agg #[.int .u64 n1, .int .u64 n2, .int .u64 n3, .int .i64 n4])).run Try.prog w = .ok (.bool true) w := fun w => by rw [eql_at, decide_eq_true g3]
    have HXY : Hid (∀ W, Calls Try.prog 7 #[.agg #[.int .u64 m1, .int .u64 m2, .int .u64 m3, .int .i64 m4], .agg #[.int .u64 n1, .int .u64 n2, .int .u64 n3, .int .i64 n4]] W fun e w' => e = .returned (.bool false) ∧ Below W.heap.size W w') := Lib.hid (fun W => by have h := better_any ⟨m1, m2, m3, m4⟩ ⟨n1, n2, n3, n4⟩ W; rw [g1] at h; exact h)
    have HYX : Hid (∀ W, Calls Try.prog 7 #[.agg #[.int .u64 n1, .int .u64 n2, .int .u64 n3, .int .i64 n4], .agg #[.int .u64 m1, .int .u64 m2, .int .u64 m3, .int .i64 m4]] W fun e w' => e = .returned (.bool false) ∧ Below W.heap.size W w') := Lib.hid (fun W => by have h := better_any ⟨n1, n2, n3, n4⟩ ⟨m1, m2, m3, m4⟩ W; rw [g2] at h; exact h)
    clear g1 g2 g3
    go_enter Try.func4, Try.ntmps4
    go_wp2
    generalize ((w.alloc (.cells #[.int .u64 m1, .int .u64 m2, .int .u64 m3, .int .i64 m4] 24)).alloc (.cells #[.int .u64 n1, .int .u64 n2, .int .u64 n3, .int .i64 n4] 24)).alloc (.cells #[.int .u64 q1, .int .u64 q2, .int .u64 q3, .int .i64 q4] 24) = W0 at *
    replace bel := bel.out
    obtain ⟨a0, a1, a2, a3⟩ := X0.out.all4
    obtain ⟨b0, b1, b2, b3⟩ := Y0.out.all4
    obtain ⟨c0, c1, c2, c3⟩ := Z0.out.all4
    refine wp_region_noPanic ?_
    refine wp_region_held_drew (S := fun w' => w'.cell? ⟨w.heap.size, 0, none⟩ = some (.int .u64 m1) ∧ w'.cell? ⟨w.heap.size, 1, none⟩ = some (.int .u64 m2) ∧ w'.cell? ⟨w.heap.size, 2, none⟩ = some (.int .u64 m3) ∧ w'.cell? ⟨w.heap.size, 3, none⟩ = some (.int .i64 m4) ∧ w'.cell? ⟨w.heap.size + 1, 0, none⟩ = some (.int .u64 n1) ∧ w'.cell? ⟨w.heap.size + 1, 1, none⟩ = some (.int .u64 n2) ∧ w'.cell? ⟨w.heap.size + 1, 2, none⟩ = some (.int .u64 n3) ∧ w'.cell? ⟨w.heap.size + 1, 3, none⟩ = some (.int .i64 n4) ∧ w'.cell? ⟨w.heap.size + 1 + 1, 0, none⟩ = some (.int .u64 q1) ∧ w'.cell? ⟨w.heap.size + 1 + 1, 1, none⟩ = some (.int .u64 q2) ∧ w'.cell? ⟨w.heap.size + 1 + 1, 2, none⟩ = some (.int .u64 q3) ∧ w'.cell? ⟨w.heap.size + 1 + 1, 3, none⟩ = some (.int .i64 q4)) (by kernel_rfl) (by exact ⟨a0, a1, a2, a3, b0, b1, b2, b3, c0, c1, c2, c3⟩) (fun hHeld => ?_)
    replace bel := Bx.bel_drewn bel
    refine wpAnyH_take (i := 0) (oi := ?o0w4) (v := ?v0w4) ?hi0w4 (by kernel_rfl) (by kernel_rfl) (by kernel_rfl) (fun _ _ _ h => h) ?y0w4 (by assumption) ?r0w4
    case hi0w4 => (simp only [List.getElem?_toArray, List.getElem?_cons_zero]; rfl)
    case y0w4 => (refine Or.inl ⟨by rfl, ?_⟩; intro w' hSw; (try dsimp only at hSw); go_simp; (try with_reducible rfl))
    try simp only [Act.put, List.setIfInBounds_toArray, List.set_cons_zero, List.set_cons_succ]
    refine wpAnyH_take (i := 1) (oi := ?o1w4) (v := ?v1w4) ?hi1w4 (by kernel_rfl) (by kernel_rfl) (by kernel_rfl) (fun _ _ _ h => h) ?y1w4 (by assumption) ?r1w4
    case hi1w4 => (simp only [List.getElem?_toArray, List.getElem?_cons_succ, List.getElem?_cons_zero]; rfl)
    case y1w4 => (refine Or.inl ⟨by rfl, ?_⟩; intro w' hSw; (try dsimp only at hSw); go_simp; (try with_reducible rfl))
    try simp only [Act.put, List.setIfInBounds_toArray, List.set_cons_zero, List.set_cons_succ]
    refine wpAnyH_ready (rs := [2]) (by kernel_rfl) (by simp) ?_
    refine AllReadyH.cons (o := ?o2w4) ?hi2w4 ?hst2w4 AllReadyH.nil
    case hi2w4 => (simp only [List.getElem?_toArray, List.getElem?_cons_succ, List.getElem?_cons_zero]; rfl)
    intro K hK
    go_simp
    (go_at_call 7; (with_reducible refine (HXY.out _).mono ?_); rintro e w1 ⟨rfl, hb1⟩)
    go_wp2_with fail
    refine hK.out _ _ ⟨Bx.keep_cell hb1 hHeld.1, Bx.keep_cell hb1 hHeld.2.1, Bx.keep_cell hb1 hHeld.2.2.1, Bx.keep_cell hb1 hHeld.2.2.2.1, Bx.keep_cell hb1 hHeld.2.2.2.2.1, Bx.keep_cell hb1 hHeld.2.2.2.2.2.1, Bx.keep_cell hb1 hHeld.2.2.2.2.2.2.1, Bx.keep_cell hb1 hHeld.2.2.2.2.2.2.2.1, Bx.keep_cell hb1 hHeld.2.2.2.2.2.2.2.2.1, Bx.keep_cell hb1 hHeld.2.2.2.2.2.2.2.2.2.1, Bx.keep_cell hb1 hHeld.2.2.2.2.2.2.2.2.2.2.1, Bx.keep_cell hb1 hHeld.2.2.2.2.2.2.2.2.2.2.2⟩ (fun hNew => ?_)
    clear hHeld
    have hHeld := hNew
    clear hNew hK K
    replace bel := Bx.then_below bel hb1
    clear hb1
    refine wpAnyH_take (i := 3) (oi := ?o3w4) (v := ?v3w4) ?hi3w4 (by kernel_rfl) (by kernel_rfl) (by kernel_rfl) (fun _ _ _ h => h) ?y3w4 (by assumption) ?r3w4
    case hi3w4 => (simp only [List.getElem?_toArray, List.getElem?_cons_succ, List.getElem?_cons_zero]; rfl)
    case y3w4 => (refine Or.inl ⟨by rfl, ?_⟩; intro w' hSw; (try dsimp only at hSw); go_simp; (try with_reducible rfl))
    try simp only [Act.put, List.setIfInBounds_toArray, List.set_cons_zero, List.set_cons_succ]
    refine wpAnyH_take (i := 4) (oi := ?o4w4) (v := undef) ?hi4w4 (by kernel_rfl) (by kernel_rfl) (by kernel_rfl) (fun _ _ _ h => h) ?y4w4 (by assumption) ?r4w4
    case hi4w4 => (simp only [List.getElem?_toArray, List.getElem?_cons_succ, List.getElem?_cons_zero]; rfl)
    case y4w4 => exact Or.inr ⟨by rfl, rfl⟩
    try simp only [Act.put, List.setIfInBounds_toArray, List.set_cons_zero, List.set_cons_succ]
    refine wpAnyH_take (i := 5) (oi := ?o5w4) (v := undef) ?hi5w4 (by kernel_rfl) (by kernel_rfl) (by kernel_rfl) (fun _ _ _ h => h) ?y5w4 (by assumption) ?r5w4
    case hi5w4 => (simp only [List.getElem?_toArray, List.getElem?_cons_succ, List.getElem?_cons_zero]; rfl)
    case y5w4 => exact Or.inr ⟨by rfl, rfl⟩
    try simp only [Act.put, List.setIfInBounds_toArray, List.set_cons_zero, List.set_cons_succ]
    refine wpAnyH_take (i := 6) (oi := ?o6w4) (v := undef) ?hi6w4 (by kernel_rfl) (by kernel_rfl) (by kernel_rfl) (fun _ _ _ h => h) ?y6w4 (by assumption) ?r6w4
    case hi6w4 => (simp only [List.getElem?_toArray, List.getElem?_cons_succ, List.getElem?_cons_zero]; rfl)
    case y6w4 => exact Or.inr ⟨by rfl, rfl⟩
    try simp only [Act.put, List.setIfInBounds_toArray, List.set_cons_zero, List.set_cons_succ]
    refine wpAnyH_take (i := 7) (oi := ?o7w4) (v := ?v7w4) ?hi7w4 (by kernel_rfl) (by kernel_rfl) (by kernel_rfl) (fun _ _ _ h => h) ?y7w4 (by assumption) ?r7w4
    case hi7w4 => (simp only [List.getElem?_toArray, List.getElem?_cons_succ, List.getElem?_cons_zero]; rfl)
    case y7w4 => (refine Or.inl ⟨by rfl, ?_⟩; intro w' hSw; (try dsimp only at hSw); go_simp; (try with_reducible rfl))
    try simp only [Act.put, List.setIfInBounds_toArray, List.set_cons_zero, List.set_cons_succ]
    refine wpAnyH_take (i := 8) (oi := ?o8w4) (v := ?v8w4) ?hi8w4 (by kernel_rfl) (by kernel_rfl) (by kernel_rfl) (fun _ _ _ h => h) ?y8w4 (by assumption) ?r8w4
    case hi8w4 => (simp only [List.getElem?_toArray, List.getElem?_cons_succ, List.getElem?_cons_zero]; rfl)
    case y8w4 => (refine Or.inl ⟨by rfl, ?_⟩; intro w' hSw; (try dsimp only at hSw); go_simp; (try with_reducible rfl))
    try simp only [Act.put, List.setIfInBounds_toArray, List.set_cons_zero, List.set_cons_succ]
    refine wpAnyH_take (i := 9) (oi := ?o9w4) (v := ?v9w4) ?hi9w4 (by kernel_rfl) (by kernel_rfl) (by kernel_rfl) (fun _ _ _ h => h) ?y9w4 (by assumption) ?r9w4
    case hi9w4 => (simp only [List.getElem?_toArray, List.getElem?_cons_succ, List.getElem?_cons_zero]; rfl)
    case y9w4 => (refine Or.inl ⟨by rfl, ?_⟩; intro w' hSw; (try dsimp only at hSw); go_simp; (try with_reducible rfl))
    try simp only [Act.put, List.setIfInBounds_toArray, List.set_cons_zero, List.set_cons_succ]
    refine wpAnyH_take (i := 10) (oi := ?o10w4) (v := ?v10w4) ?hi10w4 (by kernel_rfl) (by kernel_rfl) (by kernel_rfl) (fun _ _ _ h => h) ?y10w4 (by assumption) ?r10w4
    case hi10w4 => (simp only [List.getElem?_toArray, List.getElem?_cons_succ, List.getElem?_cons_zero]; rfl)
    case y10w4 => (refine Or.inl ⟨by rfl, ?_⟩; intro w' hSw; (try dsimp only at hSw); go_simp; (try with_reducible rfl))
    try simp only [Act.put, List.setIfInBounds_toArray, List.set_cons_zero, List.set_cons_succ]
    refine wpAnyH_take (i := 11) (oi := ?o11w4) (v := ?v11w4) ?hi11w4 (by kernel_rfl) (by kernel_rfl) (by kernel_rfl) (fun _ _ _ h => h) ?y11w4 (by assumption) ?r11w4
    case hi11w4 => (simp only [List.getElem?_toArray, List.getElem?_cons_succ, List.getElem?_cons_zero]; rfl)
    case y11w4 => (refine Or.inl ⟨by rfl, ?_⟩; intro w' hSw; (try dsimp only at hSw); go_simp; (try with_reducible rfl))
    try simp only [Act.put, List.setIfInBounds_toArray, List.set_cons_zero, List.set_cons_succ]
    refine wpAnyH_take (i := 12) (oi := ?o12w4) (v := ?v12w4) ?hi12w4 (by kernel_rfl) (by kernel_rfl) (by kernel_rfl) (fun _ _ _ h => h) ?y12w4 (by assumption) ?r12w4
    case hi12w4 => (simp only [List.getElem?_toArray, List.getElem?_cons_succ, List.getElem?_cons_zero]; rfl)
    case y12w4 => (refine Or.inl ⟨by rfl, ?_⟩; intro w' hSw; (try dsimp only at hSw); go_simp; (try with_reducible rfl))
    try simp only [Act.put, List.setIfInBounds_toArray, List.set_cons_zero, List.set_cons_succ]
    refine wpAnyH_take (i := 13) (oi := ?o13w4) (v := ?v13w4) ?hi13w4 (by kernel_rfl) (by kernel_rfl) (by kernel_rfl) (fun _ _ _ h => h) ?y13w4 (by assumption) ?r13w4
    case hi13w4 => (simp only [List.getElem?_toArray, List.getElem?_cons_succ, List.getElem?_cons_zero]; rfl)
    case y13w4 => (refine Or.inl ⟨by rfl, ?_⟩; intro w' hSw; (try dsimp only at hSw); go_simp; (try with_reducible rfl))
    try simp only [Act.put, List.setIfInBounds_toArray, List.set_cons_zero, List.set_cons_succ]
    refine wpAnyH_ready (rs := [14]) (by kernel_rfl) (by simp) ?_
    refine AllReadyH.cons (o := ?o14w4) ?hi14w4 ?hst14w4 AllReadyH.nil
    case hi14w4 => (simp only [List.getElem?_toArray, List.getElem?_cons_succ, List.getElem?_cons_zero]; rfl)
    intro K hK
    go_simp
    (go_at_call 7; (with_reducible refine (HXY.out _).mono ?_); rintro e w2 ⟨rfl, hb2⟩)
    go_wp2_with fail
    refine hK.out _ _ ⟨Bx.keep_cell hb2 hHeld.1, Bx.keep_cell hb2 hHeld.2.1, Bx.keep_cell hb2 hHeld.2.2.1, Bx.keep_cell hb2 hHeld.2.2.2.1, Bx.keep_cell hb2 hHeld.2.2.2.2.1, Bx.keep_cell hb2 hHeld.2.2.2.2.2.1, Bx.keep_cell hb2 hHeld.2.2.2.2.2.2.1, Bx.keep_cell hb2 hHeld.2.2.2.2.2.2.2.1, Bx.keep_cell hb2 hHeld.2.2.2.2.2.2.2.2.1, Bx.keep_cell hb2 hHeld.2.2.2.2.2.2.2.2.2.1, Bx.keep_cell hb2 hHeld.2.2.2.2.2.2.2.2.2.2.1, Bx.keep_cell hb2 hHeld.2.2.2.2.2.2.2.2.2.2.2⟩ (fun hNew => ?_)
    clear hHeld
    have hHeld := hNew
    clear hNew hK K
    replace bel := Bx.then_below bel hb2
    clear hb2
    refine wpAnyH_take (i := 15) (oi := ?o15w4) (v := ?v15w4) ?hi15w4 (by kernel_rfl) (by kernel_rfl) (by kernel_rfl) (fun _ _ _ h => h) ?y15w4 (by assumption) ?r15w4
    case hi15w4 => (simp only [List.getElem?_toArray, List.getElem?_cons_succ, List.getElem?_cons_zero]; rfl)
    case y15w4 => (refine Or.inl ⟨by rfl, ?_⟩; intro w' hSw; (try dsimp only at hSw); go_simp; (try with_reducible rfl))
    try simp only [Act.put, List.setIfInBounds_toArray, List.set_cons_zero, List.set_cons_succ]
    refine wpAnyH_take (i := 16) (oi := ?o16w4) (v := ?v16w4) ?hi16w4 (by kernel_rfl) (by kernel_rfl) (by kernel_rfl) (fun _ _ _ h => h) ?y16w4 (by assumption) ?r16w4
    case hi16w4 => (simp only [List.getElem?_toArray, List.getElem?_cons_succ, List.getElem?_cons_zero]; rfl)
    case y16w4 => (refine Or.inl ⟨by rfl, ?_⟩; intro w' hSw; (try dsimp only at hSw); go_simp; (try with_reducible rfl))
    try simp only [Act.put, List.setIfInBounds_toArray, List.set_cons_zero, List.set_cons_succ]
    refine wpAnyH_take (i := 17) (oi := ?o17w4) (v := ?v17w4) ?hi17w4 (by kernel_rfl) (by kernel_rfl) (by kernel_rfl) (fun _ _ _ h => h) ?y17w4 (by assumption) ?r17w4
    case hi17w4 => (simp only [List.getElem?_toArray, List.getElem?_cons_succ, List.getElem?_cons_zero]; rfl)
    case y17w4 => (refine Or.inl ⟨by rfl, ?_⟩; intro w' hSw; (try dsimp only at hSw); go_simp; (try with_reducible rfl))
    try simp only [Act.put, List.setIfInBounds_toArray, List.set_cons_zero, List.set_cons_succ]
    refine wpAnyH_take (i := 18) (oi := ?o18w4) (v := ?v18w4) ?hi18w4 (by kernel_rfl) (by kernel_rfl) (by kernel_rfl) (fun _ _ _ h => h) ?y18w4 (by assumption) ?r18w4
    case hi18w4 => (simp only [List.getElem?_toArray, List.getElem?_cons_succ, List.getElem?_cons_zero]; rfl)
    case y18w4 => (refine Or.inl ⟨by rfl, ?_⟩; intro w' hSw; (try dsimp only at hSw); go_simp; (try with_reducible rfl))
    try simp only [Act.put, List.setIfInBounds_toArray, List.set_cons_zero, List.set_cons_succ]
    refine wpAnyH_ready (rs := [19]) (by kernel_rfl) (by simp) ?_
    refine AllReadyH.cons (o := ?o19w4) ?hi19w4 ?hst19w4 AllReadyH.nil
    case hi19w4 => (simp only [List.getElem?_toArray, List.getElem?_cons_succ, List.getElem?_cons_zero]; rfl)
    intro K hK
    go_simp
    (go_at_call 7; (with_reducible refine (HYX.out _).mono ?_); rintro e w3 ⟨rfl, hb3⟩)
    go_wp2_with fail
    refine hK.out _ _ ⟨Bx.keep_cell hb3 hHeld.1, Bx.keep_cell hb3 hHeld.2.1, Bx.keep_cell hb3 hHeld.2.2.1, Bx.keep_cell hb3 hHeld.2.2.2.1, Bx.keep_cell hb3 hHeld.2.2.2.2.1, Bx.keep_cell hb3 hHeld.2.2.2.2.2.1, Bx.keep_cell hb3 hHeld.2.2.2.2.2.2.1, Bx.keep_cell hb3 hHeld.2.2.2.2.2.2.2.1, Bx.keep_cell hb3 hHeld.2.2.2.2.2.2.2.2.1, Bx.keep_cell hb3 hHeld.2.2.2.2.2.2.2.2.2.1, Bx.keep_cell hb3 hHeld.2.2.2.2.2.2.2.2.2.2.1, Bx.keep_cell hb3 hHeld.2.2.2.2.2.2.2.2.2.2.2⟩ (fun hNew => ?_)
    clear hHeld
    have hHeld := hNew
    clear hNew hK K
    replace bel := Bx.then_below bel hb3
    clear hb3
    refine wpAnyH_take (i := 20) (oi := ?o20w4) (v := ?v20w4) ?hi20w4 (by kernel_rfl) (by kernel_rfl) (by kernel_rfl) (fun _ _ _ h => h) ?y20w4 (by assumption) ?r20w4
    case hi20w4 => (simp only [List.getElem?_toArray, List.getElem?_cons_succ, List.getElem?_cons_zero]; rfl)
    case y20w4 => (refine Or.inl ⟨by rfl, ?_⟩; intro w' hSw; (try dsimp only at hSw); go_simp; (try with_reducible rfl))
    try simp only [Act.put, List.setIfInBounds_toArray, List.set_cons_zero, List.set_cons_succ]
    refine wpAnyH_take (i := 21) (oi := ?o21w4) (v := ?v21w4) ?hi21w4 (by kernel_rfl) (by kernel_rfl) (by kernel_rfl) (fun _ _ _ h => h) ?y21w4 (by assumption) ?r21w4
    case hi21w4 => (simp only [List.getElem?_toArray, List.getElem?_cons_succ, List.getElem?_cons_zero]; rfl)
    case y21w4 => (refine Or.inl ⟨by rfl, ?_⟩; intro w' hSw; (try dsimp only at hSw); go_simp; (try with_reducible rfl))
    try simp only [Act.put, List.setIfInBounds_toArray, List.set_cons_zero, List.set_cons_succ]
    refine wpAnyH_take (i := 22) (oi := ?o22w4) (v := ?v22w4) ?hi22w4 (by kernel_rfl) (by kernel_rfl) (by kernel_rfl) (fun _ _ _ h => h) ?y22w4 (by assumption) ?r22w4
    case hi22w4 => (simp only [List.getElem?_toArray, List.getElem?_cons_succ, List.getElem?_cons_zero]; rfl)
    case y22w4 => (refine Or.inl ⟨by rfl, ?_⟩; intro w' hSw; (try dsimp only at hSw); go_simp; (try with_reducible rfl))
    try simp only [Act.put, List.setIfInBounds_toArray, List.set_cons_zero, List.set_cons_succ]
    refine wpAnyH_take (i := 23) (oi := ?o23w4) (v := ?v23w4) ?hi23w4 (by kernel_rfl) (by kernel_rfl) (by kernel_rfl) (fun _ _ _ h => h) ?y23w4 (by assumption) ?r23w4
    case hi23w4 => (simp only [List.getElem?_toArray, List.getElem?_cons_succ, List.getElem?_cons_zero]; rfl)
    case y23w4 => (refine Or.inl ⟨by rfl, ?_⟩; intro w' hSw; (try dsimp only at hSw); go_simp; (try with_reducible rfl))
    try simp only [Act.put, List.setIfInBounds_toArray, List.set_cons_zero, List.set_cons_succ]
    refine wpAnyH_take (i := 24) (oi := ?o24w4) (v := ?v24w4) ?hi24w4 (by kernel_rfl) (by kernel_rfl) (by kernel_rfl) (fun _ _ _ h => h) ?y24w4 (by assumption) ?r24w4
    case hi24w4 => (simp only [List.getElem?_toArray, List.getElem?_cons_succ, List.getElem?_cons_zero]; rfl)
    case y24w4 => (refine Or.inl ⟨by rfl, ?_⟩; intro w' hSw; (try dsimp only at hSw); go_simp; (try with_reducible rfl))
    try simp only [Act.put, List.setIfInBounds_toArray, List.set_cons_zero, List.set_cons_succ]
    refine wpAnyH_take (i := 25) (oi := ?o25w4) (v := ?v25w4) ?hi25w4 (by kernel_rfl) (by kernel_rfl) (by kernel_rfl) (fun _ _ _ h => h) ?y25w4 (by assumption) ?r25w4
    case hi25w4 => (simp only [List.getElem?_toArray, List.getElem?_cons_succ, List.getElem?_cons_zero]; rfl)
    case y25w4 => (refine Or.inl ⟨by rfl, ?_⟩; intro w' hSw; (try dsimp only at hSw); go_simp; (try with_reducible rfl))
    try simp only [Act.put, List.setIfInBounds_toArray, List.set_cons_zero, List.set_cons_succ]
    refine wpAnyH_take (i := 26) (oi := ?o26w4) (v := ?v26w4) ?hi26w4 (by kernel_rfl) (by kernel_rfl) (by kernel_rfl) (fun _ _ _ h => h) ?y26w4 (by assumption) ?r26w4
    case hi26w4 => (simp only [List.getElem?_toArray, List.getElem?_cons_succ, List.getElem?_cons_zero]; rfl)
    case y26w4 => (refine Or.inl ⟨by rfl, ?_⟩; intro w' hSw; (try dsimp only at hSw); go_simp; (try with_reducible rfl))
    try simp only [Act.put, List.setIfInBounds_toArray, List.set_cons_zero, List.set_cons_succ]
    refine wpAnyH_ready (rs := [27]) (by kernel_rfl) (by simp) ?_
    refine AllReadyH.cons (o := ?o27w4) ?hi27w4 ?hst27w4 AllReadyH.nil
    case hi27w4 => (simp only [List.getElem?_toArray, List.getElem?_cons_succ, List.getElem?_cons_zero]; rfl)
    intro K hK
    go_simp
    (go_at_call 7; (with_reducible refine (HXY.out _).mono ?_); rintro e w4 ⟨rfl, hb4⟩)
    go_wp2_with fail
    refine hK.out _ _ ⟨Bx.keep_cell hb4 hHeld.1, Bx.keep_cell hb4 hHeld.2.1, Bx.keep_cell hb4 hHeld.2.2.1, Bx.keep_cell hb4 hHeld.2.2.2.1, Bx.keep_cell hb4 hHeld.2.2.2.2.1, Bx.keep_cell hb4 hHeld.2.2.2.2.2.1, Bx.keep_cell hb4 hHeld.2.2.2.2.2.2.1, Bx.keep_cell hb4 hHeld.2.2.2.2.2.2.2.1, Bx.keep_cell hb4 hHeld.2.2.2.2.2.2.2.2.1, Bx.keep_cell hb4 hHeld.2.2.2.2.2.2.2.2.2.1, Bx.keep_cell hb4 hHeld.2.2.2.2.2.2.2.2.2.2.1, Bx.keep_cell hb4 hHeld.2.2.2.2.2.2.2.2.2.2.2⟩ (fun hNew => ?_)
    clear hHeld
    have hHeld := hNew
    clear hNew hK K
    replace bel := Bx.then_below bel hb4
    clear hb4
    refine wpAnyH_take (i := 28) (oi := ?o28w4) (v := ?v28w4) ?hi28w4 (by kernel_rfl) (by kernel_rfl) (by kernel_rfl) (fun _ _ _ h => h) ?y28w4 (by assumption) ?r28w4
    case hi28w4 => (simp only [List.getElem?_toArray, List.getElem?_cons_succ, List.getElem?_cons_zero]; rfl)
    case y28w4 => (refine Or.inl ⟨by rfl, ?_⟩; intro w' hSw; (try dsimp only at hSw); go_simp; (try with_reducible rfl))
    try simp only [Act.put, List.setIfInBounds_toArray, List.set_cons_zero, List.set_cons_succ]
    refine wpAnyH_take (i := 29) (oi := ?o29w4) (v := undef) ?hi29w4 (by kernel_rfl) (by kernel_rfl) (by kernel_rfl) (fun _ _ _ h => h) ?y29w4 (by assumption) ?r29w4
    case hi29w4 => (simp only [List.getElem?_toArray, List.getElem?_cons_succ, List.getElem?_cons_zero]; rfl)
    case y29w4 => exact Or.inr ⟨by rfl, rfl⟩
    try simp only [Act.put, List.setIfInBounds_toArray, List.set_cons_zero, List.set_cons_succ]
    refine wpAnyH_take (i := 30) (oi := ?o30w4) (v := undef) ?hi30w4 (by kernel_rfl) (by kernel_rfl) (by kernel_rfl) (fun _ _ _ h => h) ?y30w4 (by assumption) ?r30w4
    case hi30w4 => (simp only [List.getElem?_toArray, List.getElem?_cons_succ, List.getElem?_cons_zero]; rfl)
    case y30w4 => exact Or.inr ⟨by rfl, rfl⟩
    try simp only [Act.put, List.setIfInBounds_toArray, List.set_cons_zero, List.set_cons_succ]
    refine wpAnyH_take (i := 31) (oi := ?o31w4) (v := undef) ?hi31w4 (by kernel_rfl) (by kernel_rfl) (by kernel_rfl) (fun _ _ _ h => h) ?y31w4 (by assumption) ?r31w4
    case hi31w4 => (simp only [List.getElem?_toArray, List.getElem?_cons_succ, List.getElem?_cons_zero]; rfl)
    case y31w4 => exact Or.inr ⟨by rfl, rfl⟩
    try simp only [Act.put, List.setIfInBounds_toArray, List.set_cons_zero, List.set_cons_succ]
    refine wpAnyH_take (i := 32) (oi := ?o32w4) (v := ?v32w4) ?hi32w4 (by kernel_rfl) (by kernel_rfl) (by kernel_rfl) (fun _ _ _ h => h) ?y32w4 (by assumption) ?r32w4
    case hi32w4 => (simp only [List.getElem?_toArray, List.getElem?_cons_succ, List.getElem?_cons_zero]; rfl)
    case y32w4 => (refine Or.inl ⟨by rfl, ?_⟩; intro w' hSw; (try dsimp only at hSw); go_simp; (try with_reducible rfl))
    try simp only [Act.put, List.setIfInBounds_toArray, List.set_cons_zero, List.set_cons_succ]
    refine wpAnyH_take (i := 33) (oi := ?o33w4) (v := ?v33w4) ?hi33w4 (by kernel_rfl) (by kernel_rfl) (by kernel_rfl) (fun _ _ _ h => h) ?y33w4 (by assumption) ?r33w4
    case hi33w4 => (simp only [List.getElem?_toArray, List.getElem?_cons_succ, List.getElem?_cons_zero]; rfl)
    case y33w4 => (refine Or.inl ⟨by rfl, ?_⟩; intro w' hSw; (try dsimp only at hSw); go_simp; (try with_reducible rfl))
    try simp only [Act.put, List.setIfInBounds_toArray, List.set_cons_zero, List.set_cons_succ]
    refine wpAnyH_take (i := 34) (oi := ?o34w4) (v := undef) ?hi34w4 (by kernel_rfl) (by kernel_rfl) (by kernel_rfl) (fun _ _ _ h => h) ?y34w4 (by assumption) ?r34w4
    case hi34w4 => (simp only [List.getElem?_toArray, List.getElem?_cons_succ, List.getElem?_cons_zero]; rfl)
    case y34w4 => exact Or.inr ⟨by rfl, rfl⟩
    try simp only [Act.put, List.setIfInBounds_toArray, List.set_cons_zero, List.set_cons_succ]
    refine wpAnyH_take (i := 35) (oi := ?o35w4) (v := undef) ?hi35w4 (by kernel_rfl) (by kernel_rfl) (by kernel_rfl) (fun _ _ _ h => h) ?y35w4 (by assumption) ?r35w4
    case hi35w4 => (simp only [List.getElem?_toArray, List.getElem?_cons_succ, List.getElem?_cons_zero]; rfl)
    case y35w4 => exact Or.inr ⟨by rfl, rfl⟩
    try simp only [Act.put, List.setIfInBounds_toArray, List.set_cons_zero, List.set_cons_succ]
    refine wpAnyH_take (i := 36) (oi := ?o36w4) (v := undef) ?hi36w4 (by kernel_rfl) (by kernel_rfl) (by kernel_rfl) (fun _ _ _ h => h) ?y36w4 (by assumption) ?r36w4
    case hi36w4 => (simp only [List.getElem?_toArray, List.getElem?_cons_succ, List.getElem?_cons_zero]; rfl)
    case y36w4 => exact Or.inr ⟨by rfl, rfl⟩
    try simp only [Act.put, List.setIfInBounds_toArray, List.set_cons_zero, List.set_cons_succ]
    refine wpAnyH_take (i := 37) (oi := ?o37w4) (v := undef) ?hi37w4 (by kernel_rfl) (by kernel_rfl) (by kernel_rfl) (fun _ _ _ h => h) ?y37w4 (by assumption) ?r37w4
    case hi37w4 => (simp only [List.getElem?_toArray, List.getElem?_cons_succ, List.getElem?_cons_zero]; rfl)
    case y37w4 => exact Or.inr ⟨by rfl, rfl⟩
    try simp only [Act.put, List.setIfInBounds_toArray, List.set_cons_zero, List.set_cons_succ]
    refine wpAnyH_take (i := 38) (oi := ?o38w4) (v := ?v38w4) ?hi38w4 (by kernel_rfl) (by kernel_rfl) (by kernel_rfl) (fun _ _ _ h => h) ?y38w4 (by assumption) ?r38w4
    case hi38w4 => (simp only [List.getElem?_toArray, List.getElem?_cons_succ, List.getElem?_cons_zero]; rfl)
    case y38w4 => (refine Or.inl ⟨by rfl, ?_⟩; intro w' hSw; (try dsimp only at hSw); go_simp; (try with_reducible rfl))
    try simp only [Act.put, List.setIfInBounds_toArray, List.set_cons_zero, List.set_cons_succ]
    refine wpAnyH_take (i := 39) (oi := ?o39w4) (v := ?v39w4) ?hi39w4 (by kernel_rfl) (by kernel_rfl) (by kernel_rfl) (fun _ _ _ h => h) ?y39w4 (by assumption) ?r39w4
    case hi39w4 => (simp only [List.getElem?_toArray, List.getElem?_cons_succ, List.getElem?_cons_zero]; rfl)
    case y39w4 => (refine Or.inl ⟨by rfl, ?_⟩; intro w' hSw; (try dsimp only at hSw); go_simp; (try with_reducible rfl))
    try simp only [Act.put, List.setIfInBounds_toArray, List.set_cons_zero, List.set_cons_succ]
    refine wpAnyH_done (by kernel_rfl) ?_ _
    refine NoPanic.normal ?_
    clear a0 a1 a2 a3 b0 b1 b2 b3 c0 c1 c2 c3 X0 Y0 Z0 heq hgd HXY HYX
    obtain ⟨a0, a1, a2, a3, b0, b1, b2, b3, c0, c1, c2, c3⟩ := hHeld
    go_wp2_with fail
    have HV := Lib.hid (HVS.out _ _ (Bx.Blk.new w4 [.int .u64 m1, .int .u64 m2, .int .u64 m3, .int .i64 m4, .int .u64 n1, .int .u64 n2, .int .u64 n3, .int .i64 n4, .int .u64 q1, .int .u64 q2, .int .u64 q3, .int .i64 q4] 24))
    replace bel := Bx.bel_box bel (.cells #[.int .u64 m1, .int .u64 m2, .int .u64 m3, .int .i64 m4, .int .u64 n1, .int .u64 n2, .int .u64 n3, .int .i64 n4, .int .u64 q1, .int .u64 q2, .int .u64 q3, .int .i64 q4] 24)
    refine (HL.out _ _ HV.out).mono ?_; rintro e wa ⟨⟨at_, rfl, hat⟩, hb⟩
    replace bel := Bx.then_below bel hb
    replace HV := Lib.hid (HV.out.below hb)
    clear hb a0 a1 a2 a3 b0 b1 b2 b3 c0 c1 c2 c3
    obtain ⟨k, rfl, hk3, HK⟩ := at_three hat
    clear hat
    have l1 : ¬ ((k : Int) < 0) := by omega
    have l2 : ¬ ((2 : Int) < (k : Int)) := by omega
    have l3 : (0 : Int) ≤ (k : Int) := by omega
    have l4 : (k : Int) < 3 := by omega
    obtain ⟨L, hL⟩ : ∃ L : List Vc, L = [⟨m1, m2, m3, m4⟩, ⟨n1, n2, n3, n4⟩, ⟨q1, q2, q3, q4⟩] := ⟨_, rfl⟩
    rw [← hL] at HV HLen HK
    clear hL HL HVS
    have B0 := Lib.hid bel
    clear bel
    obtain ⟨AD, hAD⟩ : ∃ AD, AD = (⟨w4.heap.size, 0, none⟩ : Addr) := ⟨_, rfl⟩
    rw [← hAD]
    rw [← hAD] at HV
    clear hAD
    go_wp2
    go_loopw [10, 65] (fun _ ix wr => ∃ i : Nat, i ≤ 3 ∧ ix = .int .i64 i ∧ Aside (Vs wr (some AD) L) ∧ Aside (Below w.heap.size w wr)) (fun _ ix _ => 3 - (intOf ix).toNat)
    case atStart => exact ⟨0, Nat.zero_le _, rfl, HV.out, B0.out⟩
    case round =>
      obtain ⟨i, hi, rfl, HA, HB⟩ := hrel
      by_cases hlt : i < 3
      · have hil : i < L.length := by rw [HLen.out]; exact hlt
        have hkl : k < L.length := by rw [HLen.out]; exact hk3
        obtain ⟨b, p, e1, hbl, d0, d1, d2, d3⟩ := HA.out.at hil
        cases e1
        have BX := Lib.hid (Bx.bel_box HB.out (vo L[i]))
        have MX := Lib.hid (Bx.Blk.new wr (enc L[i]) 24)
        have A2 := Lib.hid (HA.out.below (Bx.box_below wr (vo L[i])))
        obtain ⟨b', p', e2, _, f0, f1, f2, f3⟩ := A2.out.at hkl
        injection e2 with e2
        injection e2 with e2 e3
        subst e2 e3
        have HC := Lib.hid (fun W => HBT.out L[i] L[k] W)
        rw [HK.out i hil hkl] at HC
        generalize L[i] = s at *
        generalize L[k] = t at *
        obtain ⟨s1, s2, s3, s4⟩ := s
        obtain ⟨t1, t2, t3, t4⟩ := t
        simp only at d0 d1 d2 d3 f0 f1 f2 f3
        obtain ⟨j0, j1, j2, j3⟩ := MX.out.all4
        go_wp2_with fail
        go_region_held3 (fun w' => (w'.cell? ⟨b, p + k * 4, none⟩ = some (.int .u64 t1) ∧ w'.cell? ⟨b, p + k * 4 + 1, none⟩ = some (.int .u64 t2) ∧ w'.cell? ⟨b, p + k * 4 + 2, none⟩ = some (.int .u64 t3) ∧ w'.cell? ⟨b, p + k * 4 + 3, none⟩ = some (.int .i64 t4)) ∧ (w'.cell? ⟨wr.heap.size, 0, none⟩ = some (.int .u64 s1) ∧ w'.cell? ⟨wr.heap.size, 1, none⟩ = some (.int .u64 s2) ∧ w'.cell? ⟨wr.heap.size, 2, none⟩ = some (.int .u64 s3) ∧ w'.cell? ⟨wr.heap.size, 3, none⟩ = some (.int .i64 s4)))
          (first | go_keep | (go_split_ands; exact ⟨⟨Bx.keep_cell (by assumption) (by assumption), Bx.keep_cell (by assumption) (by assumption), Bx.keep_cell (by assumption) (by assumption), Bx.keep_cell (by assumption) (by assumption)⟩, Bx.keep_cell (by assumption) (by assumption), Bx.keep_cell (by assumption) (by assumption), Bx.keep_cell (by assumption) (by assumption), Bx.keep_cell (by assumption) (by assumption)⟩))
          (first | (go_at_call 7; with_reducible refine (HC.out _).mono ?_; rintro e w1 ⟨rfl, hb1⟩))
        have B2 := Lib.hid (BX.out.drew.trans (hb1.mono BX.out.size))
        have A3 := Lib.hid (A2.out.below (show Below (wr.alloc (vo ⟨s1, s2, s3, s4⟩)).heap.size (wr.alloc (vo ⟨s1, s2, s3, s4⟩)) w1 from (Below.refl _ _).drew.trans hb1))
        clear hb1
        go_wp2
        go_roundw
        case rel => exact ⟨i + 1, by omega, by go_num, A3.out, B2.out⟩
        case measure => simp [intOf]; omega
      · have B1 := HB
        go_wp2_with fail
        refine (HAW.out _).mono ?_; rintro e w1 ⟨rfl, hb⟩
        have B2 := Lib.hid (Bx.then_below B1.out hb)
        clear hb
        go_wp2
        go_ret
        exact ⟨rfl, B2.out⟩

end Pre

namespace LawPreferOrder
open Go.ChangeShapes Go.WideShapes Go.ChangeAt Go.RowKit
open Go.ChangeMaps (open_string shut_string)

theorem own : ownKnob Try.prog.godebug = none := by kernel_rfl
theorem laidOut : laidOutB Try.prog = true := by kernel_rfl

set_option maxRecDepth 100000 in
theorem lifted (os : Os) (started : os.Started) (H : Type) (enc : TypeId × Value → H) :
    ReturnsInHanded {} Try.checked os 4 .any (Rows.preferOrderSpec.pre6 enc Try.prog Try.f4 Rows.preferOrderRow.domain false) (Rows.preferOrderSpec.post enc Try.prog Try.f4 false true false false) := by
  refine Fr.law_lift (C := Try.checked) (tb := 4) own started (by kernel_rfl) Try.func4
    (ChangeSpec.witness6 (enc := enc) (C := Try.checked) false ⟨#[], #[.agg #[.int .u64 0, .int .u64 0, .int .u64 0, .int .i64 0], .agg #[.int .u64 0, .int .u64 0, .int .u64 0, .int .i64 0], .agg #[.int .u64 0, .int .u64 0, .int .u64 0, .int .i64 0]], []⟩ 8 (by kernel_rfl) (by kernel_rfl) (by kernel_rfl) (by kernel_rfl))
    laidOut (by rw [Try.params4]; decide +kernel) rfl Try.underlying4 rfl ?_ ?_
  · intro ds hl
    match ds, hl with
    | [d0, d1, d2], _ => rfl
  · intro W base args ds p hval hA
    rw [Try.params4] at hA hval
    obtain ⟨v0, vs0, d0, ds0, p0, q0, hargs, rfl, rfl, h0, r0⟩ := trodAll_cons hA
    obtain ⟨v1, vs1, d1, ds1, p1, q1, rfl, rfl, rfl, h1, r1⟩ := trodAll_cons r0
    obtain ⟨v2, vs2, d2, ds2, p2, q2, rfl, rfl, rfl, h2, r2⟩ := trodAll_cons r1
    obtain ⟨rfl, rfl, rfl⟩ := trodAll_nil r2
    obtain rfl : args = #[v0, v1, v2] := by cases args; simp_all
    obtain ⟨x0, rfl, hx0⟩ := Pre.open_vec (hval 0 24 v0 rfl rfl) h0
    obtain ⟨x1, rfl, hx1⟩ := Pre.open_vec (hval 1 24 v1 rfl rfl) h1
    obtain ⟨x2, rfl, hx2⟩ := Pre.open_vec (hval 2 24 v2 rfl rfl) h2
    exact Pre.law_order W x0 hx0 x1 hx1 x2 hx2

theorem over : Rows.preferOrderRow.holds Try.pinned (OpenSpec.ofChange Rows.preferOrderSpec) :=
  OpenClaim.holds_of_wide 4 Try.f4 rfl rfl rfl rfl rfl rfl rfl ⟨rfl, rfl, rfl, rfl, rfl⟩ rfl rfl rfl rfl rfl (by kernel_rfl) Try.func4 (by kernel_rfl)
    (of_decide_eq_true (by kernel_rfl)) (by unfold Func.isWrapper; first | (rw [if_pos (by decide +kernel)]; kernel_rfl) | (rw [if_neg (by decide +kernel)]; exact ⟨rfl, rfl⟩))
    (fun os started H enc _ => lifted os started H enc)
end LawPreferOrder

/-- The statement PreferOrder. -/
theorem preferOrder_holds : Rows.PreferOrderSaid := LawPreferOrder.over

end Go.Proofs.Ytkggphonoihidaa
