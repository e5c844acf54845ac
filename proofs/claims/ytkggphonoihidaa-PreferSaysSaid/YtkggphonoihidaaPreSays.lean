/-
  The statement PreferSays: for every two vectors and every case the law PreferSays returns true, and its arguments read afterwards as they read before.
-/
import Derived.Test.YtkggphonoihidaaPreAwake
import Derived.Test.YtkggphonoihidaaPreOpen
import Derived.Test.YtkggphonoihidaaFrame
import Derived.Test.YtkggphonoihidaaRows
namespace Go.Proofs.Ytkggphonoihidaa
open Go.RowKit
namespace Pre
open Oct

theorem fst_some (l : List Vc) : ∃ z, FstZ l z := by
  cases l with
  | nil => exact ⟨-1, .inl ⟨rfl, rfl⟩⟩
  | cons x l =>
    obtain ⟨k, hk⟩ := exists_fst (x :: l) (by simp)
    exact ⟨k, .inr ⟨k, rfl, hk⟩⟩

theorem eql_tm (x1 x2 x3 x4 : Int) (w : World) : (binOp .eql 27 (.agg #[.int .i64 x1, .int .i64 x2, .int .i64 x3, .int .i64 x4]) (.agg #[.int .i64 x1, .int .i64 x2, .int .i64 x3, .int .i64 x4])).run Try.prog w = .ok (.bool true) w := by
  have u3 := Try.underlying3
  have hS : Try.prog.underlying 27 = some (.struct (Try.prog.fieldsOf 27)) := by kernel_rfl
  have hp : Try.prog.stoodInHeld 27 = false := by kernel_rfl
  rw [run_eql_struct, show (10000 : Nat) = 9999 + 1 from rfl, run_equalIn_agg w 9999 27 _ _ hS hp]
  simp only [Program.fieldsOf, Try.underlying27]
  go_simp

theorem guard_tm (op : BinOp) (a b : Operand) (x1 x2 x3 x4 : Int) (w : World) : Sem.run Try.prog (eqGuard op 27 a b (.agg #[.int .i64 x1, .int .i64 x2, .int .i64 x3, .int .i64 x4]) (.agg #[.int .i64 x1, .int .i64 x2, .int .i64 x3, .int .i64 x4])) w = .ok () w :=
  run_eqGuard_agg w op 27 a b #[.int .i64 x1, .int .i64 x2, .int .i64 x3, .int .i64 x4] #[.int .i64 x1, .int .i64 x2, .int .i64 x3, .int .i64 x4] (by kernel_rfl)

set_option maxRecDepth 40000 in
set_option maxHeartbeats 16000000 in
theorem law_says (w : World) (x : Vc) (_ : wfV x) (y : Vc) (_ : wfV y) (A : Option Addr) (l : List Vc) (c k : Nat) (t : Tm) (_ : l.length ≤ maxLen) (hA : Vs w A l) (ht : wfT t) :
    Calls Try.prog 3 #[vv x, vv y, .agg #[.slice A l.length c, .int .u64 k, .int .i64 t.a, .int .i64 t.m, .int .i64 t.h, .int .i64 t.d]] w fun e w' => e = .returned (.bool true) ∧ Below w.heap.size w w' := by
  have HAW := Lib.hid awake_any
  obtain ⟨q1, q2, q3, q4⟩ := t
  have hta : -9223372036854775808 ≤ q1 := ht.1.1
  clear ht
  simp only
  by_cases hl : 100 < l.length
  · have hl' : (100 : Int) < (l.length : Int) := by omega
    generalize l.length = n at *
    obtain ⟨m1, m2, m3, m4⟩ := x
    obtain ⟨n1, n2, n3, n4⟩ := y
    have bel := Lib.hid (Bx.bel_box (Bx.bel_box (Bx.box_below w (.cells #[.int .u64 m1, .int .u64 m2, .int .u64 m3, .int .i64 m4] 24)) (.cells #[.int .u64 n1, .int .u64 n2, .int .u64 n3, .int .i64 n4] 24)) (.cells #[.slice A n c, .int .u64 k, .int .i64 q1, .int .i64 q2, .int .i64 q3, .int .i64 q4] 29))
    clear hA
    go_enter Try.func3, Try.ntmps3
    go_wp2_with fail
    refine (HAW.out _).mono ?_; rintro e w1 ⟨rfl, hb⟩
    have B2 := Lib.hid (Bx.then_below bel.out hb)
    clear hb
    go_wp2
    go_ret
    exact ⟨rfl, B2.out⟩
  · have hl' : ¬ (100 : Int) < (l.length : Int) := by omega
    have hl2 : l.length ≤ 100000 := by omega
    obtain ⟨z, hz⟩ := fst_some l
    have hu : ∀ z', FstZ l z' → z' = z := fun z' h => h.uniq hz
    obtain ⟨br, hbr⟩ : ∃ br, br = ltV x y := ⟨_, rfl⟩
    obtain ⟨ow, how⟩ : ∃ ow : Vc, ow = ⟨k, 0, k, 0⟩ := ⟨_, rfl⟩
    obtain ⟨vi, hvi⟩ : ∃ vi : Vc, vi = ⟨x.r, viaN x.c k, x.b, x.p⟩ := ⟨_, rfl⟩
    obtain ⟨de, hde⟩ : ∃ de : Vc, de = ⟨x.r, x.c, k, y.p⟩ := ⟨_, rfl⟩
    obtain ⟨ol, hol⟩ : ∃ ol, ol = olderA q1 := ⟨_, rfl⟩
    have HB1 : Hid (∀ W, Below w.heap.size w W → Calls Try.prog 7 #[vv x, vv y] W fun e w' => e = .returned (.bool br) ∧ Below W.heap.size W w') := Lib.hid (fun W hb => by rw [hbr]; exact better_any x y W)
    have HL1 : Hid (∀ W, Below w.heap.size w W → Calls Try.prog 9 #[.slice A l.length c] W fun e w' => e = .returned (.int .i64 z) ∧ Below W.heap.size W w') := Lib.hid (fun W hb => (least_any l hl2 A c W (hA.below hb)).mono (by rintro e w' ⟨⟨z', rfl, h⟩, hb'⟩; exact ⟨by rw [hu z' h], hb'⟩))
    have HO1 : Hid (∀ W, Below w.heap.size w W → Calls Try.prog 11 #[.int .u64 k] W fun e w' => e = .returned (vv ow) ∧ Below W.heap.size W w') := Lib.hid (fun W hb => by rw [how]; exact own_any k W)
    have HV1 : Hid (∀ W, Below w.heap.size w W → Calls Try.prog 13 #[vv x, .int .u64 k] W fun e w' => e = .returned (vv vi) ∧ Below W.heap.size W w') := Lib.hid (fun W hb => by rw [hvi]; exact via_any x k W)
    have HD1 : Hid (∀ W, Below w.heap.size w W → Calls Try.prog 15 #[vv x, .int .u64 k, .int .i64 y.p] W fun e w' => e = .returned (vv de) ∧ Below W.heap.size W w') := Lib.hid (fun W hb => by rw [hde]; exact des_any x k y.p W)
    have HT1 : Hid (∀ W, Below w.heap.size w W → Calls Try.prog 17 #[.agg #[.int .i64 q1, .int .i64 q2, .int .i64 q3, .int .i64 q4]] W fun e w' => e = .returned (.agg #[.int .i64 ol, .int .i64 q2, .int .i64 q3, .int .i64 q4]) ∧ Below W.heap.size W w') := Lib.hid (fun W hb => by rw [hol]; exact older_any ⟨q1, q2, q3, q4⟩ hta W)
    have HB2 : Hid (∀ W, Below w.heap.size w W → Calls Try.prog 8 #[vv x, vv y] W fun e w' => e = .returned (.bool br) ∧ Below W.heap.size W w') := Lib.hid (fun W hb => by rw [hbr]; exact rbetter_any x y W)
    have HL2 : Hid (∀ W, Below w.heap.size w W → Calls Try.prog 10 #[.slice A l.length c] W fun e w' => e = .returned (.int .i64 z) ∧ Below W.heap.size W w') := Lib.hid (fun W hb => (rleast_any l hl2 A c W (hA.below hb)).mono (by rintro e w' ⟨⟨z', rfl, h⟩, hb'⟩; exact ⟨by rw [hu z' h], hb'⟩))
    have HO2 : Hid (∀ W, Below w.heap.size w W → Calls Try.prog 12 #[.int .u64 k] W fun e w' => e = .returned (vv ow) ∧ Below W.heap.size W w') := Lib.hid (fun W hb => by rw [how]; exact rown_any k W)
    have HV2 : Hid (∀ W, Below w.heap.size w W → Calls Try.prog 14 #[vv x, .int .u64 k] W fun e w' => e = .returned (vv vi) ∧ Below W.heap.size W w') := Lib.hid (fun W hb => by rw [hvi]; exact rvia_any x k W)
    have HD2 : Hid (∀ W, Below w.heap.size w W → Calls Try.prog 16 #[vv x, .int .u64 k, .int .i64 y.p] W fun e w' => e = .returned (vv de) ∧ Below W.heap.size W w') := Lib.hid (fun W hb => by rw [hde]; exact rdes_any x k y.p W)
    have HT2 : Hid (∀ W, Below w.heap.size w W → Calls Try.prog 18 #[.agg #[.int .i64 q1, .int .i64 q2, .int .i64 q3, .int .i64 q4]] W fun e w' => e = .returned (.agg #[.int .i64 ol, .int .i64 q2, .int .i64 q3, .int .i64 q4]) ∧ Below W.heap.size W w') := Lib.hid (fun W hb => by rw [hol]; exact rolder_any ⟨q1, q2, q3, q4⟩ hta W)
    clear hu hz hbr how hvi hde hol hta hl hl2 hA
    obtain ⟨m1, m2, m3, m4⟩ := x
    obtain ⟨n1, n2, n3, n4⟩ := y
    obtain ⟨o1, o2, o3, o4⟩ := ow
    obtain ⟨v1, v2, v3, v4⟩ := vi
    obtain ⟨d1, d2, d3, d4⟩ := de
    simp only at HD1 HD2
    generalize l.length = n at *
    have eb : (br == br) = true := by simp
    have ez : (z == z) = true := by simp
    have ho : ∀ w, (binOp .eql 24 (.agg #[.int .u64 o1, .int .u64 o2, .int .u64 o3, .int .i64 o4]) (.agg #[.int .u64 o1, .int .u64 o2, .int .u64 o3, .int .i64 o4])).run Try.prog w = .ok (.bool true) w := fun w => by have h := eql_at o1 o2 o3 o4 o1 o2 o3 o4 w; rw [decide_eq_true rfl] at h; exact h
    have go : ∀ (op : BinOp) (a b : Operand) (w : World), Sem.run Try.prog (eqGuard op 24 a b (.agg #[.int .u64 o1, .int .u64 o2, .int .u64 o3, .int .i64 o4]) (.agg #[.int .u64 o1, .int .u64 o2, .int .u64 o3, .int .i64 o4])) w = .ok () w := fun op a b w => guard_at op a b o1 o2 o3 o4 o1 o2 o3 o4 w
    have hv : ∀ w, (binOp .eql 24 (.agg #[.int .u64 v1, .int .u64 v2, .int .u64 v3, .int .i64 v4]) (.agg #[.int .u64 v1, .int .u64 v2, .int .u64 v3, .int .i64 v4])).run Try.prog w = .ok (.bool true) w := fun w => by have h := eql_at v1 v2 v3 v4 v1 v2 v3 v4 w; rw [decide_eq_true rfl] at h; exact h
    have gv : ∀ (op : BinOp) (a b : Operand) (w : World), Sem.run Try.prog (eqGuard op 24 a b (.agg #[.int .u64 v1, .int .u64 v2, .int .u64 v3, .int .i64 v4]) (.agg #[.int .u64 v1, .int .u64 v2, .int .u64 v3, .int .i64 v4])) w = .ok () w := fun op a b w => guard_at op a b v1 v2 v3 v4 v1 v2 v3 v4 w
    have hd : ∀ w, (binOp .eql 24 (.agg #[.int .u64 d1, .int .u64 d2, .int .u64 d3, .int .i64 d4]) (.agg #[.int .u64 d1, .int .u64 d2, .int .u64 d3, .int .i64 d4])).run Try.prog w = .ok (.bool true) w := fun w => by have h := eql_at d1 d2 d3 d4 d1 d2 d3 d4 w; rw [decide_eq_true rfl] at h; exact h
    have gd : ∀ (op : BinOp) (a b : Operand) (w : World), Sem.run Try.prog (eqGuard op 24 a b (.agg #[.int .u64 d1, .int .u64 d2, .int .u64 d3, .int .i64 d4]) (.agg #[.int .u64 d1, .int .u64 d2, .int .u64 d3, .int .i64 d4])) w = .ok () w := fun op a b w => guard_at op a b d1 d2 d3 d4 d1 d2 d3 d4 w
    have htm : ∀ w, (binOp .eql 27 (.agg #[.int .i64 ol, .int .i64 q2, .int .i64 q3, .int .i64 q4]) (.agg #[.int .i64 ol, .int .i64 q2, .int .i64 q3, .int .i64 q4])).run Try.prog w = .ok (.bool true) w := fun w => eql_tm ol q2 q3 q4 w
    have gtm : ∀ (op : BinOp) (a b : Operand) (w : World), Sem.run Try.prog (eqGuard op 27 a b (.agg #[.int .i64 ol, .int .i64 q2, .int .i64 q3, .int .i64 q4]) (.agg #[.int .i64 ol, .int .i64 q2, .int .i64 q3, .int .i64 q4])) w = .ok () w := fun op a b w => guard_tm op a b ol q2 q3 q4 w
    have bel := Lib.hid (Bx.bel_box (Bx.bel_box (Bx.box_below w (.cells #[.int .u64 m1, .int .u64 m2, .int .u64 m3, .int .i64 m4] 24)) (.cells #[.int .u64 n1, .int .u64 n2, .int .u64 n3, .int .i64 n4] 24)) (.cells #[.slice A n c, .int .u64 k, .int .i64 q1, .int .i64 q2, .int .i64 q3, .int .i64 q4] 29))
    have X0 : Hid (Bx.Blk (((w.alloc (.cells #[.int .u64 m1, .int .u64 m2, .int .u64 m3, .int .i64 m4] 24)).alloc (.cells #[.int .u64 n1, .int .u64 n2, .int .u64 n3, .int .i64 n4] 24)).alloc (.cells #[.slice A n c, .int .u64 k, .int .i64 q1, .int .i64 q2, .int .i64 q3, .int .i64 q4] 29)) w.heap.size [.int .u64 m1, .int .u64 m2, .int .u64 m3, .int .i64 m4]) := Lib.hid (((Bx.Blk.new w [.int .u64 m1, .int .u64 m2, .int .u64 m3, .int .i64 m4] 24).more _).more _)
    have Y0 : Hid (Bx.Blk (((w.alloc (.cells #[.int .u64 m1, .int .u64 m2, .int .u64 m3, .int .i64 m4] 24)).alloc (.cells #[.int .u64 n1, .int .u64 n2, .int .u64 n3, .int .i64 n4] 24)).alloc (.cells #[.slice A n c, .int .u64 k, .int .i64 q1, .int .i64 q2, .int .i64 q3, .int .i64 q4] 29)) (w.heap.size + 1) [.int .u64 n1, .int .u64 n2, .int .u64 n3, .int .i64 n4]) := Lib.hid ((Bx.Blk.new_at [.int .u64 n1, .int .u64 n2, .int .u64 n3, .int .i64 n4] 24 (by simp)).more _)
    have C0 : Hid (Bx.Blk (((w.alloc (.cells #[.int .u64 m1, .int .u64 m2, .int .u64 m3, .int .i64 m4] 24)).alloc (.cells #[.int .u64 n1, .int .u64 n2, .int .u64 n3, .int .i64 n4] 24)).alloc (.cells #[.slice A n c, .int .u64 k, .int .i64 q1, .int .i64 q2, .int .i64 q3, .int .i64 q4] 29)) (w.heap.size + 1 + 1) [.slice A n c, .int .u64 k, .int .i64 q1, .int .i64 q2, .int .i64 q3, .int .i64 q4]) := Lib.hid (Bx.Blk.new_at [.slice A n c, .int .u64 k, .int .i64 q1, .int .i64 q2, .int .i64 q3, .int .i64 q4] 29 (by simp))
    go_enter Try.func3, Try.ntmps3
    go_wp2
    generalize ((w.alloc (.cells #[.int .u64 m1, .int .u64 m2, .int .u64 m3, .int .i64 m4] 24)).alloc (.cells #[.int .u64 n1, .int .u64 n2, .int .u64 n3, .int .i64 n4] 24)).alloc (.cells #[.slice A n c, .int .u64 k, .int .i64 q1, .int .i64 q2, .int .i64 q3, .int .i64 q4] 29) = W0 at *
    replace bel := bel.out
    obtain ⟨a0, a1, a2, a3⟩ := X0.out.all4
    obtain ⟨b0, b1, b2, b3⟩ := Y0.out.all4
    obtain ⟨s0, s1, s2, s3, s4, s5⟩ := C0.out.all6
    refine wp_region_noPanic ?_
    refine wp_region_held_drew (S := fun w' => w'.cell? ⟨w.heap.size, 0, none⟩ = some (.int .u64 m1) ∧ w'.cell? ⟨w.heap.size, 1, none⟩ = some (.int .u64 m2) ∧ w'.cell? ⟨w.heap.size, 2, none⟩ = some (.int .u64 m3) ∧ w'.cell? ⟨w.heap.size, 3, none⟩ = some (.int .i64 m4) ∧ w'.cell? ⟨w.heap.size + 1, 0, none⟩ = some (.int .u64 n1) ∧ w'.cell? ⟨w.heap.size + 1, 1, none⟩ = some (.int .u64 n2) ∧ w'.cell? ⟨w.heap.size + 1, 2, none⟩ = some (.int .u64 n3) ∧ w'.cell? ⟨w.heap.size + 1, 3, none⟩ = some (.int .i64 n4) ∧ w'.cell? ⟨w.heap.size + 1 + 1, 0, none⟩ = some (.slice A n c) ∧ w'.cell? ⟨w.heap.size + 1 + 1, 1, none⟩ = some (.int .u64 k) ∧ w'.cell? ⟨w.heap.size + 1 + 1, 2, none⟩ = some (.int .i64 q1) ∧ w'.cell? ⟨w.heap.size + 1 + 1, 3, none⟩ = some (.int .i64 q2) ∧ w'.cell? ⟨w.heap.size + 1 + 1, 4, none⟩ = some (.int .i64 q3) ∧ w'.cell? ⟨w.heap.size + 1 + 1, 5, none⟩ = some (.int .i64 q4)) (by kernel_rfl) (by exact ⟨a0, a1, a2, a3, b0, b1, b2, b3, s0, s1, s2, s3, s4, s5⟩) (fun hHeld => ?_)
    replace bel := Bx.bel_drewn bel
    refine wpAnyH_take (i := 0) (oi := ?o0w) (v := ?v0w) ?hi0w (by kernel_rfl) (by kernel_rfl) (by kernel_rfl) (fun _ _ _ h => h) ?y0w (by assumption) ?r0w
    case hi0w => (simp only [List.getElem?_toArray, List.getElem?_cons_zero]; rfl)
    case y0w => (refine Or.inl ⟨by rfl, ?_⟩; intro w' hSw; (try dsimp only at hSw); go_simp; (try with_reducible rfl))
    try simp only [Act.put, List.setIfInBounds_toArray, List.set_cons_zero, List.set_cons_succ]
    refine wpAnyH_take (i := 1) (oi := ?o1w) (v := ?v1w) ?hi1w (by kernel_rfl) (by kernel_rfl) (by kernel_rfl) (fun _ _ _ h => h) ?y1w (by assumption) ?r1w
    case hi1w => (simp only [List.getElem?_toArray, List.getElem?_cons_succ, List.getElem?_cons_zero]; rfl)
    case y1w => (refine Or.inl ⟨by rfl, ?_⟩; intro w' hSw; (try dsimp only at hSw); go_simp; (try with_reducible rfl))
    try simp only [Act.put, List.setIfInBounds_toArray, List.set_cons_zero, List.set_cons_succ]
    refine wpAnyH_take (i := 3) (oi := ?o3w) (v := ?v3w) ?hi3w (by kernel_rfl) (by kernel_rfl) (by kernel_rfl) (fun _ _ _ h => h) ?y3w (by assumption) ?r3w
    case hi3w => (simp only [List.getElem?_toArray, List.getElem?_cons_succ, List.getElem?_cons_zero]; rfl)
    case y3w => (refine Or.inl ⟨by rfl, ?_⟩; intro w' hSw; (try dsimp only at hSw); go_simp; (try with_reducible rfl))
    try simp only [Act.put, List.setIfInBounds_toArray, List.set_cons_zero, List.set_cons_succ]
    refine wpAnyH_take (i := 4) (oi := ?o4w) (v := ?v4w) ?hi4w (by kernel_rfl) (by kernel_rfl) (by kernel_rfl) (fun _ _ _ h => h) ?y4w (by assumption) ?r4w
    case hi4w => (simp only [List.getElem?_toArray, List.getElem?_cons_succ, List.getElem?_cons_zero]; rfl)
    case y4w => (refine Or.inl ⟨by rfl, ?_⟩; intro w' hSw; (try dsimp only at hSw); go_simp; (try with_reducible rfl))
    try simp only [Act.put, List.setIfInBounds_toArray, List.set_cons_zero, List.set_cons_succ]
    refine wpAnyH_ready (rs := [2]) (by kernel_rfl) (by simp) ?_
    refine AllReadyH.cons (o := ?o2w) ?hi2w ?hst2w AllReadyH.nil
    case hi2w => (simp only [List.getElem?_toArray, List.getElem?_cons_succ, List.getElem?_cons_zero]; rfl)
    intro K hK
    go_simp
    (go_at_call 7; (with_reducible refine (HB1.out _ bel).mono ?_); rintro e w1 ⟨rfl, hb1⟩)
    go_wp2_with fail
    refine hK.out _ _ ⟨Bx.keep_cell hb1 hHeld.1, Bx.keep_cell hb1 hHeld.2.1, Bx.keep_cell hb1 hHeld.2.2.1, Bx.keep_cell hb1 hHeld.2.2.2.1, Bx.keep_cell hb1 hHeld.2.2.2.2.1, Bx.keep_cell hb1 hHeld.2.2.2.2.2.1, Bx.keep_cell hb1 hHeld.2.2.2.2.2.2.1, Bx.keep_cell hb1 hHeld.2.2.2.2.2.2.2.1, Bx.keep_cell hb1 hHeld.2.2.2.2.2.2.2.2.1, Bx.keep_cell hb1 hHeld.2.2.2.2.2.2.2.2.2.1, Bx.keep_cell hb1 hHeld.2.2.2.2.2.2.2.2.2.2.1, Bx.keep_cell hb1 hHeld.2.2.2.2.2.2.2.2.2.2.2.1, Bx.keep_cell hb1 hHeld.2.2.2.2.2.2.2.2.2.2.2.2.1, Bx.keep_cell hb1 hHeld.2.2.2.2.2.2.2.2.2.2.2.2.2⟩ (fun hNew => ?_)
    clear hHeld
    have hHeld := hNew
    clear hNew hK K
    replace bel := Bx.then_below bel hb1
    clear hb1
    refine wpAnyH_ready (rs := [5]) (by kernel_rfl) (by simp) ?_
    refine AllReadyH.cons (o := ?o5w) ?hi5w ?hst5w AllReadyH.nil
    case hi5w => (simp only [List.getElem?_toArray, List.getElem?_cons_succ, List.getElem?_cons_zero]; rfl)
    intro K hK
    go_simp
    (go_at_call 8; (with_reducible refine (HB2.out _ bel).mono ?_); rintro e w2 ⟨rfl, hb2⟩)
    go_wp2_with fail
    refine hK.out _ _ ⟨Bx.keep_cell hb2 hHeld.1, Bx.keep_cell hb2 hHeld.2.1, Bx.keep_cell hb2 hHeld.2.2.1, Bx.keep_cell hb2 hHeld.2.2.2.1, Bx.keep_cell hb2 hHeld.2.2.2.2.1, Bx.keep_cell hb2 hHeld.2.2.2.2.2.1, Bx.keep_cell hb2 hHeld.2.2.2.2.2.2.1, Bx.keep_cell hb2 hHeld.2.2.2.2.2.2.2.1, Bx.keep_cell hb2 hHeld.2.2.2.2.2.2.2.2.1, Bx.keep_cell hb2 hHeld.2.2.2.2.2.2.2.2.2.1, Bx.keep_cell hb2 hHeld.2.2.2.2.2.2.2.2.2.2.1, Bx.keep_cell hb2 hHeld.2.2.2.2.2.2.2.2.2.2.2.1, Bx.keep_cell hb2 hHeld.2.2.2.2.2.2.2.2.2.2.2.2.1, Bx.keep_cell hb2 hHeld.2.2.2.2.2.2.2.2.2.2.2.2.2⟩ (fun hNew => ?_)
    clear hHeld
    have hHeld := hNew
    clear hNew hK K
    replace bel := Bx.then_below bel hb2
    clear hb2
    refine wpAnyH_take (i := 6) (oi := ?o6w) (v := ?v6w) ?hi6w (by kernel_rfl) (by kernel_rfl) (by kernel_rfl) (fun _ _ _ h => h) ?y6w (by assumption) ?r6w
    case hi6w => (simp only [List.getElem?_toArray, List.getElem?_cons_succ, List.getElem?_cons_zero]; rfl)
    case y6w => (refine Or.inl ⟨by rfl, ?_⟩; intro w' hSw; (try dsimp only at hSw); go_simp; (try with_reducible rfl))
    try simp only [Act.put, List.setIfInBounds_toArray, List.set_cons_zero, List.set_cons_succ]
    refine wpAnyH_take (i := 7) (oi := ?o7w) (v := ?v7w) ?hi7w (by kernel_rfl) (by kernel_rfl) (by kernel_rfl) (fun _ _ _ h => h) ?y7w (by assumption) ?r7w
    case hi7w => (simp only [List.getElem?_toArray, List.getElem?_cons_succ, List.getElem?_cons_zero]; rfl)
    case y7w => (refine Or.inl ⟨by rfl, ?_⟩; intro w' hSw; (try dsimp only at hSw); go_simp; (try with_reducible rfl))
    try simp only [Act.put, List.setIfInBounds_toArray, List.set_cons_zero, List.set_cons_succ]
    refine wpAnyH_take (i := 8) (oi := ?o8w) (v := ?v8w) ?hi8w (by kernel_rfl) (by kernel_rfl) (by kernel_rfl) (fun _ _ _ h => h) ?y8w (by assumption) ?r8w
    case hi8w => (simp only [List.getElem?_toArray, List.getElem?_cons_succ, List.getElem?_cons_zero]; rfl)
    case y8w => (refine Or.inl ⟨by rfl, ?_⟩; intro w' hSw; (try dsimp only at hSw); go_simp; (try with_reducible rfl))
    try simp only [Act.put, List.setIfInBounds_toArray, List.set_cons_zero, List.set_cons_succ]
    refine wpAnyH_take (i := 9) (oi := ?o9w) (v := ?v9w) ?hi9w (by kernel_rfl) (by kernel_rfl) (by kernel_rfl) (fun _ _ _ h => h) ?y9w (by assumption) ?r9w
    case hi9w => (simp only [List.getElem?_toArray, List.getElem?_cons_succ, List.getElem?_cons_zero]; rfl)
    case y9w => (refine Or.inl ⟨by rfl, ?_⟩; intro w' hSw; (try dsimp only at hSw); go_simp; (try with_reducible rfl))
    try simp only [Act.put, List.setIfInBounds_toArray, List.set_cons_zero, List.set_cons_succ]
    refine wpAnyH_take (i := 11) (oi := ?o11w) (v := ?v11w) ?hi11w (by kernel_rfl) (by kernel_rfl) (by kernel_rfl) (fun _ _ _ h => h) ?y11w (by assumption) ?r11w
    case hi11w => (simp only [List.getElem?_toArray, List.getElem?_cons_succ, List.getElem?_cons_zero]; rfl)
    case y11w => (refine Or.inl ⟨by rfl, ?_⟩; intro w' hSw; (try dsimp only at hSw); go_simp; (try with_reducible rfl))
    try simp only [Act.put, List.setIfInBounds_toArray, List.set_cons_zero, List.set_cons_succ]
    refine wpAnyH_take (i := 12) (oi := ?o12w) (v := ?v12w) ?hi12w (by kernel_rfl) (by kernel_rfl) (by kernel_rfl) (fun _ _ _ h => h) ?y12w (by assumption) ?r12w
    case hi12w => (simp only [List.getElem?_toArray, List.getElem?_cons_succ, List.getElem?_cons_zero]; rfl)
    case y12w => (refine Or.inl ⟨by rfl, ?_⟩; intro w' hSw; (try dsimp only at hSw); go_simp; (try with_reducible rfl))
    try simp only [Act.put, List.setIfInBounds_toArray, List.set_cons_zero, List.set_cons_succ]
    refine wpAnyH_ready (rs := [10]) (by kernel_rfl) (by simp) ?_
    refine AllReadyH.cons (o := ?o10w) ?hi10w ?hst10w AllReadyH.nil
    case hi10w => (simp only [List.getElem?_toArray, List.getElem?_cons_succ, List.getElem?_cons_zero]; rfl)
    intro K hK
    go_simp
    (go_at_call 9; (with_reducible refine (HL1.out _ bel).mono ?_); rintro e w3 ⟨rfl, hb3⟩)
    go_wp2_with fail
    refine hK.out _ _ ⟨Bx.keep_cell hb3 hHeld.1, Bx.keep_cell hb3 hHeld.2.1, Bx.keep_cell hb3 hHeld.2.2.1, Bx.keep_cell hb3 hHeld.2.2.2.1, Bx.keep_cell hb3 hHeld.2.2.2.2.1, Bx.keep_cell hb3 hHeld.2.2.2.2.2.1, Bx.keep_cell hb3 hHeld.2.2.2.2.2.2.1, Bx.keep_cell hb3 hHeld.2.2.2.2.2.2.2.1, Bx.keep_cell hb3 hHeld.2.2.2.2.2.2.2.2.1, Bx.keep_cell hb3 hHeld.2.2.2.2.2.2.2.2.2.1, Bx.keep_cell hb3 hHeld.2.2.2.2.2.2.2.2.2.2.1, Bx.keep_cell hb3 hHeld.2.2.2.2.2.2.2.2.2.2.2.1, Bx.keep_cell hb3 hHeld.2.2.2.2.2.2.2.2.2.2.2.2.1, Bx.keep_cell hb3 hHeld.2.2.2.2.2.2.2.2.2.2.2.2.2⟩ (fun hNew => ?_)
    clear hHeld
    have hHeld := hNew
    clear hNew hK K
    replace bel := Bx.then_below bel hb3
    clear hb3
    refine wpAnyH_ready (rs := [13]) (by kernel_rfl) (by simp) ?_
    refine AllReadyH.cons (o := ?o13w) ?hi13w ?hst13w AllReadyH.nil
    case hi13w => (simp only [List.getElem?_toArray, List.getElem?_cons_succ, List.getElem?_cons_zero]; rfl)
    intro K hK
    go_simp
    (go_at_call 10; (with_reducible refine (HL2.out _ bel).mono ?_); rintro e w4 ⟨rfl, hb4⟩)
    go_wp2_with fail
    refine hK.out _ _ ⟨Bx.keep_cell hb4 hHeld.1, Bx.keep_cell hb4 hHeld.2.1, Bx.keep_cell hb4 hHeld.2.2.1, Bx.keep_cell hb4 hHeld.2.2.2.1, Bx.keep_cell hb4 hHeld.2.2.2.2.1, Bx.keep_cell hb4 hHeld.2.2.2.2.2.1, Bx.keep_cell hb4 hHeld.2.2.2.2.2.2.1, Bx.keep_cell hb4 hHeld.2.2.2.2.2.2.2.1, Bx.keep_cell hb4 hHeld.2.2.2.2.2.2.2.2.1, Bx.keep_cell hb4 hHeld.2.2.2.2.2.2.2.2.2.1, Bx.keep_cell hb4 hHeld.2.2.2.2.2.2.2.2.2.2.1, Bx.keep_cell hb4 hHeld.2.2.2.2.2.2.2.2.2.2.2.1, Bx.keep_cell hb4 hHeld.2.2.2.2.2.2.2.2.2.2.2.2.1, Bx.keep_cell hb4 hHeld.2.2.2.2.2.2.2.2.2.2.2.2.2⟩ (fun hNew => ?_)
    clear hHeld
    have hHeld := hNew
    clear hNew hK K
    replace bel := Bx.then_below bel hb4
    clear hb4
    refine wpAnyH_take (i := 14) (oi := ?o14w) (v := ?v14w) ?hi14w (by kernel_rfl) (by kernel_rfl) (by kernel_rfl) (fun _ _ _ h => h) ?y14w (by assumption) ?r14w
    case hi14w => (simp only [List.getElem?_toArray, List.getElem?_cons_succ, List.getElem?_cons_zero]; rfl)
    case y14w => (refine Or.inl ⟨by rfl, ?_⟩; intro w' hSw; (try dsimp only at hSw); go_simp; (try with_reducible rfl))
    try simp only [Act.put, List.setIfInBounds_toArray, List.set_cons_zero, List.set_cons_succ]
    refine wpAnyH_take (i := 15) (oi := ?o15w) (v := ?v15w) ?hi15w (by kernel_rfl) (by kernel_rfl) (by kernel_rfl) (fun _ _ _ h => h) ?y15w (by assumption) ?r15w
    case hi15w => (simp only [List.getElem?_toArray, List.getElem?_cons_succ, List.getElem?_cons_zero]; rfl)
    case y15w => (refine Or.inl ⟨by rfl, ?_⟩; intro w' hSw; (try dsimp only at hSw); go_simp; (try with_reducible rfl))
    try simp only [Act.put, List.setIfInBounds_toArray, List.set_cons_zero, List.set_cons_succ]
    refine wpAnyH_take (i := 16) (oi := ?o16w) (v := ?v16w) ?hi16w (by kernel_rfl) (by kernel_rfl) (by kernel_rfl) (fun _ _ _ h => h) ?y16w (by assumption) ?r16w
    case hi16w => (simp only [List.getElem?_toArray, List.getElem?_cons_succ, List.getElem?_cons_zero]; rfl)
    case y16w => (refine Or.inl ⟨by rfl, ?_⟩; intro w' hSw; (try dsimp only at hSw); go_simp; (try with_reducible rfl))
    try simp only [Act.put, List.setIfInBounds_toArray, List.set_cons_zero, List.set_cons_succ]
    refine wpAnyH_take (i := 17) (oi := ?o17w) (v := ?v17w) ?hi17w (by kernel_rfl) (by kernel_rfl) (by kernel_rfl) (fun _ _ _ h => h) ?y17w (by assumption) ?r17w
    case hi17w => (simp only [List.getElem?_toArray, List.getElem?_cons_succ, List.getElem?_cons_zero]; rfl)
    case y17w => (refine Or.inl ⟨by rfl, ?_⟩; intro w' hSw; (try dsimp only at hSw); go_simp; (try with_reducible rfl))
    try simp only [Act.put, List.setIfInBounds_toArray, List.set_cons_zero, List.set_cons_succ]
    refine wpAnyH_take (i := 18) (oi := ?o18w) (v := ?v18w) ?hi18w (by kernel_rfl) (by kernel_rfl) (by kernel_rfl) (fun _ _ _ h => h) ?y18w (by assumption) ?r18w
    case hi18w => (simp only [List.getElem?_toArray, List.getElem?_cons_succ, List.getElem?_cons_zero]; rfl)
    case y18w => (refine Or.inl ⟨by rfl, ?_⟩; intro w' hSw; (try dsimp only at hSw); go_simp; (try with_reducible rfl))
    try simp only [Act.put, List.setIfInBounds_toArray, List.set_cons_zero, List.set_cons_succ]
    refine wpAnyH_take (i := 20) (oi := ?o20w) (v := ?v20w) ?hi20w (by kernel_rfl) (by kernel_rfl) (by kernel_rfl) (fun _ _ _ h => h) ?y20w (by assumption) ?r20w
    case hi20w => (simp only [List.getElem?_toArray, List.getElem?_cons_succ, List.getElem?_cons_zero]; rfl)
    case y20w => (refine Or.inl ⟨by rfl, ?_⟩; intro w' hSw; (try dsimp only at hSw); go_simp; (try with_reducible rfl))
    try simp only [Act.put, List.setIfInBounds_toArray, List.set_cons_zero, List.set_cons_succ]
    refine wpAnyH_take (i := 21) (oi := ?o21w) (v := ?v21w) ?hi21w (by kernel_rfl) (by kernel_rfl) (by kernel_rfl) (fun _ _ _ h => h) ?y21w (by assumption) ?r21w
    case hi21w => (simp only [List.getElem?_toArray, List.getElem?_cons_succ, List.getElem?_cons_zero]; rfl)
    case y21w => (refine Or.inl ⟨by rfl, ?_⟩; intro w' hSw; (try dsimp only at hSw); go_simp; (try with_reducible rfl))
    try simp only [Act.put, List.setIfInBounds_toArray, List.set_cons_zero, List.set_cons_succ]
    refine wpAnyH_ready (rs := [19]) (by kernel_rfl) (by simp) ?_
    refine AllReadyH.cons (o := ?o19w) ?hi19w ?hst19w AllReadyH.nil
    case hi19w => (simp only [List.getElem?_toArray, List.getElem?_cons_succ, List.getElem?_cons_zero]; rfl)
    intro K hK
    go_simp
    (go_at_call 11; (with_reducible refine (HO1.out _ bel).mono ?_); rintro e w5 ⟨rfl, hb5⟩)
    go_wp2_with fail
    refine hK.out _ _ ⟨Bx.keep_cell hb5 hHeld.1, Bx.keep_cell hb5 hHeld.2.1, Bx.keep_cell hb5 hHeld.2.2.1, Bx.keep_cell hb5 hHeld.2.2.2.1, Bx.keep_cell hb5 hHeld.2.2.2.2.1, Bx.keep_cell hb5 hHeld.2.2.2.2.2.1, Bx.keep_cell hb5 hHeld.2.2.2.2.2.2.1, Bx.keep_cell hb5 hHeld.2.2.2.2.2.2.2.1, Bx.keep_cell hb5 hHeld.2.2.2.2.2.2.2.2.1, Bx.keep_cell hb5 hHeld.2.2.2.2.2.2.2.2.2.1, Bx.keep_cell hb5 hHeld.2.2.2.2.2.2.2.2.2.2.1, Bx.keep_cell hb5 hHeld.2.2.2.2.2.2.2.2.2.2.2.1, Bx.keep_cell hb5 hHeld.2.2.2.2.2.2.2.2.2.2.2.2.1, Bx.keep_cell hb5 hHeld.2.2.2.2.2.2.2.2.2.2.2.2.2⟩ (fun hNew => ?_)
    clear hHeld
    have hHeld := hNew
    clear hNew hK K
    replace bel := Bx.then_below bel hb5
    clear hb5
    refine wpAnyH_ready (rs := [22]) (by kernel_rfl) (by simp) ?_
    refine AllReadyH.cons (o := ?o22w) ?hi22w ?hst22w AllReadyH.nil
    case hi22w => (simp only [List.getElem?_toArray, List.getElem?_cons_succ, List.getElem?_cons_zero]; rfl)
    intro K hK
    go_simp
    (go_at_call 12; (with_reducible refine (HO2.out _ bel).mono ?_); rintro e w6 ⟨rfl, hb6⟩)
    go_wp2_with fail
    refine hK.out _ _ ⟨Bx.keep_cell hb6 hHeld.1, Bx.keep_cell hb6 hHeld.2.1, Bx.keep_cell hb6 hHeld.2.2.1, Bx.keep_cell hb6 hHeld.2.2.2.1, Bx.keep_cell hb6 hHeld.2.2.2.2.1, Bx.keep_cell hb6 hHeld.2.2.2.2.2.1, Bx.keep_cell hb6 hHeld.2.2.2.2.2.2.1, Bx.keep_cell hb6 hHeld.2.2.2.2.2.2.2.1, Bx.keep_cell hb6 hHeld.2.2.2.2.2.2.2.2.1, Bx.keep_cell hb6 hHeld.2.2.2.2.2.2.2.2.2.1, Bx.keep_cell hb6 hHeld.2.2.2.2.2.2.2.2.2.2.1, Bx.keep_cell hb6 hHeld.2.2.2.2.2.2.2.2.2.2.2.1, Bx.keep_cell hb6 hHeld.2.2.2.2.2.2.2.2.2.2.2.2.1, Bx.keep_cell hb6 hHeld.2.2.2.2.2.2.2.2.2.2.2.2.2⟩ (fun hNew => ?_)
    clear hHeld
    have hHeld := hNew
    clear hNew hK K
    replace bel := Bx.then_below bel hb6
    clear hb6
    refine wpAnyH_take (i := 23) (oi := ?o23w) (v := ?v23w) ?hi23w (by kernel_rfl) (by kernel_rfl) (by kernel_rfl) (fun _ _ _ h => h) ?y23w (by assumption) ?r23w
    case hi23w => (simp only [List.getElem?_toArray, List.getElem?_cons_succ, List.getElem?_cons_zero]; rfl)
    case y23w => (refine Or.inl ⟨by rfl, ?_⟩; intro w' hSw; (try dsimp only at hSw); go_simp; (try with_reducible rfl))
    try simp only [Act.put, List.setIfInBounds_toArray, List.set_cons_zero, List.set_cons_succ]
    refine wpAnyH_take (i := 24) (oi := ?o24w) (v := ?v24w) ?hi24w (by kernel_rfl) (by kernel_rfl) (by kernel_rfl) (fun _ _ _ h => h) ?y24w (by assumption) ?r24w
    case hi24w => (simp only [List.getElem?_toArray, List.getElem?_cons_succ, List.getElem?_cons_zero]; rfl)
    case y24w => (refine Or.inl ⟨by rfl, ?_⟩; intro w' hSw; (try dsimp only at hSw); go_simp; (try with_reducible rfl))
    try simp only [Act.put, List.setIfInBounds_toArray, List.set_cons_zero, List.set_cons_succ]
    refine wpAnyH_take (i := 25) (oi := ?o25w) (v := ?v25w) ?hi25w (by kernel_rfl) (by kernel_rfl) (by kernel_rfl) (fun _ _ _ h => h) ?y25w (by assumption) ?r25w
    case hi25w => (simp only [List.getElem?_toArray, List.getElem?_cons_succ, List.getElem?_cons_zero]; rfl)
    case y25w => (refine Or.inl ⟨by rfl, ?_⟩; intro w' hSw; (try dsimp only at hSw); go_simp; (try with_reducible rfl))
    try simp only [Act.put, List.setIfInBounds_toArray, List.set_cons_zero, List.set_cons_succ]
    refine wpAnyH_take (i := 26) (oi := ?o26w) (v := ?v26w) ?hi26w (by kernel_rfl) (by kernel_rfl) (by kernel_rfl) (fun _ _ _ h => h) ?y26w (by assumption) ?r26w
    case hi26w => (simp only [List.getElem?_toArray, List.getElem?_cons_succ, List.getElem?_cons_zero]; rfl)
    case y26w => (refine Or.inl ⟨by rfl, ?_⟩; intro w' hSw; (try dsimp only at hSw); go_simp; (try with_reducible rfl))
    try simp only [Act.put, List.setIfInBounds_toArray, List.set_cons_zero, List.set_cons_succ]
    refine wpAnyH_take (i := 27) (oi := ?o27w) (v := ?v27w) ?hi27w (by kernel_rfl) (by kernel_rfl) (by kernel_rfl) (fun _ _ _ h => h) ?y27w (by assumption) ?r27w
    case hi27w => (simp only [List.getElem?_toArray, List.getElem?_cons_succ, List.getElem?_cons_zero]; rfl)
    case y27w => (refine Or.inl ⟨by rfl, ?_⟩; intro w' hSw; (try dsimp only at hSw); go_simp; (try with_reducible rfl))
    try simp only [Act.put, List.setIfInBounds_toArray, List.set_cons_zero, List.set_cons_succ]
    refine wpAnyH_take (i := 28) (oi := ?o28w) (v := ?v28w) ?hi28w (by kernel_rfl) (by kernel_rfl) (by kernel_rfl) (fun _ _ _ h => h) ?y28w (by assumption) ?r28w
    case hi28w => (simp only [List.getElem?_toArray, List.getElem?_cons_succ, List.getElem?_cons_zero]; rfl)
    case y28w => (refine Or.inl ⟨by rfl, ?_⟩; intro w' hSw; (try dsimp only at hSw); go_simp; (try with_reducible rfl))
    try simp only [Act.put, List.setIfInBounds_toArray, List.set_cons_zero, List.set_cons_succ]
    refine wpAnyH_take (i := 30) (oi := ?o30w) (v := ?v30w) ?hi30w (by kernel_rfl) (by kernel_rfl) (by kernel_rfl) (fun _ _ _ h => h) ?y30w (by assumption) ?r30w
    case hi30w => (simp only [List.getElem?_toArray, List.getElem?_cons_succ, List.getElem?_cons_zero]; rfl)
    case y30w => (refine Or.inl ⟨by rfl, ?_⟩; intro w' hSw; (try dsimp only at hSw); go_simp; (try with_reducible rfl))
    try simp only [Act.put, List.setIfInBounds_toArray, List.set_cons_zero, List.set_cons_succ]
    refine wpAnyH_take (i := 31) (oi := ?o31w) (v := ?v31w) ?hi31w (by kernel_rfl) (by kernel_rfl) (by kernel_rfl) (fun _ _ _ h => h) ?y31w (by assumption) ?r31w
    case hi31w => (simp only [List.getElem?_toArray, List.getElem?_cons_succ, List.getElem?_cons_zero]; rfl)
    case y31w => (refine Or.inl ⟨by rfl, ?_⟩; intro w' hSw; (try dsimp only at hSw); go_simp; (try with_reducible rfl))
    try simp only [Act.put, List.setIfInBounds_toArray, List.set_cons_zero, List.set_cons_succ]
    refine wpAnyH_take (i := 32) (oi := ?o32w) (v := ?v32w) ?hi32w (by kernel_rfl) (by kernel_rfl) (by kernel_rfl) (fun _ _ _ h => h) ?y32w (by assumption) ?r32w
    case hi32w => (simp only [List.getElem?_toArray, List.getElem?_cons_succ, List.getElem?_cons_zero]; rfl)
    case y32w => (refine Or.inl ⟨by rfl, ?_⟩; intro w' hSw; (try dsimp only at hSw); go_simp; (try with_reducible rfl))
    try simp only [Act.put, List.setIfInBounds_toArray, List.set_cons_zero, List.set_cons_succ]
    refine wpAnyH_ready (rs := [29]) (by kernel_rfl) (by simp) ?_
    refine AllReadyH.cons (o := ?o29w) ?hi29w ?hst29w AllReadyH.nil
    case hi29w => (simp only [List.getElem?_toArray, List.getElem?_cons_succ, List.getElem?_cons_zero]; rfl)
    intro K hK
    go_simp
    (go_at_call 13; (with_reducible refine (HV1.out _ bel).mono ?_); rintro e w7 ⟨rfl, hb7⟩)
    go_wp2_with fail
    refine hK.out _ _ ⟨Bx.keep_cell hb7 hHeld.1, Bx.keep_cell hb7 hHeld.2.1, Bx.keep_cell hb7 hHeld.2.2.1, Bx.keep_cell hb7 hHeld.2.2.2.1, Bx.keep_cell hb7 hHeld.2.2.2.2.1, Bx.keep_cell hb7 hHeld.2.2.2.2.2.1, Bx.keep_cell hb7 hHeld.2.2.2.2.2.2.1, Bx.keep_cell hb7 hHeld.2.2.2.2.2.2.2.1, Bx.keep_cell hb7 hHeld.2.2.2.2.2.2.2.2.1, Bx.keep_cell hb7 hHeld.2.2.2.2.2.2.2.2.2.1, Bx.keep_cell hb7 hHeld.2.2.2.2.2.2.2.2.2.2.1, Bx.keep_cell hb7 hHeld.2.2.2.2.2.2.2.2.2.2.2.1, Bx.keep_cell hb7 hHeld.2.2.2.2.2.2.2.2.2.2.2.2.1, Bx.keep_cell hb7 hHeld.2.2.2.2.2.2.2.2.2.2.2.2.2⟩ (fun hNew => ?_)
    clear hHeld
    have hHeld := hNew
    clear hNew hK K
    replace bel := Bx.then_below bel hb7
    clear hb7
    refine wpAnyH_ready (rs := [33]) (by kernel_rfl) (by simp) ?_
    refine AllReadyH.cons (o := ?o33w) ?hi33w ?hst33w AllReadyH.nil
    case hi33w => (simp only [List.getElem?_toArray, List.getElem?_cons_succ, List.getElem?_cons_zero]; rfl)
    intro K hK
    go_simp
    (go_at_call 14; (with_reducible refine (HV2.out _ bel).mono ?_); rintro e w8 ⟨rfl, hb8⟩)
    go_wp2_with fail
    refine hK.out _ _ ⟨Bx.keep_cell hb8 hHeld.1, Bx.keep_cell hb8 hHeld.2.1, Bx.keep_cell hb8 hHeld.2.2.1, Bx.keep_cell hb8 hHeld.2.2.2.1, Bx.keep_cell hb8 hHeld.2.2.2.2.1, Bx.keep_cell hb8 hHeld.2.2.2.2.2.1, Bx.keep_cell hb8 hHeld.2.2.2.2.2.2.1, Bx.keep_cell hb8 hHeld.2.2.2.2.2.2.2.1, Bx.keep_cell hb8 hHeld.2.2.2.2.2.2.2.2.1, Bx.keep_cell hb8 hHeld.2.2.2.2.2.2.2.2.2.1, Bx.keep_cell hb8 hHeld.2.2.2.2.2.2.2.2.2.2.1, Bx.keep_cell hb8 hHeld.2.2.2.2.2.2.2.2.2.2.2.1, Bx.keep_cell hb8 hHeld.2.2.2.2.2.2.2.2.2.2.2.2.1, Bx.keep_cell hb8 hHeld.2.2.2.2.2.2.2.2.2.2.2.2.2⟩ (fun hNew => ?_)
    clear hHeld
    have hHeld := hNew
    clear hNew hK K
    replace bel := Bx.then_below bel hb8
    clear hb8
    refine wpAnyH_take (i := 34) (oi := ?o34w) (v := ?v34w) ?hi34w (by kernel_rfl) (by kernel_rfl) (by kernel_rfl) (fun _ _ _ h => h) ?y34w (by assumption) ?r34w
    case hi34w => (simp only [List.getElem?_toArray, List.getElem?_cons_succ, List.getElem?_cons_zero]; rfl)
    case y34w => (refine Or.inl ⟨by rfl, ?_⟩; intro w' hSw; (try dsimp only at hSw); go_simp; (try with_reducible rfl))
    try simp only [Act.put, List.setIfInBounds_toArray, List.set_cons_zero, List.set_cons_succ]
    refine wpAnyH_take (i := 35) (oi := ?o35w) (v := ?v35w) ?hi35w (by kernel_rfl) (by kernel_rfl) (by kernel_rfl) (fun _ _ _ h => h) ?y35w (by assumption) ?r35w
    case hi35w => (simp only [List.getElem?_toArray, List.getElem?_cons_succ, List.getElem?_cons_zero]; rfl)
    case y35w => (refine Or.inl ⟨by rfl, ?_⟩; intro w' hSw; (try dsimp only at hSw); go_simp; (try with_reducible rfl))
    try simp only [Act.put, List.setIfInBounds_toArray, List.set_cons_zero, List.set_cons_succ]
    refine wpAnyH_take (i := 36) (oi := ?o36w) (v := ?v36w) ?hi36w (by kernel_rfl) (by kernel_rfl) (by kernel_rfl) (fun _ _ _ h => h) ?y36w (by assumption) ?r36w
    case hi36w => (simp only [List.getElem?_toArray, List.getElem?_cons_succ, List.getElem?_cons_zero]; rfl)
    case y36w => (refine Or.inl ⟨by rfl, ?_⟩; intro w' hSw; (try dsimp only at hSw); go_simp; (try with_reducible rfl))
    try simp only [Act.put, List.setIfInBounds_toArray, List.set_cons_zero, List.set_cons_succ]
    refine wpAnyH_take (i := 37) (oi := ?o37w) (v := ?v37w) ?hi37w (by kernel_rfl) (by kernel_rfl) (by kernel_rfl) (fun _ _ _ h => h) ?y37w (by assumption) ?r37w
    case hi37w => (simp only [List.getElem?_toArray, List.getElem?_cons_succ, List.getElem?_cons_zero]; rfl)
    case y37w => (refine Or.inl ⟨by rfl, ?_⟩; intro w' hSw; (try dsimp only at hSw); go_simp; (try with_reducible rfl))
    try simp only [Act.put, List.setIfInBounds_toArray, List.set_cons_zero, List.set_cons_succ]
    refine wpAnyH_take (i := 38) (oi := ?o38w) (v := ?v38w) ?hi38w (by kernel_rfl) (by kernel_rfl) (by kernel_rfl) (fun _ _ _ h => h) ?y38w (by assumption) ?r38w
    case hi38w => (simp only [List.getElem?_toArray, List.getElem?_cons_succ, List.getElem?_cons_zero]; rfl)
    case y38w => (refine Or.inl ⟨by rfl, ?_⟩; intro w' hSw; (try dsimp only at hSw); go_simp; (try with_reducible rfl))
    try simp only [Act.put, List.setIfInBounds_toArray, List.set_cons_zero, List.set_cons_succ]
    refine wpAnyH_take (i := 39) (oi := ?o39w) (v := ?v39w) ?hi39w (by kernel_rfl) (by kernel_rfl) (by kernel_rfl) (fun _ _ _ h => h) ?y39w (by assumption) ?r39w
    case hi39w => (simp only [List.getElem?_toArray, List.getElem?_cons_succ, List.getElem?_cons_zero]; rfl)
    case y39w => (refine Or.inl ⟨by rfl, ?_⟩; intro w' hSw; (try dsimp only at hSw); go_simp; (try with_reducible rfl))
    try simp only [Act.put, List.setIfInBounds_toArray, List.set_cons_zero, List.set_cons_succ]
    refine wpAnyH_take (i := 40) (oi := ?o40w) (v := ?v40w) ?hi40w (by kernel_rfl) (by kernel_rfl) (by kernel_rfl) (fun _ _ _ h => h) ?y40w (by assumption) ?r40w
    case hi40w => (simp only [List.getElem?_toArray, List.getElem?_cons_succ, List.getElem?_cons_zero]; rfl)
    case y40w => (refine Or.inl ⟨by rfl, ?_⟩; intro w' hSw; (try dsimp only at hSw); go_simp; (try with_reducible rfl))
    try simp only [Act.put, List.setIfInBounds_toArray, List.set_cons_zero, List.set_cons_succ]
    refine wpAnyH_take (i := 41) (oi := ?o41w) (v := ?v41w) ?hi41w (by kernel_rfl) (by kernel_rfl) (by kernel_rfl) (fun _ _ _ h => h) ?y41w (by assumption) ?r41w
    case hi41w => (simp only [List.getElem?_toArray, List.getElem?_cons_succ, List.getElem?_cons_zero]; rfl)
    case y41w => (refine Or.inl ⟨by rfl, ?_⟩; intro w' hSw; (try dsimp only at hSw); go_simp; (try with_reducible rfl))
    try simp only [Act.put, List.setIfInBounds_toArray, List.set_cons_zero, List.set_cons_succ]
    refine wpAnyH_take (i := 43) (oi := ?o43w) (v := ?v43w) ?hi43w (by kernel_rfl) (by kernel_rfl) (by kernel_rfl) (fun _ _ _ h => h) ?y43w (by assumption) ?r43w
    case hi43w => (simp only [List.getElem?_toArray, List.getElem?_cons_succ, List.getElem?_cons_zero]; rfl)
    case y43w => (refine Or.inl ⟨by rfl, ?_⟩; intro w' hSw; (try dsimp only at hSw); go_simp; (try with_reducible rfl))
    try simp only [Act.put, List.setIfInBounds_toArray, List.set_cons_zero, List.set_cons_succ]
    refine wpAnyH_take (i := 44) (oi := ?o44w) (v := ?v44w) ?hi44w (by kernel_rfl) (by kernel_rfl) (by kernel_rfl) (fun _ _ _ h => h) ?y44w (by assumption) ?r44w
    case hi44w => (simp only [List.getElem?_toArray, List.getElem?_cons_succ, List.getElem?_cons_zero]; rfl)
    case y44w => (refine Or.inl ⟨by rfl, ?_⟩; intro w' hSw; (try dsimp only at hSw); go_simp; (try with_reducible rfl))
    try simp only [Act.put, List.setIfInBounds_toArray, List.set_cons_zero, List.set_cons_succ]
    refine wpAnyH_take (i := 45) (oi := ?o45w) (v := ?v45w) ?hi45w (by kernel_rfl) (by kernel_rfl) (by kernel_rfl) (fun _ _ _ h => h) ?y45w (by assumption) ?r45w
    case hi45w => (simp only [List.getElem?_toArray, List.getElem?_cons_succ, List.getElem?_cons_zero]; rfl)
    case y45w => (refine Or.inl ⟨by rfl, ?_⟩; intro w' hSw; (try dsimp only at hSw); go_simp; (try with_reducible rfl))
    try simp only [Act.put, List.setIfInBounds_toArray, List.set_cons_zero, List.set_cons_succ]
    refine wpAnyH_take (i := 46) (oi := ?o46w) (v := ?v46w) ?hi46w (by kernel_rfl) (by kernel_rfl) (by kernel_rfl) (fun _ _ _ h => h) ?y46w (by assumption) ?r46w
    case hi46w => (simp only [List.getElem?_toArray, List.getElem?_cons_succ, List.getElem?_cons_zero]; rfl)
    case y46w => (refine Or.inl ⟨by rfl, ?_⟩; intro w' hSw; (try dsimp only at hSw); go_simp; (try with_reducible rfl))
    try simp only [Act.put, List.setIfInBounds_toArray, List.set_cons_zero, List.set_cons_succ]
    refine wpAnyH_take (i := 47) (oi := ?o47w) (v := ?v47w) ?hi47w (by kernel_rfl) (by kernel_rfl) (by kernel_rfl) (fun _ _ _ h => h) ?y47w (by assumption) ?r47w
    case hi47w => (simp only [List.getElem?_toArray, List.getElem?_cons_succ, List.getElem?_cons_zero]; rfl)
    case y47w => (refine Or.inl ⟨by rfl, ?_⟩; intro w' hSw; (try dsimp only at hSw); go_simp; (try with_reducible rfl))
    try simp only [Act.put, List.setIfInBounds_toArray, List.set_cons_zero, List.set_cons_succ]
    refine wpAnyH_ready (rs := [42]) (by kernel_rfl) (by simp) ?_
    refine AllReadyH.cons (o := ?o42w) ?hi42w ?hst42w AllReadyH.nil
    case hi42w => (simp only [List.getElem?_toArray, List.getElem?_cons_succ, List.getElem?_cons_zero]; rfl)
    intro K hK
    go_simp
    (go_at_call 15; (with_reducible refine (HD1.out _ bel).mono ?_); rintro e w9 ⟨rfl, hb9⟩)
    go_wp2_with fail
    refine hK.out _ _ ⟨Bx.keep_cell hb9 hHeld.1, Bx.keep_cell hb9 hHeld.2.1, Bx.keep_cell hb9 hHeld.2.2.1, Bx.keep_cell hb9 hHeld.2.2.2.1, Bx.keep_cell hb9 hHeld.2.2.2.2.1, Bx.keep_cell hb9 hHeld.2.2.2.2.2.1, Bx.keep_cell hb9 hHeld.2.2.2.2.2.2.1, Bx.keep_cell hb9 hHeld.2.2.2.2.2.2.2.1, Bx.keep_cell hb9 hHeld.2.2.2.2.2.2.2.2.1, Bx.keep_cell hb9 hHeld.2.2.2.2.2.2.2.2.2.1, Bx.keep_cell hb9 hHeld.2.2.2.2.2.2.2.2.2.2.1, Bx.keep_cell hb9 hHeld.2.2.2.2.2.2.2.2.2.2.2.1, Bx.keep_cell hb9 hHeld.2.2.2.2.2.2.2.2.2.2.2.2.1, Bx.keep_cell hb9 hHeld.2.2.2.2.2.2.2.2.2.2.2.2.2⟩ (fun hNew => ?_)
    clear hHeld
    have hHeld := hNew
    clear hNew hK K
    replace bel := Bx.then_below bel hb9
    clear hb9
    refine wpAnyH_ready (rs := [48]) (by kernel_rfl) (by simp) ?_
    refine AllReadyH.cons (o := ?o48w) ?hi48w ?hst48w AllReadyH.nil
    case hi48w => (simp only [List.getElem?_toArray, List.getElem?_cons_succ, List.getElem?_cons_zero]; rfl)
    intro K hK
    go_simp
    (go_at_call 16; (with_reducible refine (HD2.out _ bel).mono ?_); rintro e w10 ⟨rfl, hb10⟩)
    go_wp2_with fail
    refine hK.out _ _ ⟨Bx.keep_cell hb10 hHeld.1, Bx.keep_cell hb10 hHeld.2.1, Bx.keep_cell hb10 hHeld.2.2.1, Bx.keep_cell hb10 hHeld.2.2.2.1, Bx.keep_cell hb10 hHeld.2.2.2.2.1, Bx.keep_cell hb10 hHeld.2.2.2.2.2.1, Bx.keep_cell hb10 hHeld.2.2.2.2.2.2.1, Bx.keep_cell hb10 hHeld.2.2.2.2.2.2.2.1, Bx.keep_cell hb10 hHeld.2.2.2.2.2.2.2.2.1, Bx.keep_cell hb10 hHeld.2.2.2.2.2.2.2.2.2.1, Bx.keep_cell hb10 hHeld.2.2.2.2.2.2.2.2.2.2.1, Bx.keep_cell hb10 hHeld.2.2.2.2.2.2.2.2.2.2.2.1, Bx.keep_cell hb10 hHeld.2.2.2.2.2.2.2.2.2.2.2.2.1, Bx.keep_cell hb10 hHeld.2.2.2.2.2.2.2.2.2.2.2.2.2⟩ (fun hNew => ?_)
    clear hHeld
    have hHeld := hNew
    clear hNew hK K
    replace bel := Bx.then_below bel hb10
    clear hb10
    refine wpAnyH_take (i := 49) (oi := ?o49w) (v := ?v49w) ?hi49w (by kernel_rfl) (by kernel_rfl) (by kernel_rfl) (fun _ _ _ h => h) ?y49w (by assumption) ?r49w
    case hi49w => (simp only [List.getElem?_toArray, List.getElem?_cons_succ, List.getElem?_cons_zero]; rfl)
    case y49w => (refine Or.inl ⟨by rfl, ?_⟩; intro w' hSw; (try dsimp only at hSw); go_simp; (try with_reducible rfl))
    try simp only [Act.put, List.setIfInBounds_toArray, List.set_cons_zero, List.set_cons_succ]
    refine wpAnyH_take (i := 50) (oi := ?o50w) (v := ?v50w) ?hi50w (by kernel_rfl) (by kernel_rfl) (by kernel_rfl) (fun _ _ _ h => h) ?y50w (by assumption) ?r50w
    case hi50w => (simp only [List.getElem?_toArray, List.getElem?_cons_succ, List.getElem?_cons_zero]; rfl)
    case y50w => (refine Or.inl ⟨by rfl, ?_⟩; intro w' hSw; (try dsimp only at hSw); go_simp; (try with_reducible rfl))
    try simp only [Act.put, List.setIfInBounds_toArray, List.set_cons_zero, List.set_cons_succ]
    refine wpAnyH_take (i := 51) (oi := ?o51w) (v := ?v51w) ?hi51w (by kernel_rfl) (by kernel_rfl) (by kernel_rfl) (fun _ _ _ h => h) ?y51w (by assumption) ?r51w
    case hi51w => (simp only [List.getElem?_toArray, List.getElem?_cons_succ, List.getElem?_cons_zero]; rfl)
    case y51w => (refine Or.inl ⟨by rfl, ?_⟩; intro w' hSw; (try dsimp only at hSw); go_simp; (try with_reducible rfl))
    try simp only [Act.put, List.setIfInBounds_toArray, List.set_cons_zero, List.set_cons_succ]
    refine wpAnyH_take (i := 52) (oi := ?o52w) (v := ?v52w) ?hi52w (by kernel_rfl) (by kernel_rfl) (by kernel_rfl) (fun _ _ _ h => h) ?y52w (by assumption) ?r52w
    case hi52w => (simp only [List.getElem?_toArray, List.getElem?_cons_succ, List.getElem?_cons_zero]; rfl)
    case y52w => (refine Or.inl ⟨by rfl, ?_⟩; intro w' hSw; (try dsimp only at hSw); go_simp; (try with_reducible rfl))
    try simp only [Act.put, List.setIfInBounds_toArray, List.set_cons_zero, List.set_cons_succ]
    refine wpAnyH_take (i := 53) (oi := ?o53w) (v := ?v53w) ?hi53w (by kernel_rfl) (by kernel_rfl) (by kernel_rfl) (fun _ _ _ h => h) ?y53w (by assumption) ?r53w
    case hi53w => (simp only [List.getElem?_toArray, List.getElem?_cons_succ, List.getElem?_cons_zero]; rfl)
    case y53w => (refine Or.inl ⟨by rfl, ?_⟩; intro w' hSw; (try dsimp only at hSw); go_simp; (try with_reducible rfl))
    try simp only [Act.put, List.setIfInBounds_toArray, List.set_cons_zero, List.set_cons_succ]
    refine wpAnyH_take (i := 55) (oi := ?o55w) (v := ?v55w) ?hi55w (by kernel_rfl) (by kernel_rfl) (by kernel_rfl) (fun _ _ _ h => h) ?y55w (by assumption) ?r55w
    case hi55w => (simp only [List.getElem?_toArray, List.getElem?_cons_succ, List.getElem?_cons_zero]; rfl)
    case y55w => (refine Or.inl ⟨by rfl, ?_⟩; intro w' hSw; (try dsimp only at hSw); go_simp; (try with_reducible rfl))
    try simp only [Act.put, List.setIfInBounds_toArray, List.set_cons_zero, List.set_cons_succ]
    refine wpAnyH_take (i := 56) (oi := ?o56w) (v := ?v56w) ?hi56w (by kernel_rfl) (by kernel_rfl) (by kernel_rfl) (fun _ _ _ h => h) ?y56w (by assumption) ?r56w
    case hi56w => (simp only [List.getElem?_toArray, List.getElem?_cons_succ, List.getElem?_cons_zero]; rfl)
    case y56w => (refine Or.inl ⟨by rfl, ?_⟩; intro w' hSw; (try dsimp only at hSw); go_simp; (try with_reducible rfl))
    try simp only [Act.put, List.setIfInBounds_toArray, List.set_cons_zero, List.set_cons_succ]
    refine wpAnyH_ready (rs := [54]) (by kernel_rfl) (by simp) ?_
    refine AllReadyH.cons (o := ?o54w) ?hi54w ?hst54w AllReadyH.nil
    case hi54w => (simp only [List.getElem?_toArray, List.getElem?_cons_succ, List.getElem?_cons_zero]; rfl)
    intro K hK
    go_simp
    (go_at_call 17; (with_reducible refine (HT1.out _ bel).mono ?_); rintro e w11 ⟨rfl, hb11⟩)
    go_wp2_with fail
    refine hK.out _ _ ⟨Bx.keep_cell hb11 hHeld.1, Bx.keep_cell hb11 hHeld.2.1, Bx.keep_cell hb11 hHeld.2.2.1, Bx.keep_cell hb11 hHeld.2.2.2.1, Bx.keep_cell hb11 hHeld.2.2.2.2.1, Bx.keep_cell hb11 hHeld.2.2.2.2.2.1, Bx.keep_cell hb11 hHeld.2.2.2.2.2.2.1, Bx.keep_cell hb11 hHeld.2.2.2.2.2.2.2.1, Bx.keep_cell hb11 hHeld.2.2.2.2.2.2.2.2.1, Bx.keep_cell hb11 hHeld.2.2.2.2.2.2.2.2.2.1, Bx.keep_cell hb11 hHeld.2.2.2.2.2.2.2.2.2.2.1, Bx.keep_cell hb11 hHeld.2.2.2.2.2.2.2.2.2.2.2.1, Bx.keep_cell hb11 hHeld.2.2.2.2.2.2.2.2.2.2.2.2.1, Bx.keep_cell hb11 hHeld.2.2.2.2.2.2.2.2.2.2.2.2.2⟩ (fun hNew => ?_)
    clear hHeld
    have hHeld := hNew
    clear hNew hK K
    replace bel := Bx.then_below bel hb11
    clear hb11
    refine wpAnyH_ready (rs := [57]) (by kernel_rfl) (by simp) ?_
    refine AllReadyH.cons (o := ?o57w) ?hi57w ?hst57w AllReadyH.nil
    case hi57w => (simp only [List.getElem?_toArray, List.getElem?_cons_succ, List.getElem?_cons_zero]; rfl)
    intro K hK
    go_simp
    (go_at_call 18; (with_reducible refine (HT2.out _ bel).mono ?_); rintro e w12 ⟨rfl, hb12⟩)
    go_wp2_with fail
    refine hK.out _ _ ⟨Bx.keep_cell hb12 hHeld.1, Bx.keep_cell hb12 hHeld.2.1, Bx.keep_cell hb12 hHeld.2.2.1, Bx.keep_cell hb12 hHeld.2.2.2.1, Bx.keep_cell hb12 hHeld.2.2.2.2.1, Bx.keep_cell hb12 hHeld.2.2.2.2.2.1, Bx.keep_cell hb12 hHeld.2.2.2.2.2.2.1, Bx.keep_cell hb12 hHeld.2.2.2.2.2.2.2.1, Bx.keep_cell hb12 hHeld.2.2.2.2.2.2.2.2.1, Bx.keep_cell hb12 hHeld.2.2.2.2.2.2.2.2.2.1, Bx.keep_cell hb12 hHeld.2.2.2.2.2.2.2.2.2.2.1, Bx.keep_cell hb12 hHeld.2.2.2.2.2.2.2.2.2.2.2.1, Bx.keep_cell hb12 hHeld.2.2.2.2.2.2.2.2.2.2.2.2.1, Bx.keep_cell hb12 hHeld.2.2.2.2.2.2.2.2.2.2.2.2.2⟩ (fun hNew => ?_)
    clear hHeld
    have hHeld := hNew
    clear hNew hK K
    replace bel := Bx.then_below bel hb12
    clear hb12
    refine wpAnyH_take (i := 58) (oi := ?o58w) (v := ?v58w) ?hi58w (by kernel_rfl) (by kernel_rfl) (by kernel_rfl) (fun _ _ _ h => h) ?y58w (by assumption) ?r58w
    case hi58w => (simp only [List.getElem?_toArray, List.getElem?_cons_succ, List.getElem?_cons_zero]; rfl)
    case y58w => (refine Or.inl ⟨by rfl, ?_⟩; intro w' hSw; (try dsimp only at hSw); go_simp; (try with_reducible rfl))
    try simp only [Act.put, List.setIfInBounds_toArray, List.set_cons_zero, List.set_cons_succ]
    refine wpAnyH_take (i := 59) (oi := ?o59w) (v := ?v59w) ?hi59w (by kernel_rfl) (by kernel_rfl) (by kernel_rfl) (fun _ _ _ h => h) ?y59w (by assumption) ?r59w
    case hi59w => (simp only [List.getElem?_toArray, List.getElem?_cons_succ, List.getElem?_cons_zero]; rfl)
    case y59w => (refine Or.inl ⟨by rfl, ?_⟩; intro w' hSw; (try dsimp only at hSw); go_simp; (try with_reducible rfl))
    try simp only [Act.put, List.setIfInBounds_toArray, List.set_cons_zero, List.set_cons_succ]
    refine wpAnyH_take (i := 60) (oi := ?o60w) (v := ?v60w) ?hi60w (by kernel_rfl) (by kernel_rfl) (by kernel_rfl) (fun _ _ _ h => h) ?y60w (by assumption) ?r60w
    case hi60w => (simp only [List.getElem?_toArray, List.getElem?_cons_succ, List.getElem?_cons_zero]; rfl)
    case y60w => (refine Or.inl ⟨by rfl, ?_⟩; intro w' hSw; (try dsimp only at hSw); go_simp; (try with_reducible rfl))
    try simp only [Act.put, List.setIfInBounds_toArray, List.set_cons_zero, List.set_cons_succ]
    refine wpAnyH_ready (rs := [61]) (by kernel_rfl) (by simp) ?_
    refine AllReadyH.cons (o := ?o61w) ?hi61w ?hst61w AllReadyH.nil
    case hi61w => (simp only [List.getElem?_toArray, List.getElem?_cons_succ, List.getElem?_cons_zero]; rfl)
    intro K hK
    go_simp
    (go_at_call 6; (with_reducible refine (HAW.out _).mono ?_); rintro e w13 ⟨rfl, hb13⟩)
    go_wp2_with fail
    refine hK.out _ _ ⟨Bx.keep_cell hb13 hHeld.1, Bx.keep_cell hb13 hHeld.2.1, Bx.keep_cell hb13 hHeld.2.2.1, Bx.keep_cell hb13 hHeld.2.2.2.1, Bx.keep_cell hb13 hHeld.2.2.2.2.1, Bx.keep_cell hb13 hHeld.2.2.2.2.2.1, Bx.keep_cell hb13 hHeld.2.2.2.2.2.2.1, Bx.keep_cell hb13 hHeld.2.2.2.2.2.2.2.1, Bx.keep_cell hb13 hHeld.2.2.2.2.2.2.2.2.1, Bx.keep_cell hb13 hHeld.2.2.2.2.2.2.2.2.2.1, Bx.keep_cell hb13 hHeld.2.2.2.2.2.2.2.2.2.2.1, Bx.keep_cell hb13 hHeld.2.2.2.2.2.2.2.2.2.2.2.1, Bx.keep_cell hb13 hHeld.2.2.2.2.2.2.2.2.2.2.2.2.1, Bx.keep_cell hb13 hHeld.2.2.2.2.2.2.2.2.2.2.2.2.2⟩ (fun hNew => ?_)
    clear hHeld
    have hHeld := hNew
    clear hNew hK K
    replace bel := Bx.then_below bel hb13
    clear hb13
    refine wpAnyH_take (i := 62) (oi := ?o62w) (v := ?v62w) ?hi62w (by kernel_rfl) (by kernel_rfl) (by kernel_rfl) (fun _ _ _ h => h) ?y62w (by assumption) ?r62w
    case hi62w => (simp only [List.getElem?_toArray, List.getElem?_cons_succ, List.getElem?_cons_zero]; rfl)
    case y62w => (refine Or.inl ⟨by rfl, ?_⟩; intro w' hSw; (try dsimp only at hSw); go_simp; (try with_reducible rfl))
    try simp only [Act.put, List.setIfInBounds_toArray, List.set_cons_zero, List.set_cons_succ]
    refine wpAnyH_take (i := 63) (oi := ?o63w) (v := ?v63w) ?hi63w (by kernel_rfl) (by kernel_rfl) (by kernel_rfl) (fun _ _ _ h => h) ?y63w (by assumption) ?r63w
    case hi63w => (simp only [List.getElem?_toArray, List.getElem?_cons_succ, List.getElem?_cons_zero]; rfl)
    case y63w => (refine Or.inl ⟨by rfl, ?_⟩; intro w' hSw; (try dsimp only at hSw); go_simp; (try with_reducible rfl))
    try simp only [Act.put, List.setIfInBounds_toArray, List.set_cons_zero, List.set_cons_succ]
    refine wpAnyH_done (by kernel_rfl) ?_ _
    refine NoPanic.normal ?_
    clear hHeld
    go_wp2_with fail
    go_ret
    exact ⟨rfl, bel⟩

end Pre

namespace LawPreferSays
open Go.ChangeShapes Go.WideShapes Go.ChangeAt Go.RowKit
open Go.ChangeMaps (open_string shut_string)

theorem own : ownKnob Try.prog.godebug = none := by kernel_rfl
theorem laidOut : laidOutB Try.prog = true := by kernel_rfl

set_option maxRecDepth 100000 in
theorem lifted (os : Os) (started : os.Started) (H : Type) (enc : TypeId × Value → H) :
    ReturnsInHanded {} Try.checked os 3 .any (Rows.preferSaysSpec.pre6 enc Try.prog Try.f3 Rows.preferSaysRow.domain false) (Rows.preferSaysSpec.post enc Try.prog Try.f3 false true false false) := by
  refine Fr.law_lift (C := Try.checked) (tb := 4) own started (by kernel_rfl) Try.func3
    (ChangeSpec.witness6 (enc := enc) (C := Try.checked) false ⟨#[], #[.agg #[.int .u64 0, .int .u64 0, .int .u64 0, .int .i64 0], .agg #[.int .u64 0, .int .u64 0, .int .u64 0, .int .i64 0], .agg #[.slice none 0 0, .int .u64 0, .int .i64 0, .int .i64 0, .int .i64 0, .int .i64 0]], []⟩ 8 (by kernel_rfl) (by kernel_rfl) (by kernel_rfl) (by kernel_rfl))
    laidOut (by rw [Try.params3]; decide +kernel) rfl Try.underlying4 rfl ?_ ?_
  · intro ds hl
    match ds, hl with
    | [d0, d1, d2], _ => rfl
  · intro W base args ds p hval hA
    rw [Try.params3] at hA hval
    obtain ⟨v0, vs0, d0, ds0, p0, q0, hargs, rfl, rfl, h0, r0⟩ := trodAll_cons hA
    obtain ⟨v1, vs1, d1, ds1, p1, q1, rfl, rfl, rfl, h1, r1⟩ := trodAll_cons r0
    obtain ⟨v2, vs2, d2, ds2, p2, q2, rfl, rfl, rfl, h2, r2⟩ := trodAll_cons r1
    obtain ⟨rfl, rfl, rfl⟩ := trodAll_nil r2
    obtain rfl : args = #[v0, v1, v2] := by cases args; simp_all
    obtain ⟨x0, rfl, hx0⟩ := Pre.open_vec (hval 0 24 v0 rfl rfl) h0
    obtain ⟨x1, rfl, hx1⟩ := Pre.open_vec (hval 1 24 v1 rfl rfl) h1
    obtain ⟨A2, l2, c2, k2, t2, rfl, hm2, hA2, ht2⟩ := Pre.open_case (hval 2 29 v2 rfl rfl) h2
    exact Pre.law_says W x0 hx0 x1 hx1 A2 l2 c2 k2 t2 hm2 hA2 ht2

theorem over : Rows.preferSaysRow.holds Try.pinned (OpenSpec.ofChange Rows.preferSaysSpec) :=
  OpenClaim.holds_of_wide 3 Try.f3 rfl rfl rfl rfl rfl rfl rfl ⟨rfl, rfl, rfl, rfl, rfl⟩ rfl rfl rfl rfl rfl (by kernel_rfl) Try.func3 (by kernel_rfl)
    (of_decide_eq_true (by kernel_rfl)) (by unfold Func.isWrapper; first | (rw [if_pos (by decide +kernel)]; kernel_rfl) | (rw [if_neg (by decide +kernel)]; exact ⟨rfl, rfl⟩))
    (fun os started H enc _ => lifted os started H enc)
end LawPreferSays

/-- The statement PreferSays. -/
theorem preferSays_holds : Rows.PreferSaysSaid := LawPreferSays.over

end Go.Proofs.Ytkggphonoihidaa
