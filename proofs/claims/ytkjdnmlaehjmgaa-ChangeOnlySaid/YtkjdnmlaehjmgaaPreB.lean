/-
  Vectors in a slice; slices.MinFunc, prefer.best and Better, and the document's Better.
-/
import Derived.Test.YtkjdnmlaehjmgaaPreA
import Derived.Deep.LoopGhost
import Derived.WalkSmall
import Derived.Shelf.Abstract
namespace Go.Proofs.Ytkjdnmlaehjmgaa
open Go.RowKit
namespace Pre
open Oct

/-- The slice that begins at A reads as the vectors l. -/
def Vs (w : World) (A : Option Addr) (l : List Vc) : Prop := ∀ j x, l[j]? = some x → ∃ b o, A = some ⟨b, o, none⟩ ∧ b < w.heap.size ∧ w.cell? ⟨b, o + j * 4, none⟩ = some (.int .u64 x.r) ∧ w.cell? ⟨b, o + j * 4 + 1, none⟩ = some (.int .u64 x.c) ∧ w.cell? ⟨b, o + j * 4 + 2, none⟩ = some (.int .u64 x.b) ∧ w.cell? ⟨b, o + j * 4 + 3, none⟩ = some (.int .i64 x.p)

theorem Vs.below {w w' : World} {A : Option Addr} {l : List Vc} (h : Vs w A l) (hb : Below w.heap.size w w') : Vs w' A l := fun j x hj => by
  obtain ⟨b, o, e, h1, h2, h3, h4, h5⟩ := h j x hj
  exact ⟨b, o, e, Nat.lt_of_lt_of_le h1 hb.size, Bx.keep_cell hb h2, Bx.keep_cell hb h3, Bx.keep_cell hb h4, Bx.keep_cell hb h5⟩

theorem Vs.nil (w : World) (A : Option Addr) : Vs w A [] := fun j x h => by simp at h

theorem Vs.at {w : World} {A : Option Addr} {l : List Vc} (h : Vs w A l) {k : Nat} (hk : k < l.length) : ∃ b o, A = some ⟨b, o, none⟩ ∧ b < w.heap.size ∧ w.cell? ⟨b, o + k * 4, none⟩ = some (.int .u64 l[k].r) ∧ w.cell? ⟨b, o + k * 4 + 1, none⟩ = some (.int .u64 l[k].c) ∧ w.cell? ⟨b, o + k * 4 + 2, none⟩ = some (.int .u64 l[k].b) ∧ w.cell? ⟨b, o + k * 4 + 3, none⟩ = some (.int .i64 l[k].p) := h k l[k] (List.getElem?_eq_getElem hk)

theorem take_least (x : Vc) (l : List Vc) (k : Nat) (h1 : 1 ≤ k) (h : k < (x :: l).length) : leastV x (l.take (k + 1 - 1)) = minV (leastV x (l.take (k - 1))) (x :: l)[k] := by
  obtain ⟨j, rfl⟩ : ∃ j, k = j + 1 := ⟨k - 1, by omega⟩
  have h' : j < l.length := by simpa using h
  rw [List.getElem_cons_succ, show j + 1 + 1 - 1 = j + 1 by omega, show j + 1 - 1 = j by omega, List.take_succ_eq_append_getElem h', least_next]

theorem ord_neg {x y : Vc} (h : ltV x y = true) : ordV x y < 0 := by rw [← ord_lt] at h; simpa using h
theorem ord_not {x y : Vc} (h : ltV x y = false) : ¬ ordV x y < 0 := by rw [← ord_lt] at h; simpa using h

/-- What a comparison is: a function value called with two vectors. -/
def CmpIs (g : Nat) (r : Array Value) : Prop := (∀ args w, (callFunc g args).run Try.prog w = .ok (.enter g args) w) ∧ ∀ (x y : Vc) (w : World), Calls Try.prog g (r ++ #[vv x, vv y]) w fun e w' => e = .returned (.int .i64 (ordV x y)) ∧ Below w.heap.size w w'

set_option maxRecDepth 20000 in
set_option maxHeartbeats 4000000 in
theorem min_any (x0 : Vc) (l : List Vc) (hl : l.length ≤ 100000) (A : Option Addr) (c : Nat) (w : World) (hA : Vs w A (x0 :: l)) :
    Calls Try.prog 40 #[.slice A (l.length + 1) c, .func (.func 41) #[] #[]] w fun e w' => e = .returned (vv (leastV x0 l)) ∧ Below w.heap.size w w' := by
  have HA := Lib.hid hA
  have HC := Lib.hid order_any
  have HT := Lib.hid (take_least x0 l)
  have HE := Lib.hid (show leastV x0 (l.take l.length) = leastV x0 l by rw [List.take_length])
  obtain ⟨b, o, rfl, hbl, c0, c1, c2, c3⟩ := hA.at (k := 0) (by simp)
  clear hA
  rw [List.getElem_cons_zero] at c0 c1 c2 c3
  rw [show o + 0 * 4 = o by omega] at c0 c1 c2 c3
  have z1 : ¬ ((l.length : Int) + 1 < 1) := by omega
  have B0 := Lib.hid (Bx.bel_box (Bx.box_below w (vo ⟨0, 0, 0, 0⟩)) (vo x0))
  have R0 : Hid (Bx.Fre ((w.alloc (vo ⟨0, 0, 0, 0⟩)).alloc (vo x0)) w.heap.size (enc ⟨0, 0, 0, 0⟩)) := Lib.hid ((Bx.Fre.new w (enc ⟨0, 0, 0, 0⟩) 26).more (vo x0))
  have M0 : Hid (Bx.Fre ((w.alloc (vo ⟨0, 0, 0, 0⟩)).alloc (vo x0)) (w.heap.size + 1) (enc x0)) := Lib.hid (by
    have := Bx.Fre.new (w.alloc (vo ⟨0, 0, 0, 0⟩)) (enc x0) 26
    rwa [show (w.alloc (vo ⟨0, 0, 0, 0⟩)).heap.size = w.heap.size + 1 by simp] at this)
  have hs : ((w.alloc (vo ⟨0, 0, 0, 0⟩)).alloc (vo x0)).heap.size = w.heap.size + 2 := by simp
  have eg : ∀ args w, (callFunc 41 args).run Try.prog w = .ok (.enter 41 args) w := enters_of Try.func41 (by kernel_rfl) rfl
  go_enter Try.func40, Try.ntmps40
  go_wp2
  generalize (w.alloc (vo ⟨0, 0, 0, 0⟩)).alloc (vo x0) = W0 at *
  go_loopw [6] (fun ix wr => ∃ k : Nat, 1 ≤ k ∧ k ≤ l.length + 1 ∧ ix = .int .i64 k ∧ Aside (Bx.Fre wr (w.heap.size + 1) (enc (leastV x0 (l.take (k - 1))))) ∧ Aside (Bx.Fre wr w.heap.size (enc ⟨0, 0, 0, 0⟩)) ∧ Aside (Below w.heap.size w wr)) (fun ix _ => l.length + 1 - (intOf ix).toNat)
  case atStart => exact ⟨1, Nat.le_refl _, by omega, rfl, M0.out, R0.out, B0.out⟩
  case round =>
    obtain ⟨k, hk1, hk, rfl, HM, HR, HB⟩ := hrel
    by_cases hlt : k < l.length + 1
    · have hlt' : k < (x0 :: l).length := by simpa using hlt
      obtain ⟨b', o', e', _, d0, d1, d2, d3⟩ := (HA.out.below HB.out).at hlt'
      injection e' with e'
      injection e' with e1 e2
      subst e1 e2
      have HN := Lib.hid (HT.out k hk1 hlt')
      generalize leastV x0 (l.take (k - 1)) = m at *
      generalize (x0 :: l)[k] = y at *
      obtain ⟨⟨m0, m1, m2, m3⟩, f0, f1, f2, f3⟩ := HM.out.all4
      obtain ⟨p1, p2, p3, p4⟩ := y
      obtain ⟨q1, q2, q3, q4⟩ := m
      simp only at d0 d1 d2 d3 m0 m1 m2 m3
      have HC' := Lib.hid (HC.out ⟨p1, p2, p3, p4⟩ ⟨q1, q2, q3, q4⟩)
      cases hx : ltV ⟨p1, p2, p3, p4⟩ ⟨q1, q2, q3, q4⟩ with
      | true =>
        have hz := ord_neg hx
        generalize ordV ⟨p1, p2, p3, p4⟩ ⟨q1, q2, q3, q4⟩ = z at *
        have HN2 : Hid (leastV x0 (l.take (k + 1 - 1)) = ⟨p1, p2, p3, p4⟩) := Lib.hid (by rw [HN.out]; unfold minV; rw [if_pos hx])
        clear hx
        go_wp2_with fail
        go_region_held3 (fun w' => (w'.cell? ⟨b, o + k * 4, none⟩ = some (.int .u64 p1) ∧ w'.cell? ⟨b, o + k * 4 + 1, none⟩ = some (.int .u64 p2) ∧ w'.cell? ⟨b, o + k * 4 + 2, none⟩ = some (.int .u64 p3) ∧ w'.cell? ⟨b, o + k * 4 + 3, none⟩ = some (.int .i64 p4)) ∧ (w'.cell? ⟨w.heap.size + 1, 0, none⟩ = some (.int .u64 q1) ∧ w'.cell? ⟨w.heap.size + 1, 1, none⟩ = some (.int .u64 q2) ∧ w'.cell? ⟨w.heap.size + 1, 2, none⟩ = some (.int .u64 q3) ∧ w'.cell? ⟨w.heap.size + 1, 3, none⟩ = some (.int .i64 q4)))
          (first | go_keep | (go_split_ands; exact ⟨⟨Bx.keep_cell (by assumption) (by assumption), Bx.keep_cell (by assumption) (by assumption), Bx.keep_cell (by assumption) (by assumption), Bx.keep_cell (by assumption) (by assumption)⟩, Bx.keep_cell (by assumption) (by assumption), Bx.keep_cell (by assumption) (by assumption), Bx.keep_cell (by assumption) (by assumption), Bx.keep_cell (by assumption) (by assumption)⟩))
          (first | (go_at_call 41; with_reducible refine (HC'.out _).mono ?_; rintro e w1 ⟨rfl, hb1⟩))
        have B2 := Lib.hid (HB.out.drew.trans (hb1.mono HB.out.size))
        have M2 := Lib.hid (HM.out.drew.keep hb1)
        have R2 := Lib.hid (HR.out.drew.keep hb1)
        have d0' := Bx.keep_cell hb1 d0
        have d1' := Bx.keep_cell hb1 d1
        have d2' := Bx.keep_cell hb1 d2
        have d3' := Bx.keep_cell hb1 d3
        obtain ⟨⟨m0', m1', m2', m3'⟩, f0', f1', f2', f3'⟩ := M2.out.all4
        clear hb1 d0 d1 d2 d3 m0 m1 m2 m3 f0 f1 f2 f3
        go_wp2
        go_roundw
        case rel => exact ⟨k + 1, by omega, by omega, by go_num, by rw [HN2.out]; exact (((M2.out.set 0 _).set 1 _).set 2 _).set 3 _, (((R2.out.other (by omega)).other (by omega)).other (by omega)).other (by omega), Bx.bel_set4 (by omega) B2.out⟩
        case measure => simp [intOf]; omega
      | false =>
        have hz := ord_not hx
        generalize ordV ⟨p1, p2, p3, p4⟩ ⟨q1, q2, q3, q4⟩ = z at *
        have HN2 : Hid (leastV x0 (l.take (k + 1 - 1)) = ⟨q1, q2, q3, q4⟩) := Lib.hid (by rw [HN.out]; unfold minV; rw [hx]; rfl)
        clear hx
        go_wp2_with fail
        go_region_held3 (fun w' => (w'.cell? ⟨b, o + k * 4, none⟩ = some (.int .u64 p1) ∧ w'.cell? ⟨b, o + k * 4 + 1, none⟩ = some (.int .u64 p2) ∧ w'.cell? ⟨b, o + k * 4 + 2, none⟩ = some (.int .u64 p3) ∧ w'.cell? ⟨b, o + k * 4 + 3, none⟩ = some (.int .i64 p4)) ∧ (w'.cell? ⟨w.heap.size + 1, 0, none⟩ = some (.int .u64 q1) ∧ w'.cell? ⟨w.heap.size + 1, 1, none⟩ = some (.int .u64 q2) ∧ w'.cell? ⟨w.heap.size + 1, 2, none⟩ = some (.int .u64 q3) ∧ w'.cell? ⟨w.heap.size + 1, 3, none⟩ = some (.int .i64 q4)))
          (first | go_keep | (go_split_ands; exact ⟨⟨Bx.keep_cell (by assumption) (by assumption), Bx.keep_cell (by assumption) (by assumption), Bx.keep_cell (by assumption) (by assumption), Bx.keep_cell (by assumption) (by assumption)⟩, Bx.keep_cell (by assumption) (by assumption), Bx.keep_cell (by assumption) (by assumption), Bx.keep_cell (by assumption) (by assumption), Bx.keep_cell (by assumption) (by assumption)⟩))
          (first | (go_at_call 41; with_reducible refine (HC'.out _).mono ?_; rintro e w1 ⟨rfl, hb1⟩))
        have B2 := Lib.hid (HB.out.drew.trans (hb1.mono HB.out.size))
        have M2 := Lib.hid (HM.out.drew.keep hb1)
        have R2 := Lib.hid (HR.out.drew.keep hb1)
        clear hb1
        go_wp2
        go_roundw
        case rel => exact ⟨k + 1, by omega, by omega, by go_num, by rw [HN2.out]; exact M2.out, R2.out, B2.out⟩
        case measure => simp [intOf]; omega
    · obtain rfl : k = l.length + 1 := by omega
      have HM2 : Hid (Bx.Fre wr (w.heap.size + 1) (enc (leastV x0 l))) := Lib.hid (by have h := HM.out; simp only [Nat.add_sub_cancel] at h; rwa [HE.out] at h)
      clear HM
      obtain ⟨m, hm⟩ : ∃ m, m = leastV x0 l := ⟨_, rfl⟩
      rw [← hm] at HM2
      have HQ := Lib.hid hm
      clear hm
      obtain ⟨q1, q2, q3, q4⟩ := m
      obtain ⟨⟨m0, m1, m2, m3⟩, _, _, _, _⟩ := HM2.out.all4
      obtain ⟨⟨r0, r1, r2, r3⟩, g0, g1, g2, g3⟩ := HR.out.all4
      have B3 := Lib.hid (Bx.bel_set4 (x0 := .int .u64 q1) (x1 := .int .u64 q2) (x2 := .int .u64 q3) (x3 := .int .i64 q4) (Nat.le_refl _) HB.out)
      have R3 := Lib.hid ((((HR.out.set 0 (.int .u64 q1)).set 1 (.int .u64 q2)).set 2 (.int .u64 q3)).set 3 (.int .i64 q4))
      simp only at m0 m1 m2 m3
      go_wp2
      obtain ⟨⟨s0, s1, s2, s3⟩, _⟩ := (show Bx.Fre _ _ [.int .u64 q1, .int .u64 q2, .int .u64 q3, .int .i64 q4] from R3.out).all4
      refine bodyPost_ret (v := vv ⟨q1, q2, q3, q4⟩) ?_ rfl ⟨by rw [← HQ.out], B3.out⟩
      simp [results, Try.results40, s0, s1, s2, s3, go_sem]

theorem least_two (x y : Vc) : leastV x [y] = if ltV y x then y else x := rfl

set_option maxRecDepth 20000 in
set_option maxHeartbeats 4000000 in
theorem best_any (x0 : Vc) (l : List Vc) (hl : l.length ≤ 100000) (A : Option Addr) (c : Nat) (w : World) (hA : Vs w A (x0 :: l)) :
    Calls Try.prog 38 #[.slice A (l.length + 1) c] w fun e w' => e = .returned (vv (leastV x0 l)) ∧ Below w.heap.size w w' := by
  have B0 := Lib.hid (Bx.box_below w (vo ⟨0, 0, 0, 0⟩))
  have HM := Lib.hid (min_any x0 l hl A c _ (hA.below B0.out))
  have R0 := Lib.hid (Bx.Fre.new w (enc ⟨0, 0, 0, 0⟩) 26)
  clear hA hl
  obtain ⟨m, hm⟩ : ∃ m, m = leastV x0 l := ⟨_, rfl⟩
  rw [← hm]
  rw [← hm] at HM
  clear hm
  obtain ⟨q1, q2, q3, q4⟩ := m
  go_enter Try.func38, Try.ntmps38
  go_wp2_with fail
  refine HM.out.mono ?_; rintro e w1 ⟨rfl, hb1⟩
  have B1 := Lib.hid (Bx.then_below B0.out hb1)
  have R1 := Lib.hid (R0.out.keep hb1)
  clear hb1
  obtain ⟨⟨r0, r1, r2, r3⟩, g0, g1, g2, g3⟩ := R1.out.all4
  have B3 := Lib.hid (Bx.bel_set4 (x0 := .int .u64 q1) (x1 := .int .u64 q2) (x2 := .int .u64 q3) (x3 := .int .i64 q4) (Nat.le_refl _) B1.out)
  have R3 := Lib.hid ((((R1.out.set 0 (.int .u64 q1)).set 1 (.int .u64 q2)).set 2 (.int .u64 q3)).set 3 (.int .i64 q4))
  go_wp2
  obtain ⟨⟨s0, s1, s2, s3⟩, _⟩ := (show Bx.Fre _ _ [.int .u64 q1, .int .u64 q2, .int .u64 q3, .int .i64 q4] from R3.out).all4
  refine bodyPost_ret (v := vv ⟨q1, q2, q3, q4⟩) ?_ rfl ⟨rfl, B3.out⟩
  simp [results, Try.results38, s0, s1, s2, s3, go_sem]

theorem neq_false {x y : Vc} (h : x ≠ y) : ¬ ((x.r : Int) = y.r ∧ (x.c : Int) = y.c ∧ (x.b : Int) = y.b ∧ x.p = y.p) := fun e => h ((eq_iff x y).2 ⟨by omega, by omega, by omega, e.2.2.2⟩)

theorem Vs.two {w : World} {b : Nat} {x y : Vc} (h : Bx.Blk w b [.int .u64 x.r, .int .u64 x.c, .int .u64 x.b, .int .i64 x.p, .int .u64 y.r, .int .u64 y.c, .int .u64 y.b, .int .i64 y.p]) : Vs w (some ⟨b, 0, none⟩) [x, y] := fun j z hz => by
  have hb := h.lt (by simp)
  match j, hz with
  | 0, hz => cases hz; exact ⟨b, 0, rfl, hb, h.at 0 rfl, h.at 1 rfl, h.at 2 rfl, h.at 3 rfl⟩
  | 1, hz => cases hz; exact ⟨b, 0, rfl, hb, h.at 4 rfl, h.at 5 rfl, h.at 6 rfl, h.at 7 rfl⟩

theorem neq_at (x1 x2 x3 : Nat) (x4 : Int) (y1 y2 y3 : Nat) (y4 : Int) (w : World) : (binOp .neq 26 (.agg #[.int .u64 x1, .int .u64 x2, .int .u64 x3, .int .i64 x4]) (.agg #[.int .u64 y1, .int .u64 y2, .int .u64 y3, .int .i64 y4])).run Try.prog w = .ok (.bool (!decide ((⟨x1, x2, x3, x4⟩ : Vc) = ⟨y1, y2, y3, y4⟩))) w := by
  have u3 := Try.underlying3
  have u9 := Try.underlying22
  have hS : Try.prog.underlying 26 = some (.struct (Try.prog.fieldsOf 26)) := by kernel_rfl
  have hp : Try.prog.stoodInHeld 26 = false := by kernel_rfl
  rw [run_neq_struct, show (10000 : Nat) = 9999 + 1 from rfl, run_equalIn_agg w 9999 26 _ _ hS hp]
  simp only [Program.fieldsOf, Try.underlying26]
  go_simp
  by_cases h1 : x1 = y1 <;> by_cases h2 : x2 = y2 <;> by_cases h3 : x3 = y3 <;> by_cases h4 : x4 = y4 <;> first | (simp [h1, h2, h3, h4]; done) | (simp [h1, h2, h3, h4]; omega)

theorem eql_at (x1 x2 x3 : Nat) (x4 : Int) (y1 y2 y3 : Nat) (y4 : Int) (w : World) : (binOp .eql 26 (.agg #[.int .u64 x1, .int .u64 x2, .int .u64 x3, .int .i64 x4]) (.agg #[.int .u64 y1, .int .u64 y2, .int .u64 y3, .int .i64 y4])).run Try.prog w = .ok (.bool (decide ((⟨x1, x2, x3, x4⟩ : Vc) = ⟨y1, y2, y3, y4⟩))) w := by
  have u3 := Try.underlying3
  have u9 := Try.underlying22
  have hS : Try.prog.underlying 26 = some (.struct (Try.prog.fieldsOf 26)) := by kernel_rfl
  have hp : Try.prog.stoodInHeld 26 = false := by kernel_rfl
  rw [run_eql_struct, show (10000 : Nat) = 9999 + 1 from rfl, run_equalIn_agg w 9999 26 _ _ hS hp]
  simp only [Program.fieldsOf, Try.underlying26]
  go_simp
  by_cases h1 : x1 = y1 <;> by_cases h2 : x2 = y2 <;> by_cases h3 : x3 = y3 <;> by_cases h4 : x4 = y4 <;> first | (simp [h1, h2, h3, h4]; done) | (simp [h1, h2, h3, h4]; omega)

theorem guard_at (op : BinOp) (a b : Operand) (x1 x2 x3 : Nat) (x4 : Int) (y1 y2 y3 : Nat) (y4 : Int) (w : World) : Sem.run Try.prog (eqGuard op 26 a b (.agg #[.int .u64 x1, .int .u64 x2, .int .u64 x3, .int .i64 x4]) (.agg #[.int .u64 y1, .int .u64 y2, .int .u64 y3, .int .i64 y4])) w = .ok () w :=
  run_eqGuard_agg w op 26 a b #[.int .u64 x1, .int .u64 x2, .int .u64 x3, .int .i64 x4] #[.int .u64 y1, .int .u64 y2, .int .u64 y3, .int .i64 y4] (by kernel_rfl)

set_option maxRecDepth 20000 in
set_option maxHeartbeats 4000000 in
theorem better_any (x y : Vc) (w : World) : Calls Try.prog 33 #[vv x, vv y] w fun e w' => e = .returned (.bool (ltV x y)) ∧ Below w.heap.size w w' := by
  have bel := Lib.hid (Bx.bel_box (Bx.box_below w (vo x)) (vo y))
  have X := ((Bx.Blk.new w (enc x) 26).keep (Bx.box_below _ (vo y))).all4
  have Y := (Bx.Blk.new_at (W := w.alloc (vo x)) (k := w.heap.size + 1) (enc y) 26 (by simp)).all4
  by_cases he : x = y
  · subst he
    have e : ltV x x = false := tot.irr x
    rw [e]
    clear e
    obtain ⟨x1, x2, x3, x4⟩ := x
    simp only at X Y
    obtain ⟨a0, a1, a2, a3⟩ := X
    obtain ⟨b0, b1, b2, b3⟩ := Y
    have hne : ∀ w, (binOp .neq 26 (.agg #[.int .u64 x1, .int .u64 x2, .int .u64 x3, .int .i64 x4]) (.agg #[.int .u64 x1, .int .u64 x2, .int .u64 x3, .int .i64 x4])).run Try.prog w = .ok (.bool false) w := fun w => by rw [neq_at]; simp
    have hgd : ∀ (op : BinOp) (a b : Operand) (w : World), Sem.run Try.prog (eqGuard op 26 a b (.agg #[.int .u64 x1, .int .u64 x2, .int .u64 x3, .int .i64 x4]) (.agg #[.int .u64 x1, .int .u64 x2, .int .u64 x3, .int .i64 x4])) w = .ok () w := fun op a b w => guard_at op a b x1 x2 x3 x4 x1 x2 x3 x4 w
    go_enter Try.func33, Try.ntmps33
    go_wp2
    go_quiet (fail)
    go_wp2
    go_ret
    exact ⟨rfl, below_drewN bel.out nq⟩
  · have hbest : leastV x [y] = if ltV x y then x else y := by
      rw [least_two]
      cases h1 : ltV x y with
      | true =>
        have : ltV y x = false := tot.lt_le h1
        rw [this]; rfl
      | false =>
        cases h2 : ltV y x with
        | true => rfl
        | false => exact absurd (tot.tot x y h1 h2) he
    have HM := Lib.hid (best_any x [y] (by simp) (some ⟨w.heap.size + 1 + 1, 0, none⟩) 2 (((w.alloc (vo x)).alloc (vo y)).alloc (.cells #[.int .u64 x.r, .int .u64 x.c, .int .u64 x.b, .int .i64 x.p, .int .u64 y.r, .int .u64 y.c, .int .u64 y.b, .int .i64 y.p] 26)).drew (Vs.two ((Bx.Blk.new_at (W := (w.alloc (vo x)).alloc (vo y)) [.int .u64 x.r, .int .u64 x.c, .int .u64 x.b, .int .i64 x.p, .int .u64 y.r, .int .u64 y.c, .int .u64 y.b, .int .i64 y.p] 26 (by simp)).drew)))
    have B3 := Lib.hid ((Bx.bel_box bel.out (.cells #[.int .u64 x.r, .int .u64 x.c, .int .u64 x.b, .int .i64 x.p, .int .u64 y.r, .int .u64 y.c, .int .u64 y.b, .int .i64 y.p] 26)).drew)
    rw [hbest] at HM
    simp only [List.length_singleton, Nat.reduceAdd] at HM
    clear hbest
    cases hx : ltV x y
    all_goals
      rw [hx] at HM
      clear hx
      obtain ⟨x1, x2, x3, x4⟩ := x
      obtain ⟨y1, y2, y3, y4⟩ := y
      simp only at X Y HM B3
      obtain ⟨a0, a1, a2, a3⟩ := X
      obtain ⟨b0, b1, b2, b3⟩ := Y
      have hne : ∀ w, (binOp .neq 26 (.agg #[.int .u64 x1, .int .u64 x2, .int .u64 x3, .int .i64 x4]) (.agg #[.int .u64 y1, .int .u64 y2, .int .u64 y3, .int .i64 y4])).run Try.prog w = .ok (.bool true) w := fun w => by rw [neq_at, decide_eq_false he]; rfl
      have hgd : ∀ (op : BinOp) (a b : Operand) (w : World), Sem.run Try.prog (eqGuard op 26 a b (.agg #[.int .u64 x1, .int .u64 x2, .int .u64 x3, .int .i64 x4]) (.agg #[.int .u64 y1, .int .u64 y2, .int .u64 y3, .int .i64 y4])) w = .ok () w := fun op a b w => guard_at op a b x1 x2 x3 x4 y1 y2 y3 y4 w
      have heq1 : ∀ w, (binOp .eql 26 (.agg #[.int .u64 x1, .int .u64 x2, .int .u64 x3, .int .i64 x4]) (.agg #[.int .u64 x1, .int .u64 x2, .int .u64 x3, .int .i64 x4])).run Try.prog w = .ok (.bool true) w := fun w => by rw [eql_at]; simp
      have hge1 : ∀ (op : BinOp) (a b : Operand) (w : World), Sem.run Try.prog (eqGuard op 26 a b (.agg #[.int .u64 x1, .int .u64 x2, .int .u64 x3, .int .i64 x4]) (.agg #[.int .u64 x1, .int .u64 x2, .int .u64 x3, .int .i64 x4])) w = .ok () w := fun op a b w => guard_at op a b x1 x2 x3 x4 x1 x2 x3 x4 w
      have heq2 : ∀ w, (binOp .eql 26 (.agg #[.int .u64 y1, .int .u64 y2, .int .u64 y3, .int .i64 y4]) (.agg #[.int .u64 x1, .int .u64 x2, .int .u64 x3, .int .i64 x4])).run Try.prog w = .ok (.bool false) w := fun w => by rw [eql_at, decide_eq_false (fun e => he e.symm)]
      have hge2 : ∀ (op : BinOp) (a b : Operand) (w : World), Sem.run Try.prog (eqGuard op 26 a b (.agg #[.int .u64 y1, .int .u64 y2, .int .u64 y3, .int .i64 y4]) (.agg #[.int .u64 x1, .int .u64 x2, .int .u64 x3, .int .i64 x4])) w = .ok () w := fun op a b w => guard_at op a b y1 y2 y3 y4 x1 x2 x3 x4 w
      go_enter Try.func33, Try.ntmps33
      go_wp2
      go_region_held3 (fun w' => (w'.cell? ⟨w.heap.size, 0, none⟩ = some (.int .u64 x1) ∧ w'.cell? ⟨w.heap.size, 1, none⟩ = some (.int .u64 x2) ∧ w'.cell? ⟨w.heap.size, 2, none⟩ = some (.int .u64 x3) ∧ w'.cell? ⟨w.heap.size, 3, none⟩ = some (.int .i64 x4)) ∧ (w'.cell? ⟨w.heap.size + 1, 0, none⟩ = some (.int .u64 y1) ∧ w'.cell? ⟨w.heap.size + 1, 1, none⟩ = some (.int .u64 y2) ∧ w'.cell? ⟨w.heap.size + 1, 2, none⟩ = some (.int .u64 y3) ∧ w'.cell? ⟨w.heap.size + 1, 3, none⟩ = some (.int .i64 y4)))
        (first | (go_split_ands; exact ⟨⟨Bx.kept_new (by assumption), Bx.kept_new (by assumption), Bx.kept_new (by assumption), Bx.kept_new (by assumption)⟩, Bx.kept_new (by assumption), Bx.kept_new (by assumption), Bx.kept_new (by assumption), Bx.kept_new (by assumption)⟩) | (go_split_ands; exact ⟨⟨Bx.keep_cell (by assumption) (by assumption), Bx.keep_cell (by assumption) (by assumption), Bx.keep_cell (by assumption) (by assumption), Bx.keep_cell (by assumption) (by assumption)⟩, Bx.keep_cell (by assumption) (by assumption), Bx.keep_cell (by assumption) (by assumption), Bx.keep_cell (by assumption) (by assumption), Bx.keep_cell (by assumption) (by assumption)⟩) | (go_keep; done))
        (first | (go_at_call 38; with_reducible refine (HM.out).mono ?_; rintro e w1 ⟨rfl, hb1⟩))
      have B4 := Lib.hid (B3.out.trans (hb1.mono B3.out.size))
      go_wp2
      go_ret
      exact ⟨rfl, B4.out⟩

end Pre
end Go.Proofs.Ytkjdnmlaehjmgaa
