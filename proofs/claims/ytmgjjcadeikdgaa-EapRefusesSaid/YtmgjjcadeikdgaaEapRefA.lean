/-
  The law EapRefuses, way by way.
-/
import Derived.Test.YtmgjjcadeikdgaaEapAwake
import Derived.Test.YtmgjjcadeikdgaaEapI
import Derived.Test.YtmgjjcadeikdgaaEapOpen
import Derived.Test.YtmgjjcadeikdgaaRows
import Derived.Test.YtmgjjcadeikdgaaBox
namespace Go.Proofs.Ytmgjjcadeikdgaa
open Go.RowKit
namespace Eap
open Oct Mac Eth Epl

theorem filter_at (l : List Int) (k : Nat) (h : k < l.length) (ht : tells l[k] = true) : (l.filter tells)[((l.take k).filter tells).length]? = some l[k] := by
  have e : l = l.take k ++ (l[k] :: l.drop (k + 1)) := by rw [← List.drop_eq_getElem_cons h, List.take_append_drop]
  have e2 : l.filter tells = (l.take k).filter tells ++ (l[k] :: (l.drop (k + 1)).filter tells) := by
    conv => lhs; rw [e]
    rw [List.filter_append, List.filter_cons_of_pos ht]
  rw [e2, List.getElem?_append_right (Nat.le_refl _), Nat.sub_self]
  rfl

theorem count_hit (l : List Int) (k : Nat) (h : k < l.length) (ht : tells l[k] = true) : ((l.take (k + 1)).filter tells).length = ((l.take k).filter tells).length + 1 := by
  rw [take_next l k h, List.filter_append]
  simp [ht]

theorem count_miss (l : List Int) (k : Nat) (h : k < l.length) (ht : tells l[k] = false) : ((l.take (k + 1)).filter tells).length = ((l.take k).filter tells).length := by
  rw [take_next l k h, List.filter_append]
  simp [ht]

theorem drewN_below (w : World) (n : Nat) : Below w.heap.size w (w.drewN n) := by
  induction n with
  | zero => exact Below.refl _ _
  | succ n ih => exact ih.drew

set_option maxHeartbeats 1000000 in
theorem ref_big1 (c i t C I T : Int) (d D : ByteArray) (A : Option Addr) (l : List Int) (cap : Nat) (w : World) (hz : 3000 < d.size) :
    Calls Try.prog 5 #[pk c i t d, pk C I T D, .slice A l.length cap] w fun e w' => e = .returned (.bool true) ∧ Below w.heap.size w w' := by
  go_enter Try.func5, Try.ntmps5
  go_wp2_with fail
  have bel := Bx.bel_refl w
  have B0 := Lib.hid (Bx.Blk.new w [.int .i64 c, .int .i64 i, .int .i64 t, .string d] 23)
  replace bel := Bx.bel_box bel (Obj.cells #[.int .i64 c, .int .i64 i, .int .i64 t, .string d] 23)
  have c0_0 := B0.out.at 0 rfl
  have c0_1 := B0.out.at 1 rfl
  have c0_2 := B0.out.at 2 rfl
  have c0_3 := B0.out.at 3 rfl
  replace B0 := Lib.hid (B0.out.more (Obj.cells #[.int .i64 C, .int .i64 I, .int .i64 T, .string D] 23))
  have B1 := Lib.hid (Bx.Blk.new_at (W := (w.alloc (Obj.cells #[.int .i64 c, .int .i64 i, .int .i64 t, .string d] 23))) (k := w.heap.size + 1) [.int .i64 C, .int .i64 I, .int .i64 T, .string D] 23 (by simp))
  replace bel := Bx.bel_box bel (Obj.cells #[.int .i64 C, .int .i64 I, .int .i64 T, .string D] 23)
  clear c0_0 c0_1 c0_2 c0_3
  have c0_0 := B0.out.at 0 rfl
  have c0_1 := B0.out.at 1 rfl
  have c0_2 := B0.out.at 2 rfl
  have c0_3 := B0.out.at 3 rfl
  have c1_0 := B1.out.at 0 rfl
  have c1_1 := B1.out.at 1 rfl
  have c1_2 := B1.out.at 2 rfl
  have c1_3 := B1.out.at 3 rfl
  refine (awake_any _).mono ?_; rintro e w1 ⟨rfl, hb1⟩
  replace bel := Bx.then_below bel hb1
  replace B0 := Lib.hid (B0.out.keep hb1)
  replace B1 := Lib.hid (B1.out.keep hb1)
  clear hb1
  clear c0_0 c0_1 c0_2 c0_3 c1_0 c1_1 c1_2 c1_3
  have c0_0 := B0.out.at 0 rfl
  have c0_1 := B0.out.at 1 rfl
  have c0_2 := B0.out.at 2 rfl
  have c0_3 := B0.out.at 3 rfl
  have c1_0 := B1.out.at 0 rfl
  have c1_1 := B1.out.at 1 rfl
  have c1_2 := B1.out.at 2 rfl
  have c1_3 := B1.out.at 3 rfl
  go_wp2_with fail
  go_ret
  exact ⟨rfl, bel⟩

set_option maxHeartbeats 1000000 in
theorem ref_big2 (c i t C I T : Int) (d D : ByteArray) (A : Option Addr) (l : List Int) (cap : Nat) (w : World) (hz : d.size ≤ 3000) (hD : 3000 < D.size) :
    Calls Try.prog 5 #[pk c i t d, pk C I T D, .slice A l.length cap] w fun e w' => e = .returned (.bool true) ∧ Below w.heap.size w w' := by
  go_enter Try.func5, Try.ntmps5
  go_wp2_with fail
  have bel := Bx.bel_refl w
  have B0 := Lib.hid (Bx.Blk.new w [.int .i64 c, .int .i64 i, .int .i64 t, .string d] 23)
  replace bel := Bx.bel_box bel (Obj.cells #[.int .i64 c, .int .i64 i, .int .i64 t, .string d] 23)
  have c0_0 := B0.out.at 0 rfl
  have c0_1 := B0.out.at 1 rfl
  have c0_2 := B0.out.at 2 rfl
  have c0_3 := B0.out.at 3 rfl
  replace B0 := Lib.hid (B0.out.more (Obj.cells #[.int .i64 C, .int .i64 I, .int .i64 T, .string D] 23))
  have B1 := Lib.hid (Bx.Blk.new_at (W := (w.alloc (Obj.cells #[.int .i64 c, .int .i64 i, .int .i64 t, .string d] 23))) (k := w.heap.size + 1) [.int .i64 C, .int .i64 I, .int .i64 T, .string D] 23 (by simp))
  replace bel := Bx.bel_box bel (Obj.cells #[.int .i64 C, .int .i64 I, .int .i64 T, .string D] 23)
  clear c0_0 c0_1 c0_2 c0_3
  have c0_0 := B0.out.at 0 rfl
  have c0_1 := B0.out.at 1 rfl
  have c0_2 := B0.out.at 2 rfl
  have c0_3 := B0.out.at 3 rfl
  have c1_0 := B1.out.at 0 rfl
  have c1_1 := B1.out.at 1 rfl
  have c1_2 := B1.out.at 2 rfl
  have c1_3 := B1.out.at 3 rfl
  refine (awake_any _).mono ?_; rintro e w1 ⟨rfl, hb1⟩
  replace bel := Bx.then_below bel hb1
  replace B0 := Lib.hid (B0.out.keep hb1)
  replace B1 := Lib.hid (B1.out.keep hb1)
  clear hb1
  clear c0_0 c0_1 c0_2 c0_3 c1_0 c1_1 c1_2 c1_3
  have c0_0 := B0.out.at 0 rfl
  have c0_1 := B0.out.at 1 rfl
  have c0_2 := B0.out.at 2 rfl
  have c0_3 := B0.out.at 3 rfl
  have c1_0 := B1.out.at 0 rfl
  have c1_1 := B1.out.at 1 rfl
  have c1_2 := B1.out.at 2 rfl
  have c1_3 := B1.out.at 3 rfl
  go_wp2_with fail
  go_ret
  exact ⟨rfl, bel⟩

set_option maxHeartbeats 1000000 in
theorem ref_big3 (c i t C I T : Int) (d D : ByteArray) (A : Option Addr) (l : List Int) (cap : Nat) (w : World) (hz : d.size ≤ 3000) (hD : D.size ≤ 3000) (hl : 100 < l.length) :
    Calls Try.prog 5 #[pk c i t d, pk C I T D, .slice A l.length cap] w fun e w' => e = .returned (.bool true) ∧ Below w.heap.size w w' := by
  go_enter Try.func5, Try.ntmps5
  go_wp2_with fail
  have bel := Bx.bel_refl w
  have B0 := Lib.hid (Bx.Blk.new w [.int .i64 c, .int .i64 i, .int .i64 t, .string d] 23)
  replace bel := Bx.bel_box bel (Obj.cells #[.int .i64 c, .int .i64 i, .int .i64 t, .string d] 23)
  have c0_0 := B0.out.at 0 rfl
  have c0_1 := B0.out.at 1 rfl
  have c0_2 := B0.out.at 2 rfl
  have c0_3 := B0.out.at 3 rfl
  replace B0 := Lib.hid (B0.out.more (Obj.cells #[.int .i64 C, .int .i64 I, .int .i64 T, .string D] 23))
  have B1 := Lib.hid (Bx.Blk.new_at (W := (w.alloc (Obj.cells #[.int .i64 c, .int .i64 i, .int .i64 t, .string d] 23))) (k := w.heap.size + 1) [.int .i64 C, .int .i64 I, .int .i64 T, .string D] 23 (by simp))
  replace bel := Bx.bel_box bel (Obj.cells #[.int .i64 C, .int .i64 I, .int .i64 T, .string D] 23)
  clear c0_0 c0_1 c0_2 c0_3
  have c0_0 := B0.out.at 0 rfl
  have c0_1 := B0.out.at 1 rfl
  have c0_2 := B0.out.at 2 rfl
  have c0_3 := B0.out.at 3 rfl
  have c1_0 := B1.out.at 0 rfl
  have c1_1 := B1.out.at 1 rfl
  have c1_2 := B1.out.at 2 rfl
  have c1_3 := B1.out.at 3 rfl
  refine (awake_any _).mono ?_; rintro e w1 ⟨rfl, hb1⟩
  replace bel := Bx.then_below bel hb1
  replace B0 := Lib.hid (B0.out.keep hb1)
  replace B1 := Lib.hid (B1.out.keep hb1)
  clear hb1
  clear c0_0 c0_1 c0_2 c0_3 c1_0 c1_1 c1_2 c1_3
  have c0_0 := B0.out.at 0 rfl
  have c0_1 := B0.out.at 1 rfl
  have c0_2 := B0.out.at 2 rfl
  have c0_3 := B0.out.at 3 rfl
  have c1_0 := B1.out.at 0 rfl
  have c1_1 := B1.out.at 1 rfl
  have c1_2 := B1.out.at 2 rfl
  have c1_3 := B1.out.at 3 rfl
  go_wp2_with fail
  go_ret
  exact ⟨rfl, bel⟩

set_option maxRecDepth 100000 in
set_option maxHeartbeats 8000000 in
theorem ref_false (c i t C I T : Int) (d D : ByteArray) (A : Option Addr) (l : List Int) (cap : Nat) (RC RI RT : Int) (RD wd : ByteArray) (lw : List Int) (w : World) (hz : d.size ≤ 3000) (hD : D.size ≤ 3000) (hl : l.length ≤ 100) (hlw : lw.length ≤ 3000) (hI : Hid (Bx.Ints w A l))
    (HF1 : Hid (∀ w, Hid (Bx.Ints w A l) → Calls Try.prog 20 #[pk c i t d, .slice A l.length cap] w fun e w' => e = .returned (.tuple #[pk RC RI RT RD, .bool false]) ∧ Below w.heap.size w w'))
    (HF2 : Hid (∀ w, Hid (Bx.Ints w A l) → Calls Try.prog 21 #[pk c i t d, .slice A l.length cap] w fun e w' => e = .returned (.tuple #[pk RC RI RT RD, .bool false]) ∧ Below w.heap.size w w'))
    (HW1 : Hid (∀ w, Calls Try.prog 22 #[pk C I T D] w (Bx.Gives lw w)))
    (HW2 : Hid (∀ w, Calls Try.prog 23 #[pk C I T D] w (Bx.Gives lw w)))
    (HN1 : Hid (∀ w, Calls Try.prog 24 #[pk c i t d] w fun e w' => e = .returned (.string wd) ∧ Below w.heap.size w w'))
    (HN2 : Hid (∀ w, Calls Try.prog 25 #[pk c i t d] w fun e w' => e = .returned (.string wd) ∧ Below w.heap.size w w')) :
    Calls Try.prog 5 #[pk c i t d, pk C I T D, .slice A l.length cap] w fun e w' => e = .returned (.bool true) ∧ Below w.heap.size w w' := by
  have x0 : (RC == RC) = true := by simp
  have x1 : (RI == RI) = true := by simp
  have x2 : (RT == RT) = true := by simp
  have x3 : (RD.toList == RD.toList) = true := by simp
  have x4 : (wd.toList == wd.toList) = true := by simp
  have y0 : (wd.toList != wd.toList) = false := by simp
  have y1 : ((lw.length : Int) != (lw.length : Int)) = false := by simp
  go_enter Try.func5, Try.ntmps5
  go_wp2_with fail
  have bel := Bx.bel_refl w
  have B0 := Lib.hid (Bx.Blk.new w [.int .i64 c, .int .i64 i, .int .i64 t, .string d] 23)
  replace bel := Bx.bel_box bel (Obj.cells #[.int .i64 c, .int .i64 i, .int .i64 t, .string d] 23)
  have c0_0 := B0.out.at 0 rfl
  have c0_1 := B0.out.at 1 rfl
  have c0_2 := B0.out.at 2 rfl
  have c0_3 := B0.out.at 3 rfl
  replace B0 := Lib.hid (B0.out.more (Obj.cells #[.int .i64 C, .int .i64 I, .int .i64 T, .string D] 23))
  have B1 := Lib.hid (Bx.Blk.new_at (W := (w.alloc (Obj.cells #[.int .i64 c, .int .i64 i, .int .i64 t, .string d] 23))) (k := w.heap.size + 1) [.int .i64 C, .int .i64 I, .int .i64 T, .string D] 23 (by simp))
  replace bel := Bx.bel_box bel (Obj.cells #[.int .i64 C, .int .i64 I, .int .i64 T, .string D] 23)
  clear c0_0 c0_1 c0_2 c0_3
  have c0_0 := B0.out.at 0 rfl
  have c0_1 := B0.out.at 1 rfl
  have c0_2 := B0.out.at 2 rfl
  have c0_3 := B0.out.at 3 rfl
  have c1_0 := B1.out.at 0 rfl
  have c1_1 := B1.out.at 1 rfl
  have c1_2 := B1.out.at 2 rfl
  have c1_3 := B1.out.at 3 rfl
  refine (HF1.out _ (Lib.hid (hI.out.below bel))).mono ?_; rintro e w1 ⟨rfl, hb1⟩
  replace bel := Bx.then_below bel hb1
  replace B0 := Lib.hid (B0.out.keep hb1)
  replace B1 := Lib.hid (B1.out.keep hb1)
  clear hb1
  replace B0 := Lib.hid (B0.out.more (Obj.cells #[.int .i64 RC, .int .i64 RI, .int .i64 RT, .string RD] 23))
  replace B1 := Lib.hid (B1.out.more (Obj.cells #[.int .i64 RC, .int .i64 RI, .int .i64 RT, .string RD] 23))
  have B2 := Lib.hid (Bx.Blk.new w1 [.int .i64 RC, .int .i64 RI, .int .i64 RT, .string RD] 23)
  replace bel := Bx.bel_box bel (Obj.cells #[.int .i64 RC, .int .i64 RI, .int .i64 RT, .string RD] 23)
  clear c0_0 c0_1 c0_2 c0_3 c1_0 c1_1 c1_2 c1_3
  have c0_0 := B0.out.at 0 rfl
  have c0_1 := B0.out.at 1 rfl
  have c0_2 := B0.out.at 2 rfl
  have c0_3 := B0.out.at 3 rfl
  have c1_0 := B1.out.at 0 rfl
  have c1_1 := B1.out.at 1 rfl
  have c1_2 := B1.out.at 2 rfl
  have c1_3 := B1.out.at 3 rfl
  have c2_0 := B2.out.at 0 rfl
  have c2_1 := B2.out.at 1 rfl
  have c2_2 := B2.out.at 2 rfl
  have c2_3 := B2.out.at 3 rfl
  go_wp2_with fail
  refine (HF2.out _ (Lib.hid (hI.out.below bel))).mono ?_; rintro e w2 ⟨rfl, hb2⟩
  replace bel := Bx.then_below bel hb2
  replace B0 := Lib.hid (B0.out.keep hb2)
  replace B1 := Lib.hid (B1.out.keep hb2)
  replace B2 := Lib.hid (B2.out.keep hb2)
  clear hb2
  replace B0 := Lib.hid (B0.out.more (Obj.cells #[.int .i64 RC, .int .i64 RI, .int .i64 RT, .string RD] 23))
  replace B1 := Lib.hid (B1.out.more (Obj.cells #[.int .i64 RC, .int .i64 RI, .int .i64 RT, .string RD] 23))
  replace B2 := Lib.hid (B2.out.more (Obj.cells #[.int .i64 RC, .int .i64 RI, .int .i64 RT, .string RD] 23))
  have B3 := Lib.hid (Bx.Blk.new w2 [.int .i64 RC, .int .i64 RI, .int .i64 RT, .string RD] 23)
  replace bel := Bx.bel_box bel (Obj.cells #[.int .i64 RC, .int .i64 RI, .int .i64 RT, .string RD] 23)
  clear c0_0 c0_1 c0_2 c0_3 c1_0 c1_1 c1_2 c1_3 c2_0 c2_1 c2_2 c2_3
  have c0_0 := B0.out.at 0 rfl
  have c0_1 := B0.out.at 1 rfl
  have c0_2 := B0.out.at 2 rfl
  have c0_3 := B0.out.at 3 rfl
  have c1_0 := B1.out.at 0 rfl
  have c1_1 := B1.out.at 1 rfl
  have c1_2 := B1.out.at 2 rfl
  have c1_3 := B1.out.at 3 rfl
  have c2_0 := B2.out.at 0 rfl
  have c2_1 := B2.out.at 1 rfl
  have c2_2 := B2.out.at 2 rfl
  have c2_3 := B2.out.at 3 rfl
  have c3_0 := B3.out.at 0 rfl
  have c3_1 := B3.out.at 1 rfl
  have c3_2 := B3.out.at 2 rfl
  have c3_3 := B3.out.at 3 rfl
  go_wp2_with fail
  generalize w1.heap.size = m2 at *
  generalize w2.heap.size = m3 at *
  generalize w2.alloc (Obj.cells #[.int .i64 RC, .int .i64 RI, .int .i64 RT, .string RD] 23) = W0 at *
  go_region_held3 (fun w' => w'.cell? ⟨w.heap.size + 1, 0, none⟩ = some (.int .i64 C) ∧ w'.cell? ⟨w.heap.size + 1, 1, none⟩ = some (.int .i64 I) ∧ w'.cell? ⟨w.heap.size + 1, 2, none⟩ = some (.int .i64 T) ∧ w'.cell? ⟨w.heap.size + 1, 3, none⟩ = some (.string D))
    (first | go_keep | (go_split_ands; exact ⟨Bx.keep_cell (by assumption) (by assumption), Bx.keep_cell (by assumption) (by assumption), Bx.keep_cell (by assumption) (by assumption), Bx.keep_cell (by assumption) (by assumption)⟩))
    (first | (go_at_call 22; (with_reducible refine (HW1.out _).mono ?_); rintro e w5 ⟨D5, n5, rfl, hJ1, hb5⟩) | (go_at_call 23; (with_reducible refine (HW2.out _).mono ?_); rintro e w6 ⟨D6, n6, rfl, hJ2, hb6⟩))
  replace bel := Bx.then_below (Bx.bel_drew bel hb5) hb6
  have HJ1 := Lib.hid (hJ1.below hb6)
  have HJ2 := Lib.hid hJ2
  replace B0 := Lib.hid ((Bx.Blk.keep (W := W0.drew) B0.out hb5).keep hb6)
  replace B1 := Lib.hid ((Bx.Blk.keep (W := W0.drew) B2.out hb5).keep hb6)
  replace B2 := Lib.hid ((Bx.Blk.keep (W := W0.drew) B3.out hb5).keep hb6)
  clear hJ1 hJ2 hb5 hb6 B3
  clear c0_0 c0_1 c0_2 c0_3 c1_0 c1_1 c1_2 c1_3 c2_0 c2_1 c2_2 c2_3 c3_0 c3_1 c3_2 c3_3
  have c0_0 := B0.out.at 0 rfl
  have c0_1 := B0.out.at 1 rfl
  have c0_2 := B0.out.at 2 rfl
  have c0_3 := B0.out.at 3 rfl
  have c1_0 := B1.out.at 0 rfl
  have c1_1 := B1.out.at 1 rfl
  have c1_2 := B1.out.at 2 rfl
  have c1_3 := B1.out.at 3 rfl
  have c2_0 := B2.out.at 0 rfl
  have c2_1 := B2.out.at 1 rfl
  have c2_2 := B2.out.at 2 rfl
  have c2_3 := B2.out.at 3 rfl
  go_wp2_with fail
  go_region_held3 (fun w' => w'.cell? ⟨w.heap.size, 0, none⟩ = some (.int .i64 c) ∧ w'.cell? ⟨w.heap.size, 1, none⟩ = some (.int .i64 i) ∧ w'.cell? ⟨w.heap.size, 2, none⟩ = some (.int .i64 t) ∧ w'.cell? ⟨w.heap.size, 3, none⟩ = some (.string d) ∧ w'.cell? ⟨m2, 0, none⟩ = some (.int .i64 RC) ∧ w'.cell? ⟨m2, 1, none⟩ = some (.int .i64 RI) ∧ w'.cell? ⟨m2, 2, none⟩ = some (.int .i64 RT) ∧ w'.cell? ⟨m2, 3, none⟩ = some (.string RD) ∧ w'.cell? ⟨m3, 0, none⟩ = some (.int .i64 RC) ∧ w'.cell? ⟨m3, 1, none⟩ = some (.int .i64 RI) ∧ w'.cell? ⟨m3, 2, none⟩ = some (.int .i64 RT) ∧ w'.cell? ⟨m3, 3, none⟩ = some (.string RD))
    (first | go_keep | (go_split_ands; exact ⟨Bx.keep_cell (by assumption) (by assumption), Bx.keep_cell (by assumption) (by assumption), Bx.keep_cell (by assumption) (by assumption), Bx.keep_cell (by assumption) (by assumption), Bx.keep_cell (by assumption) (by assumption), Bx.keep_cell (by assumption) (by assumption), Bx.keep_cell (by assumption) (by assumption), Bx.keep_cell (by assumption) (by assumption), Bx.keep_cell (by assumption) (by assumption), Bx.keep_cell (by assumption) (by assumption), Bx.keep_cell (by assumption) (by assumption), Bx.keep_cell (by assumption) (by assumption)⟩))
    (first | (go_at_call 24; with_reducible refine (HN1.out _).mono ?_; rintro e w3 ⟨rfl, hb3⟩) | (go_at_call 25; with_reducible refine (HN2.out _).mono ?_; rintro e w4 ⟨rfl, hb4⟩))
  have b64 := Bx.then_below (Bx.bel_drew (Bx.bel_refl w6) hb3) hb4
  replace HJ1 := Lib.hid (HJ1.out.below b64)
  replace HJ2 := Lib.hid (HJ2.out.below b64)
  replace bel := Bx.then_below bel b64
  replace B0 := Lib.hid (B0.out.keep b64)
  replace B1 := Lib.hid (B1.out.keep b64)
  clear hb3 hb4 b64 B2 c0_0 c0_1 c0_2 c0_3 c1_0 c1_1 c1_2 c1_3 c2_0 c2_1 c2_2 c2_3
  generalize w4 = W1 at *
  go_wp2
  go_loopw [13, 74] (fun _ ix wr => ∃ k nd : Nat, k ≤ lw.length ∧ ix = .int .i64 k ∧ wr = W1.drewN nd) (fun _ ix _ => lw.length - (intOf ix).toNat)
  case atStart => exact ⟨0, 0, Nat.zero_le _, rfl, rfl⟩
  case round =>
    obtain ⟨k, nd, hk, rfl, rfl⟩ := hrel
    by_cases hlt : k < lw.length
    · obtain ⟨a5, rfl, _, g5⟩ := HJ1.out.at hlt
      obtain ⟨a6, rfl, _, g6⟩ := HJ2.out.at hlt
      have z1 : (lw[k] != lw[k]) = false := by simp
      generalize lw[k] = x at *
      go_wp2
      go_quiet (fail)
      go_wp2
      go_roundw
      case rel => exact ⟨k + 1, _, by omega, by go_num, rfl⟩
      case measure => simp [intOf]; omega
    · have b12 := drewN_below W1 nd
      replace bel := Bx.then_below bel b12
      replace B0 := Lib.hid (B0.out.keep b12)
      replace B1 := Lib.hid (B1.out.keep b12)
      clear b12 HJ1 HJ2
      generalize W1.drewN nd = W2 at *
      go_wp2_with fail
      refine (awake_any _).mono ?_; rintro e w8 ⟨rfl, hb8⟩
      go_wp2_with fail
      go_ret
      exact ⟨rfl, Bx.then_below bel hb8⟩

set_option maxRecDepth 100000 in
set_option maxHeartbeats 8000000 in
theorem ref_true (c i t C I T : Int) (d D : ByteArray) (A : Option Addr) (l : List Int) (cap : Nat) (RC RI RT : Int) (RD wd : ByteArray) (lw la : List Int) (w : World) (hz : d.size ≤ 3000) (hD : D.size ≤ 3000) (hl : l.length ≤ 100) (hlw : lw.length ≤ 3000) (hI : Hid (Bx.Ints w A l))
    (HF1 : Hid (∀ w, Hid (Bx.Ints w A l) → Calls Try.prog 20 #[pk c i t d, .slice A l.length cap] w fun e w' => e = .returned (.tuple #[pk RC RI RT RD, .bool true]) ∧ Below w.heap.size w w'))
    (HF2 : Hid (∀ w, Hid (Bx.Ints w A l) → Calls Try.prog 21 #[pk c i t d, .slice A l.length cap] w fun e w' => e = .returned (.tuple #[pk RC RI RT RD, .bool true]) ∧ Below w.heap.size w w'))
    (HW1 : Hid (∀ w, Calls Try.prog 22 #[pk C I T D] w (Bx.Gives lw w)))
    (HW2 : Hid (∀ w, Calls Try.prog 23 #[pk C I T D] w (Bx.Gives lw w)))
    (HN1 : Hid (∀ w, Calls Try.prog 24 #[pk c i t d] w fun e w' => e = .returned (.string wd) ∧ Below w.heap.size w w'))
    (HN2 : Hid (∀ w, Calls Try.prog 25 #[pk c i t d] w fun e w' => e = .returned (.string wd) ∧ Below w.heap.size w w'))
    (HWA : Hid (∀ w, Calls Try.prog 22 #[pk RC RI RT RD] w (Bx.Gives la w)))
    (HRA : Hid (∀ w, Calls Try.prog 12 #[pk RC RI RT RD] w fun e w' => e = .returned (.bool true) ∧ Below w.heap.size w w'))
    (HAA : Hid (∀ w, Calls Try.prog 14 #[pk c i t d, pk RC RI RT RD] w fun e w' => e = .returned (.bool true) ∧ Below w.heap.size w w'))
    (Hla : Hid (la = l.filter tells)) :
    Calls Try.prog 5 #[pk c i t d, pk C I T D, .slice A l.length cap] w fun e w' => e = .returned (.bool true) ∧ Below w.heap.size w w' := by
  have x0 : (RC == RC) = true := by simp
  have x1 : (RI == RI) = true := by simp
  have x2 : (RT == RT) = true := by simp
  have x3 : (RD.toList == RD.toList) = true := by simp
  have x4 : (wd.toList == wd.toList) = true := by simp
  have y0 : (wd.toList != wd.toList) = false := by simp
  have y1 : ((lw.length : Int) != (lw.length : Int)) = false := by simp
  go_enter Try.func5, Try.ntmps5
  go_wp2_with fail
  have bel := Bx.bel_refl w
  have B0 := Lib.hid (Bx.Blk.new w [.int .i64 c, .int .i64 i, .int .i64 t, .string d] 23)
  replace bel := Bx.bel_box bel (Obj.cells #[.int .i64 c, .int .i64 i, .int .i64 t, .string d] 23)
  have c0_0 := B0.out.at 0 rfl
  have c0_1 := B0.out.at 1 rfl
  have c0_2 := B0.out.at 2 rfl
  have c0_3 := B0.out.at 3 rfl
  replace B0 := Lib.hid (B0.out.more (Obj.cells #[.int .i64 C, .int .i64 I, .int .i64 T, .string D] 23))
  have B1 := Lib.hid (Bx.Blk.new_at (W := (w.alloc (Obj.cells #[.int .i64 c, .int .i64 i, .int .i64 t, .string d] 23))) (k := w.heap.size + 1) [.int .i64 C, .int .i64 I, .int .i64 T, .string D] 23 (by simp))
  replace bel := Bx.bel_box bel (Obj.cells #[.int .i64 C, .int .i64 I, .int .i64 T, .string D] 23)
  clear c0_0 c0_1 c0_2 c0_3
  have c0_0 := B0.out.at 0 rfl
  have c0_1 := B0.out.at 1 rfl
  have c0_2 := B0.out.at 2 rfl
  have c0_3 := B0.out.at 3 rfl
  have c1_0 := B1.out.at 0 rfl
  have c1_1 := B1.out.at 1 rfl
  have c1_2 := B1.out.at 2 rfl
  have c1_3 := B1.out.at 3 rfl
  refine (HF1.out _ (Lib.hid (hI.out.below bel))).mono ?_; rintro e w1 ⟨rfl, hb1⟩
  replace bel := Bx.then_below bel hb1
  replace B0 := Lib.hid (B0.out.keep hb1)
  replace B1 := Lib.hid (B1.out.keep hb1)
  clear hb1
  replace B0 := Lib.hid (B0.out.more (Obj.cells #[.int .i64 RC, .int .i64 RI, .int .i64 RT, .string RD] 23))
  replace B1 := Lib.hid (B1.out.more (Obj.cells #[.int .i64 RC, .int .i64 RI, .int .i64 RT, .string RD] 23))
  have B2 := Lib.hid (Bx.Blk.new w1 [.int .i64 RC, .int .i64 RI, .int .i64 RT, .string RD] 23)
  replace bel := Bx.bel_box bel (Obj.cells #[.int .i64 RC, .int .i64 RI, .int .i64 RT, .string RD] 23)
  clear c0_0 c0_1 c0_2 c0_3 c1_0 c1_1 c1_2 c1_3
  have c0_0 := B0.out.at 0 rfl
  have c0_1 := B0.out.at 1 rfl
  have c0_2 := B0.out.at 2 rfl
  have c0_3 := B0.out.at 3 rfl
  have c1_0 := B1.out.at 0 rfl
  have c1_1 := B1.out.at 1 rfl
  have c1_2 := B1.out.at 2 rfl
  have c1_3 := B1.out.at 3 rfl
  have c2_0 := B2.out.at 0 rfl
  have c2_1 := B2.out.at 1 rfl
  have c2_2 := B2.out.at 2 rfl
  have c2_3 := B2.out.at 3 rfl
  go_wp2_with fail
  refine (HF2.out _ (Lib.hid (hI.out.below bel))).mono ?_; rintro e w2 ⟨rfl, hb2⟩
  replace bel := Bx.then_below bel hb2
  replace B0 := Lib.hid (B0.out.keep hb2)
  replace B1 := Lib.hid (B1.out.keep hb2)
  replace B2 := Lib.hid (B2.out.keep hb2)
  clear hb2
  replace B0 := Lib.hid (B0.out.more (Obj.cells #[.int .i64 RC, .int .i64 RI, .int .i64 RT, .string RD] 23))
  replace B1 := Lib.hid (B1.out.more (Obj.cells #[.int .i64 RC, .int .i64 RI, .int .i64 RT, .string RD] 23))
  replace B2 := Lib.hid (B2.out.more (Obj.cells #[.int .i64 RC, .int .i64 RI, .int .i64 RT, .string RD] 23))
  have B3 := Lib.hid (Bx.Blk.new w2 [.int .i64 RC, .int .i64 RI, .int .i64 RT, .string RD] 23)
  replace bel := Bx.bel_box bel (Obj.cells #[.int .i64 RC, .int .i64 RI, .int .i64 RT, .string RD] 23)
  clear c0_0 c0_1 c0_2 c0_3 c1_0 c1_1 c1_2 c1_3 c2_0 c2_1 c2_2 c2_3
  have c0_0 := B0.out.at 0 rfl
  have c0_1 := B0.out.at 1 rfl
  have c0_2 := B0.out.at 2 rfl
  have c0_3 := B0.out.at 3 rfl
  have c1_0 := B1.out.at 0 rfl
  have c1_1 := B1.out.at 1 rfl
  have c1_2 := B1.out.at 2 rfl
  have c1_3 := B1.out.at 3 rfl
  have c2_0 := B2.out.at 0 rfl
  have c2_1 := B2.out.at 1 rfl
  have c2_2 := B2.out.at 2 rfl
  have c2_3 := B2.out.at 3 rfl
  have c3_0 := B3.out.at 0 rfl
  have c3_1 := B3.out.at 1 rfl
  have c3_2 := B3.out.at 2 rfl
  have c3_3 := B3.out.at 3 rfl
  go_wp2_with fail
  generalize w1.heap.size = m2 at *
  generalize w2.heap.size = m3 at *
  generalize w2.alloc (Obj.cells #[.int .i64 RC, .int .i64 RI, .int .i64 RT, .string RD] 23) = W0 at *
  go_region_held3 (fun w' => w'.cell? ⟨w.heap.size + 1, 0, none⟩ = some (.int .i64 C) ∧ w'.cell? ⟨w.heap.size + 1, 1, none⟩ = some (.int .i64 I) ∧ w'.cell? ⟨w.heap.size + 1, 2, none⟩ = some (.int .i64 T) ∧ w'.cell? ⟨w.heap.size + 1, 3, none⟩ = some (.string D))
    (first | go_keep | (go_split_ands; exact ⟨Bx.keep_cell (by assumption) (by assumption), Bx.keep_cell (by assumption) (by assumption), Bx.keep_cell (by assumption) (by assumption), Bx.keep_cell (by assumption) (by assumption)⟩))
    (first | (go_at_call 22; (with_reducible refine (HW1.out _).mono ?_); rintro e w5 ⟨D5, n5, rfl, hJ1, hb5⟩) | (go_at_call 23; (with_reducible refine (HW2.out _).mono ?_); rintro e w6 ⟨D6, n6, rfl, hJ2, hb6⟩))
  replace bel := Bx.then_below (Bx.bel_drew bel hb5) hb6
  have HJ1 := Lib.hid (hJ1.below hb6)
  have HJ2 := Lib.hid hJ2
  replace B0 := Lib.hid ((Bx.Blk.keep (W := W0.drew) B0.out hb5).keep hb6)
  replace B1 := Lib.hid ((Bx.Blk.keep (W := W0.drew) B2.out hb5).keep hb6)
  replace B2 := Lib.hid ((Bx.Blk.keep (W := W0.drew) B3.out hb5).keep hb6)
  clear hJ1 hJ2 hb5 hb6 B3
  clear c0_0 c0_1 c0_2 c0_3 c1_0 c1_1 c1_2 c1_3 c2_0 c2_1 c2_2 c2_3 c3_0 c3_1 c3_2 c3_3
  have c0_0 := B0.out.at 0 rfl
  have c0_1 := B0.out.at 1 rfl
  have c0_2 := B0.out.at 2 rfl
  have c0_3 := B0.out.at 3 rfl
  have c1_0 := B1.out.at 0 rfl
  have c1_1 := B1.out.at 1 rfl
  have c1_2 := B1.out.at 2 rfl
  have c1_3 := B1.out.at 3 rfl
  have c2_0 := B2.out.at 0 rfl
  have c2_1 := B2.out.at 1 rfl
  have c2_2 := B2.out.at 2 rfl
  have c2_3 := B2.out.at 3 rfl
  go_wp2_with fail
  go_region_held3 (fun w' => w'.cell? ⟨w.heap.size, 0, none⟩ = some (.int .i64 c) ∧ w'.cell? ⟨w.heap.size, 1, none⟩ = some (.int .i64 i) ∧ w'.cell? ⟨w.heap.size, 2, none⟩ = some (.int .i64 t) ∧ w'.cell? ⟨w.heap.size, 3, none⟩ = some (.string d) ∧ w'.cell? ⟨m2, 0, none⟩ = some (.int .i64 RC) ∧ w'.cell? ⟨m2, 1, none⟩ = some (.int .i64 RI) ∧ w'.cell? ⟨m2, 2, none⟩ = some (.int .i64 RT) ∧ w'.cell? ⟨m2, 3, none⟩ = some (.string RD) ∧ w'.cell? ⟨m3, 0, none⟩ = some (.int .i64 RC) ∧ w'.cell? ⟨m3, 1, none⟩ = some (.int .i64 RI) ∧ w'.cell? ⟨m3, 2, none⟩ = some (.int .i64 RT) ∧ w'.cell? ⟨m3, 3, none⟩ = some (.string RD))
    (first | go_keep | (go_split_ands; exact ⟨Bx.keep_cell (by assumption) (by assumption), Bx.keep_cell (by assumption) (by assumption), Bx.keep_cell (by assumption) (by assumption), Bx.keep_cell (by assumption) (by assumption), Bx.keep_cell (by assumption) (by assumption), Bx.keep_cell (by assumption) (by assumption), Bx.keep_cell (by assumption) (by assumption), Bx.keep_cell (by assumption) (by assumption), Bx.keep_cell (by assumption) (by assumption), Bx.keep_cell (by assumption) (by assumption), Bx.keep_cell (by assumption) (by assumption), Bx.keep_cell (by assumption) (by assumption)⟩))
    (first | (go_at_call 24; with_reducible refine (HN1.out _).mono ?_; rintro e w3 ⟨rfl, hb3⟩) | (go_at_call 25; with_reducible refine (HN2.out _).mono ?_; rintro e w4 ⟨rfl, hb4⟩))
  have b64 := Bx.then_below (Bx.bel_drew (Bx.bel_refl w6) hb3) hb4
  replace HJ1 := Lib.hid (HJ1.out.below b64)
  replace HJ2 := Lib.hid (HJ2.out.below b64)
  replace bel := Bx.then_below bel b64
  replace B0 := Lib.hid (B0.out.keep b64)
  replace B1 := Lib.hid (B1.out.keep b64)
  clear hb3 hb4 b64 B2 c0_0 c0_1 c0_2 c0_3 c1_0 c1_1 c1_2 c1_3 c2_0 c2_1 c2_2 c2_3
  generalize w4 = W1 at *
  go_wp2
  go_loopw [13, 74] (fun _ ix wr => ∃ k nd : Nat, k ≤ lw.length ∧ ix = .int .i64 k ∧ wr = W1.drewN nd) (fun _ ix _ => lw.length - (intOf ix).toNat)
  case atStart => exact ⟨0, 0, Nat.zero_le _, rfl, rfl⟩
  case round =>
    obtain ⟨k, nd, hk, rfl, rfl⟩ := hrel
    by_cases hlt : k < lw.length
    · obtain ⟨a5, rfl, _, g5⟩ := HJ1.out.at hlt
      obtain ⟨a6, rfl, _, g6⟩ := HJ2.out.at hlt
      have z1 : (lw[k] != lw[k]) = false := by simp
      generalize lw[k] = x at *
      go_wp2
      go_quiet (fail)
      go_wp2
      go_roundw
      case rel => exact ⟨k + 1, _, by omega, by go_num, rfl⟩
      case measure => simp [intOf]; omega
    · have b12 := drewN_below W1 nd
      replace bel := Bx.then_below bel b12
      replace B0 := Lib.hid (B0.out.keep b12)
      replace B1 := Lib.hid (B1.out.keep b12)
      clear b12 HJ1 HJ2
      generalize W1.drewN nd = W2 at *
      have c1_0 := B1.out.at 0 rfl
      have c1_1 := B1.out.at 1 rfl
      have c1_2 := B1.out.at 2 rfl
      have c1_3 := B1.out.at 3 rfl
      go_wp2_with fail
      refine (HWA.out _).mono ?_; rintro e w7 ⟨D7, n7, rfl, hJ7, hb7⟩
      clear c1_0 c1_1 c1_2 c1_3
      replace bel := Bx.then_below bel hb7
      replace B0 := Lib.hid (B0.out.keep hb7)
      replace B1 := Lib.hid (B1.out.keep hb7)
      have HJ7 := Lib.hid hJ7
      have HIK := Lib.hid (hI.out.below bel)
      have hla : la.length ≤ 100 := by have h9 := List.length_filter_le tells l; rw [← Hla.out] at h9; omega
      clear hb7 hJ7
      go_wp2
      go_loop [15, 17, 94] (fun nv _ ix => ∃ k n : Nat, k ≤ l.length ∧ n ≤ k ∧ ix = .int .i64 k ∧ nv = .int .i64 n ∧ Aside (((l.take k).filter tells).length = n)) (fun _ _ ix => l.length - (intOf ix).toNat)
      case atStart => exact ⟨0, 0, Nat.zero_le _, Nat.zero_le _, rfl, rfl, rfl⟩
      case round =>
        obtain ⟨k, n, hk, hnk, rfl, rfl, HN⟩ := hrel
        by_cases hlt : k < l.length
        · obtain ⟨ad, rfl, _, g5⟩ := HIK.out.at hlt
          cases ht : tells l[k]
          · have HM := Lib.hid (count_miss l k hlt ht)
            unfold tells at ht
            rw [decide_eq_false_iff_not] at ht
            generalize l[k] = x at *
            rcases (show x ≤ 3 ∨ 3 < x ∧ 256 ≤ x by omega) with z2 | ⟨z2, z3⟩ <;>
            · clear ht
              go_wp2
              go_round
              case rel => exact ⟨k + 1, n, by omega, by omega, by go_num, rfl, HM.out.trans HN.out⟩
              case measure => simp [intOf]; omega
          · have HM := Lib.hid (count_hit l k hlt ht)
            have hq := filter_at l k hlt ht
            rw [HN.out, ← Hla.out] at hq
            obtain ⟨a7, rfl, _, g7⟩ := HJ7.out n _ hq
            have hn : n < la.length := (List.getElem?_eq_some_iff.1 hq).1
            unfold tells at ht
            rw [decide_eq_true_iff] at ht
            clear hq
            generalize l[k] = x at *
            have z2 : 3 < x := by omega
            have z3 : x < 256 := by omega
            have z4 : (x != x) = false := by simp
            clear ht
            go_wp2
            go_round
            case rel => exact ⟨k + 1, n + 1, by omega, by omega, by go_num, by go_num, HM.out.trans (congrArg (· + 1) HN.out)⟩
            case measure => simp [intOf]; omega
        · obtain rfl : n = la.length := by have h9 := HN.out; rw [List.take_of_length_le (by omega), ← Hla.out] at h9; exact h9.symm
          have z1 : ((la.length : Int) == (la.length : Int)) = true := by simp
          have c0_0 := B0.out.at 0 rfl
          have c0_1 := B0.out.at 1 rfl
          have c0_2 := B0.out.at 2 rfl
          have c0_3 := B0.out.at 3 rfl
          have c1_0 := B1.out.at 0 rfl
          have c1_1 := B1.out.at 1 rfl
          have c1_2 := B1.out.at 2 rfl
          have c1_3 := B1.out.at 3 rfl
          go_wp2_with fail
          refine (HRA.out _).mono ?_; rintro e w8 ⟨rfl, hb8⟩
          replace bel := Bx.then_below bel hb8
          replace B0 := Lib.hid (B0.out.keep hb8)
          replace B1 := Lib.hid (B1.out.keep hb8)
          clear c0_0 c0_1 c0_2 c0_3
          clear c1_0 c1_1 c1_2 c1_3
          have c0_0 := B0.out.at 0 rfl
          have c0_1 := B0.out.at 1 rfl
          have c0_2 := B0.out.at 2 rfl
          have c0_3 := B0.out.at 3 rfl
          have c1_0 := B1.out.at 0 rfl
          have c1_1 := B1.out.at 1 rfl
          have c1_2 := B1.out.at 2 rfl
          have c1_3 := B1.out.at 3 rfl
          go_wp2_with fail
          refine (HAA.out _).mono ?_; rintro e w9 ⟨rfl, hb9⟩
          replace bel := Bx.then_below bel hb9
          go_wp2_with fail
          refine (awake_any _).mono ?_; rintro e wa ⟨rfl, hba⟩
          go_wp2_with fail
          go_ret
          exact ⟨rfl, Bx.then_below bel hba⟩

end Eap
end Go.Proofs.Ytmgjjcadeikdgaa
