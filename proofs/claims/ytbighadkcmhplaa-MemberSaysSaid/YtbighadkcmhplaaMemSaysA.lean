/-
  The law MemberSays, way by way.
-/
import Derived.Test.YtbighadkcmhplaaMemL
import Derived.Test.YtbighadkcmhplaaMemK
import Derived.Test.YtbighadkcmhplaaMemH
import Derived.Test.YtbighadkcmhplaaMemJ
namespace Go.Proofs.Ytbighadkcmhplaa
open Go.RowKit
namespace Mem
open Oct Eth

theorem same_usual (A B : Option Addr) (w : World) (hA : Vls w A usualL) (hB : Vls w B usualL) : Calls Try.prog 17 #[pv (fun _ => 1) (fun _ => 0) A 4 4, pv (fun _ => 1) (fun _ => 0) B 4 4] w fun e w' => e = .returned (.bool true) ∧ Below w.heap.size w w' :=
  same_any (fun _ => 1) (fun _ => 0) usualL (by decide) A B 4 4 w hA hB

set_option maxRecDepth 100000 in
set_option maxHeartbeats 4000000 in
theorem says_big1 (o k : Nat → Int) (A : Option Addr) (n c : Nat) (d s : Int) (g : Bool) (p v t : Int) (X : ByteArray) (a b : Int) (hn : n ≤ maxLen) (w : World) (h : 100 < n) :
    Calls Try.prog 3 #[pv o k A n c, fr d s g p v t X, .agg #[.int .i64 a, .int .i64 b]] w fun e w' => e = .returned (.bool true) ∧ Below w.heap.size w w' := by
  have HL := Lib.hid (fun w => long_any o k A n hn c w)
  rw [decide_eq_true h] at HL
  have bel := Bx.bel_refl w
  have B0 := Lib.hid (Bx.Blk.new w (pc o k A n c) 25)
  replace bel := Bx.bel_box bel (Obj.cells (pc o k A n c).toArray 25)
  replace B0 := Lib.hid (B0.out.more (Obj.cells #[.int .u64 d, .int .u64 s, .bool g, .int .i64 p, .int .i64 v, .int .i64 t, .string X] 29))
  have B1 := Lib.hid (Bx.Blk.new_at (W := (w.alloc (Obj.cells (pc o k A n c).toArray 25))) (k := w.heap.size + 1) [.int .u64 d, .int .u64 s, .bool g, .int .i64 p, .int .i64 v, .int .i64 t, .string X] 29 (by simp))
  replace bel := Bx.bel_box bel (Obj.cells #[.int .u64 d, .int .u64 s, .bool g, .int .i64 p, .int .i64 v, .int .i64 t, .string X] 29)
  obtain ⟨c1_0, c1_1, c1_2, c1_3, c1_4, c1_5, c1_6⟩ := B1.out.all7
  replace B0 := Lib.hid (B0.out.more (Obj.cells #[.int .i64 a, .int .i64 b] 30))
  replace B1 := Lib.hid (B1.out.more (Obj.cells #[.int .i64 a, .int .i64 b] 30))
  have B2 := Lib.hid (Bx.Blk.new_at (W := ((w.alloc (Obj.cells (pc o k A n c).toArray 25)).alloc (Obj.cells #[.int .u64 d, .int .u64 s, .bool g, .int .i64 p, .int .i64 v, .int .i64 t, .string X] 29))) (k := w.heap.size + 2) [.int .i64 a, .int .i64 b] 30 (by simp))
  replace bel := Bx.bel_box bel (Obj.cells #[.int .i64 a, .int .i64 b] 30)
  clear c1_0 c1_1 c1_2 c1_3 c1_4 c1_5 c1_6
  obtain ⟨c1_0, c1_1, c1_2, c1_3, c1_4, c1_5, c1_6⟩ := B1.out.all7
  obtain ⟨c2_0, c2_1⟩ := B2.out.all2
  go_enter Try.func3, Try.ntmps3
  go_wp2_with (first | ((with_reducible refine load_at ?_ ?_ (w.heap.size) ?_ o k A n c ?_ ?_); (· rfl); (· rfl); (· rfl); (· exact B0.out)))
  refine (HL.out _).mono ?_; rintro e w1 ⟨rfl, hb1⟩
  replace bel := Bx.then_below bel hb1
  replace B0 := Lib.hid (B0.out.keep hb1)
  replace B1 := Lib.hid (B1.out.keep hb1)
  replace B2 := Lib.hid (B2.out.keep hb1)
  clear hb1
  clear c1_0 c1_1 c1_2 c1_3 c1_4 c1_5 c1_6 c2_0 c2_1
  obtain ⟨c1_0, c1_1, c1_2, c1_3, c1_4, c1_5, c1_6⟩ := B1.out.all7
  obtain ⟨c2_0, c2_1⟩ := B2.out.all2
  go_wp2_with (first | ((with_reducible refine load_at ?_ ?_ (w.heap.size) ?_ o k A n c ?_ ?_); (· rfl); (· rfl); (· rfl); (· exact B0.out)))
  refine (awake_any _).mono ?_; rintro e w2 ⟨rfl, hb2⟩
  replace bel := Bx.then_below bel hb2
  replace B0 := Lib.hid (B0.out.keep hb2)
  replace B1 := Lib.hid (B1.out.keep hb2)
  replace B2 := Lib.hid (B2.out.keep hb2)
  clear hb2
  go_wp2_with (first | ((with_reducible refine load_at ?_ ?_ (w.heap.size) ?_ o k A n c ?_ ?_); (· rfl); (· rfl); (· rfl); (· exact B0.out)))
  go_ret
  exact ⟨rfl, bel⟩

set_option maxRecDepth 100000 in
set_option maxHeartbeats 4000000 in
theorem says_big2 (o k : Nat → Int) (A : Option Addr) (n c : Nat) (d s : Int) (g : Bool) (p v t : Int) (X : ByteArray) (a b : Int) (hn : n ≤ maxLen) (w : World) (h : ¬ 100 < n) (hX : 12000 < X.size) :
    Calls Try.prog 3 #[pv o k A n c, fr d s g p v t X, .agg #[.int .i64 a, .int .i64 b]] w fun e w' => e = .returned (.bool true) ∧ Below w.heap.size w w' := by
  have HL := Lib.hid (fun w => long_any o k A n hn c w)
  rw [decide_eq_false h] at HL
  have bel := Bx.bel_refl w
  have B0 := Lib.hid (Bx.Blk.new w (pc o k A n c) 25)
  replace bel := Bx.bel_box bel (Obj.cells (pc o k A n c).toArray 25)
  replace B0 := Lib.hid (B0.out.more (Obj.cells #[.int .u64 d, .int .u64 s, .bool g, .int .i64 p, .int .i64 v, .int .i64 t, .string X] 29))
  have B1 := Lib.hid (Bx.Blk.new_at (W := (w.alloc (Obj.cells (pc o k A n c).toArray 25))) (k := w.heap.size + 1) [.int .u64 d, .int .u64 s, .bool g, .int .i64 p, .int .i64 v, .int .i64 t, .string X] 29 (by simp))
  replace bel := Bx.bel_box bel (Obj.cells #[.int .u64 d, .int .u64 s, .bool g, .int .i64 p, .int .i64 v, .int .i64 t, .string X] 29)
  obtain ⟨c1_0, c1_1, c1_2, c1_3, c1_4, c1_5, c1_6⟩ := B1.out.all7
  replace B0 := Lib.hid (B0.out.more (Obj.cells #[.int .i64 a, .int .i64 b] 30))
  replace B1 := Lib.hid (B1.out.more (Obj.cells #[.int .i64 a, .int .i64 b] 30))
  have B2 := Lib.hid (Bx.Blk.new_at (W := ((w.alloc (Obj.cells (pc o k A n c).toArray 25)).alloc (Obj.cells #[.int .u64 d, .int .u64 s, .bool g, .int .i64 p, .int .i64 v, .int .i64 t, .string X] 29))) (k := w.heap.size + 2) [.int .i64 a, .int .i64 b] 30 (by simp))
  replace bel := Bx.bel_box bel (Obj.cells #[.int .i64 a, .int .i64 b] 30)
  clear c1_0 c1_1 c1_2 c1_3 c1_4 c1_5 c1_6
  obtain ⟨c1_0, c1_1, c1_2, c1_3, c1_4, c1_5, c1_6⟩ := B1.out.all7
  obtain ⟨c2_0, c2_1⟩ := B2.out.all2
  go_enter Try.func3, Try.ntmps3
  go_wp2_with (first | ((with_reducible refine load_at ?_ ?_ (w.heap.size) ?_ o k A n c ?_ ?_); (· rfl); (· rfl); (· rfl); (· exact B0.out)))
  refine (HL.out _).mono ?_; rintro e w1 ⟨rfl, hb1⟩
  replace bel := Bx.then_below bel hb1
  replace B0 := Lib.hid (B0.out.keep hb1)
  replace B1 := Lib.hid (B1.out.keep hb1)
  replace B2 := Lib.hid (B2.out.keep hb1)
  clear hb1
  clear c1_0 c1_1 c1_2 c1_3 c1_4 c1_5 c1_6 c2_0 c2_1
  obtain ⟨c1_0, c1_1, c1_2, c1_3, c1_4, c1_5, c1_6⟩ := B1.out.all7
  obtain ⟨c2_0, c2_1⟩ := B2.out.all2
  go_wp2_with (first | ((with_reducible refine load_at ?_ ?_ (w.heap.size) ?_ o k A n c ?_ ?_); (· rfl); (· rfl); (· rfl); (· exact B0.out)))
  refine (awake_any _).mono ?_; rintro e w2 ⟨rfl, hb2⟩
  replace bel := Bx.then_below bel hb2
  replace B0 := Lib.hid (B0.out.keep hb2)
  replace B1 := Lib.hid (B1.out.keep hb2)
  replace B2 := Lib.hid (B2.out.keep hb2)
  clear hb2
  go_wp2_with (first | ((with_reducible refine load_at ?_ ?_ (w.heap.size) ?_ o k A n c ?_ ?_); (· rfl); (· rfl); (· rfl); (· exact B0.out)))
  go_ret
  exact ⟨rfl, bel⟩

set_option maxRecDepth 100000 in
set_option maxHeartbeats 8000000 in
theorem says_all (o k : Nat → Int) (A : Option Addr) (n c : Nat) (d s : Int) (g : Bool) (p v t : Int) (X : ByteArray) (a b : Int) (T : Int) (T2 S2 : Bool) (d2 s2 : Int) (g2 : Bool) (p2 v2 t2 : Int) (X2 : ByteArray) (y1 y2 y3 : Int) (q r : Bool) (F : Int) (w : World) (hX : X.size ≤ 12000)
    (HL : Hid (∀ w', Below w.heap.size w w' → Calls Try.prog 5 #[pv o k A n c] w' fun e w'' => e = .returned (.bool false) ∧ Below w'.heap.size w' w''))
    (HT : Hid (∀ w', Below w.heap.size w w' → Calls Try.prog 7 #[pv o k A n c, .int .i64 a, fr d s g p v t X] w' fun e w'' => e = .returned (.tuple #[.int .i64 T, .bool T2]) ∧ Below w'.heap.size w' w''))
    (HT2 : Hid (∀ w', Below w.heap.size w w' → Calls Try.prog 8 #[pv o k A n c, .int .i64 a, fr d s g p v t X] w' fun e w'' => e = .returned (.tuple #[.int .i64 T, .bool T2]) ∧ Below w'.heap.size w' w''))
    (HS : Hid (∀ w', Below w.heap.size w w' → Calls Try.prog 9 #[pv o k A n c, .int .i64 a, .int .i64 b, fr d s g p v t X] w' fun e w'' => e = .returned (.tuple #[fr d2 s2 g2 p2 v2 t2 X2, .bool S2]) ∧ Below w'.heap.size w' w''))
    (HS2 : Hid (∀ w', Below w.heap.size w w' → Calls Try.prog 10 #[pv o k A n c, .int .i64 a, .int .i64 b, fr d s g p v t X] w' fun e w'' => e = .returned (.tuple #[fr d2 s2 g2 p2 v2 t2 X2, .bool S2]) ∧ Below w'.heap.size w' w''))
    (HF : Hid (∀ w', Below w.heap.size w w' → Calls Try.prog 11 #[pv o k A n c, .int .i64 b] w' fun e w'' => e = .returned (.tuple #[.agg #[.int .i64 y1, .int .i64 y2, .int .i64 y3], .bool q]) ∧ Below w'.heap.size w' w''))
    (HF2 : Hid (∀ w', Below w.heap.size w w' → Calls Try.prog 12 #[pv o k A n c, .int .i64 b] w' fun e w'' => e = .returned (.tuple #[.agg #[.int .i64 y1, .int .i64 y2, .int .i64 y3], .bool q]) ∧ Below w'.heap.size w' w''))
    (HR : Hid (∀ w', Below w.heap.size w w' → Calls Try.prog 13 #[pv o k A n c] w' fun e w'' => e = .returned (.bool r) ∧ Below w'.heap.size w' w''))
    (HR2 : Hid (∀ w', Below w.heap.size w w' → Calls Try.prog 14 #[pv o k A n c] w' fun e w'' => e = .returned (.bool r) ∧ Below w'.heap.size w' w''))
    (HO : Hid (∀ w', Below w.heap.size w w' → Calls Try.prog 15 #[pv o k A n c, .int .i64 b] w' fun e w'' => e = .returned (.int .i64 F) ∧ Below w'.heap.size w' w''))
    (HO2 : Hid (∀ w', Below w.heap.size w w' → Calls Try.prog 16 #[pv o k A n c, .int .i64 b] w' fun e w'' => e = .returned (.int .i64 F) ∧ Below w'.heap.size w' w'')) :
    Calls Try.prog 3 #[pv o k A n c, fr d s g p v t X, .agg #[.int .i64 a, .int .i64 b]] w fun e w' => e = .returned (.bool true) ∧ Below w.heap.size w w' := by
  have e0 : (T == T) = true := by simp
  have e1 : (T2 == T2) = true := by simp
  have e2 : (S2 == S2) = true := by simp
  have e3 : (d2 == d2) = true := by simp
  have e4 : (s2 == s2) = true := by simp
  have e5 : (g2 == g2) = true := by simp
  have e6 : (p2 == p2) = true := by simp
  have e7 : (v2 == v2) = true := by simp
  have e8 : (t2 == t2) = true := by simp
  have e9 : (X2.toList == X2.toList) = true := by simp
  have e10 : (y1 == y1) = true := by simp
  have e11 : (y2 == y2) = true := by simp
  have e12 : (y3 == y3) = true := by simp
  have e13 : (q == q) = true := by simp
  have e14 : (r == r) = true := by simp
  have e15 : (F == F) = true := by simp
  have bel := Bx.bel_refl w
  have B0 := Lib.hid (Bx.Blk.new w (pc o k A n c) 25)
  replace bel := Bx.bel_box bel (Obj.cells (pc o k A n c).toArray 25)
  replace B0 := Lib.hid (B0.out.more (Obj.cells #[.int .u64 d, .int .u64 s, .bool g, .int .i64 p, .int .i64 v, .int .i64 t, .string X] 29))
  have B1 := Lib.hid (Bx.Blk.new_at (W := (w.alloc (Obj.cells (pc o k A n c).toArray 25))) (k := w.heap.size + 1) [.int .u64 d, .int .u64 s, .bool g, .int .i64 p, .int .i64 v, .int .i64 t, .string X] 29 (by simp))
  replace bel := Bx.bel_box bel (Obj.cells #[.int .u64 d, .int .u64 s, .bool g, .int .i64 p, .int .i64 v, .int .i64 t, .string X] 29)
  obtain ⟨c1_0, c1_1, c1_2, c1_3, c1_4, c1_5, c1_6⟩ := B1.out.all7
  replace B0 := Lib.hid (B0.out.more (Obj.cells #[.int .i64 a, .int .i64 b] 30))
  replace B1 := Lib.hid (B1.out.more (Obj.cells #[.int .i64 a, .int .i64 b] 30))
  have B2 := Lib.hid (Bx.Blk.new_at (W := ((w.alloc (Obj.cells (pc o k A n c).toArray 25)).alloc (Obj.cells #[.int .u64 d, .int .u64 s, .bool g, .int .i64 p, .int .i64 v, .int .i64 t, .string X] 29))) (k := w.heap.size + 2) [.int .i64 a, .int .i64 b] 30 (by simp))
  replace bel := Bx.bel_box bel (Obj.cells #[.int .i64 a, .int .i64 b] 30)
  clear c1_0 c1_1 c1_2 c1_3 c1_4 c1_5 c1_6
  obtain ⟨c1_0, c1_1, c1_2, c1_3, c1_4, c1_5, c1_6⟩ := B1.out.all7
  obtain ⟨c2_0, c2_1⟩ := B2.out.all2
  go_enter Try.func3, Try.ntmps3
  go_wp2_with (first | ((with_reducible refine load_at ?_ ?_ (w.heap.size) ?_ o k A n c ?_ ?_); (· rfl); (· rfl); (· rfl); (· exact B0.out)))
  refine (HL.out _ bel).mono ?_; rintro e w1 ⟨rfl, hb1⟩
  replace bel := Bx.then_below bel hb1
  replace B0 := Lib.hid (B0.out.keep hb1)
  replace B1 := Lib.hid (B1.out.keep hb1)
  replace B2 := Lib.hid (B2.out.keep hb1)
  clear hb1
  clear c1_0 c1_1 c1_2 c1_3 c1_4 c1_5 c1_6 c2_0 c2_1
  obtain ⟨c1_0, c1_1, c1_2, c1_3, c1_4, c1_5, c1_6⟩ := B1.out.all7
  obtain ⟨c2_0, c2_1⟩ := B2.out.all2
  go_wp2_with (first | ((with_reducible refine load_at ?_ ?_ (w.heap.size) ?_ o k A n c ?_ ?_); (· rfl); (· rfl); (· rfl); (· exact B0.out)))
  refine (HT.out _ bel).mono ?_; rintro e w2 ⟨rfl, hb2⟩
  replace bel := Bx.then_below bel hb2
  replace B0 := Lib.hid (B0.out.keep hb2)
  replace B1 := Lib.hid (B1.out.keep hb2)
  replace B2 := Lib.hid (B2.out.keep hb2)
  clear hb2
  clear c1_0 c1_1 c1_2 c1_3 c1_4 c1_5 c1_6 c2_0 c2_1
  obtain ⟨c1_0, c1_1, c1_2, c1_3, c1_4, c1_5, c1_6⟩ := B1.out.all7
  obtain ⟨c2_0, c2_1⟩ := B2.out.all2
  go_wp2_with (first | ((with_reducible refine load_at ?_ ?_ (w.heap.size) ?_ o k A n c ?_ ?_); (· rfl); (· rfl); (· rfl); (· exact B0.out)))
  refine (HT2.out _ bel).mono ?_; rintro e w3 ⟨rfl, hb3⟩
  replace bel := Bx.then_below bel hb3
  replace B0 := Lib.hid (B0.out.keep hb3)
  replace B1 := Lib.hid (B1.out.keep hb3)
  replace B2 := Lib.hid (B2.out.keep hb3)
  clear hb3
  clear c1_0 c1_1 c1_2 c1_3 c1_4 c1_5 c1_6 c2_0 c2_1
  obtain ⟨c1_0, c1_1, c1_2, c1_3, c1_4, c1_5, c1_6⟩ := B1.out.all7
  obtain ⟨c2_0, c2_1⟩ := B2.out.all2
  go_wp2_with (first | ((with_reducible refine load_at ?_ ?_ (w.heap.size) ?_ o k A n c ?_ ?_); (· rfl); (· rfl); (· rfl); (· exact B0.out)))
  refine (HS.out _ bel).mono ?_; rintro e w4 ⟨rfl, hb4⟩
  replace bel := Bx.then_below bel hb4
  replace B0 := Lib.hid (B0.out.keep hb4)
  replace B1 := Lib.hid (B1.out.keep hb4)
  replace B2 := Lib.hid (B2.out.keep hb4)
  clear hb4
  replace B0 := Lib.hid (B0.out.more (Obj.cells #[.int .u64 d2, .int .u64 s2, .bool g2, .int .i64 p2, .int .i64 v2, .int .i64 t2, .string X2] 29))
  replace B1 := Lib.hid (B1.out.more (Obj.cells #[.int .u64 d2, .int .u64 s2, .bool g2, .int .i64 p2, .int .i64 v2, .int .i64 t2, .string X2] 29))
  replace B2 := Lib.hid (B2.out.more (Obj.cells #[.int .u64 d2, .int .u64 s2, .bool g2, .int .i64 p2, .int .i64 v2, .int .i64 t2, .string X2] 29))
  have B3 := Lib.hid (Bx.Blk.new w4 [.int .u64 d2, .int .u64 s2, .bool g2, .int .i64 p2, .int .i64 v2, .int .i64 t2, .string X2] 29)
  replace bel := Bx.bel_box bel (Obj.cells #[.int .u64 d2, .int .u64 s2, .bool g2, .int .i64 p2, .int .i64 v2, .int .i64 t2, .string X2] 29)
  clear c1_0 c1_1 c1_2 c1_3 c1_4 c1_5 c1_6 c2_0 c2_1
  obtain ⟨c1_0, c1_1, c1_2, c1_3, c1_4, c1_5, c1_6⟩ := B1.out.all7
  obtain ⟨c2_0, c2_1⟩ := B2.out.all2
  obtain ⟨c3_0, c3_1, c3_2, c3_3, c3_4, c3_5, c3_6⟩ := B3.out.all7
  go_wp2_with (first | ((with_reducible refine load_at ?_ ?_ (w.heap.size) ?_ o k A n c ?_ ?_); (· rfl); (· rfl); (· rfl); (· exact B0.out)))
  refine (HS2.out _ bel).mono ?_; rintro e w5 ⟨rfl, hb5⟩
  replace bel := Bx.then_below bel hb5
  replace B0 := Lib.hid (B0.out.keep hb5)
  replace B1 := Lib.hid (B1.out.keep hb5)
  replace B2 := Lib.hid (B2.out.keep hb5)
  replace B3 := Lib.hid (B3.out.keep hb5)
  clear hb5
  replace B0 := Lib.hid (B0.out.more (Obj.cells #[.int .u64 d2, .int .u64 s2, .bool g2, .int .i64 p2, .int .i64 v2, .int .i64 t2, .string X2] 29))
  replace B1 := Lib.hid (B1.out.more (Obj.cells #[.int .u64 d2, .int .u64 s2, .bool g2, .int .i64 p2, .int .i64 v2, .int .i64 t2, .string X2] 29))
  replace B2 := Lib.hid (B2.out.more (Obj.cells #[.int .u64 d2, .int .u64 s2, .bool g2, .int .i64 p2, .int .i64 v2, .int .i64 t2, .string X2] 29))
  replace B3 := Lib.hid (B3.out.more (Obj.cells #[.int .u64 d2, .int .u64 s2, .bool g2, .int .i64 p2, .int .i64 v2, .int .i64 t2, .string X2] 29))
  have B4 := Lib.hid (Bx.Blk.new w5 [.int .u64 d2, .int .u64 s2, .bool g2, .int .i64 p2, .int .i64 v2, .int .i64 t2, .string X2] 29)
  replace bel := Bx.bel_box bel (Obj.cells #[.int .u64 d2, .int .u64 s2, .bool g2, .int .i64 p2, .int .i64 v2, .int .i64 t2, .string X2] 29)
  clear c1_0 c1_1 c1_2 c1_3 c1_4 c1_5 c1_6 c2_0 c2_1 c3_0 c3_1 c3_2 c3_3 c3_4 c3_5 c3_6
  obtain ⟨c1_0, c1_1, c1_2, c1_3, c1_4, c1_5, c1_6⟩ := B1.out.all7
  obtain ⟨c2_0, c2_1⟩ := B2.out.all2
  obtain ⟨c3_0, c3_1, c3_2, c3_3, c3_4, c3_5, c3_6⟩ := B3.out.all7
  obtain ⟨c4_0, c4_1, c4_2, c4_3, c4_4, c4_5, c4_6⟩ := B4.out.all7
  go_wp2_with (first | ((with_reducible refine load_at ?_ ?_ (w.heap.size) ?_ o k A n c ?_ ?_); (· rfl); (· rfl); (· rfl); (· exact B0.out)))
  refine (HF.out _ bel).mono ?_; rintro e w6 ⟨rfl, hb6⟩
  replace bel := Bx.then_below bel hb6
  replace B0 := Lib.hid (B0.out.keep hb6)
  replace B1 := Lib.hid (B1.out.keep hb6)
  replace B2 := Lib.hid (B2.out.keep hb6)
  replace B3 := Lib.hid (B3.out.keep hb6)
  replace B4 := Lib.hid (B4.out.keep hb6)
  clear hb6
  replace B0 := Lib.hid (B0.out.more (Obj.cells #[.int .i64 y1, .int .i64 y2, .int .i64 y3] 38))
  replace B1 := Lib.hid (B1.out.more (Obj.cells #[.int .i64 y1, .int .i64 y2, .int .i64 y3] 38))
  replace B2 := Lib.hid (B2.out.more (Obj.cells #[.int .i64 y1, .int .i64 y2, .int .i64 y3] 38))
  replace B3 := Lib.hid (B3.out.more (Obj.cells #[.int .i64 y1, .int .i64 y2, .int .i64 y3] 38))
  replace B4 := Lib.hid (B4.out.more (Obj.cells #[.int .i64 y1, .int .i64 y2, .int .i64 y3] 38))
  have B5 := Lib.hid (Bx.Blk.new w6 [.int .i64 y1, .int .i64 y2, .int .i64 y3] 38)
  replace bel := Bx.bel_box bel (Obj.cells #[.int .i64 y1, .int .i64 y2, .int .i64 y3] 38)
  clear c1_0 c1_1 c1_2 c1_3 c1_4 c1_5 c1_6 c2_0 c2_1 c3_0 c3_1 c3_2 c3_3 c3_4 c3_5 c3_6 c4_0 c4_1 c4_2 c4_3 c4_4 c4_5 c4_6
  obtain ⟨c1_0, c1_1, c1_2, c1_3, c1_4, c1_5, c1_6⟩ := B1.out.all7
  obtain ⟨c2_0, c2_1⟩ := B2.out.all2
  obtain ⟨c3_0, c3_1, c3_2, c3_3, c3_4, c3_5, c3_6⟩ := B3.out.all7
  obtain ⟨c4_0, c4_1, c4_2, c4_3, c4_4, c4_5, c4_6⟩ := B4.out.all7
  obtain ⟨c5_0, c5_1, c5_2⟩ := B5.out.all3
  go_wp2_with (first | ((with_reducible refine load_at ?_ ?_ (w.heap.size) ?_ o k A n c ?_ ?_); (· rfl); (· rfl); (· rfl); (· exact B0.out)))
  refine (HF2.out _ bel).mono ?_; rintro e w7 ⟨rfl, hb7⟩
  replace bel := Bx.then_below bel hb7
  replace B0 := Lib.hid (B0.out.keep hb7)
  replace B1 := Lib.hid (B1.out.keep hb7)
  replace B2 := Lib.hid (B2.out.keep hb7)
  replace B3 := Lib.hid (B3.out.keep hb7)
  replace B4 := Lib.hid (B4.out.keep hb7)
  replace B5 := Lib.hid (B5.out.keep hb7)
  clear hb7
  replace B0 := Lib.hid (B0.out.more (Obj.cells #[.int .i64 y1, .int .i64 y2, .int .i64 y3] 38))
  replace B1 := Lib.hid (B1.out.more (Obj.cells #[.int .i64 y1, .int .i64 y2, .int .i64 y3] 38))
  replace B2 := Lib.hid (B2.out.more (Obj.cells #[.int .i64 y1, .int .i64 y2, .int .i64 y3] 38))
  replace B3 := Lib.hid (B3.out.more (Obj.cells #[.int .i64 y1, .int .i64 y2, .int .i64 y3] 38))
  replace B4 := Lib.hid (B4.out.more (Obj.cells #[.int .i64 y1, .int .i64 y2, .int .i64 y3] 38))
  replace B5 := Lib.hid (B5.out.more (Obj.cells #[.int .i64 y1, .int .i64 y2, .int .i64 y3] 38))
  have B6 := Lib.hid (Bx.Blk.new w7 [.int .i64 y1, .int .i64 y2, .int .i64 y3] 38)
  replace bel := Bx.bel_box bel (Obj.cells #[.int .i64 y1, .int .i64 y2, .int .i64 y3] 38)
  clear c1_0 c1_1 c1_2 c1_3 c1_4 c1_5 c1_6 c2_0 c2_1 c3_0 c3_1 c3_2 c3_3 c3_4 c3_5 c3_6 c4_0 c4_1 c4_2 c4_3 c4_4 c4_5 c4_6 c5_0 c5_1 c5_2
  obtain ⟨c1_0, c1_1, c1_2, c1_3, c1_4, c1_5, c1_6⟩ := B1.out.all7
  obtain ⟨c2_0, c2_1⟩ := B2.out.all2
  obtain ⟨c3_0, c3_1, c3_2, c3_3, c3_4, c3_5, c3_6⟩ := B3.out.all7
  obtain ⟨c4_0, c4_1, c4_2, c4_3, c4_4, c4_5, c4_6⟩ := B4.out.all7
  obtain ⟨c5_0, c5_1, c5_2⟩ := B5.out.all3
  obtain ⟨c6_0, c6_1, c6_2⟩ := B6.out.all3
  go_wp2_with (first | ((with_reducible refine load_at ?_ ?_ (w.heap.size) ?_ o k A n c ?_ ?_); (· rfl); (· rfl); (· rfl); (· exact B0.out)))
  generalize w4.heap.size = m3 at *
  generalize w5.heap.size = m4 at *
  generalize w6.heap.size = m5 at *
  generalize w7.heap.size = m6 at *
  generalize w7.alloc (Obj.cells #[.int .i64 y1, .int .i64 y2, .int .i64 y3] 38) = W0 at *
  refine wp_region_noPanic ?_
  refine wp_region_held_drew (S := fun w' => Bx.Blk w' (w.heap.size) (pc o k A n c) ∧ w'.cell? ⟨m3, 0, none⟩ = some (.int .u64 d2) ∧ w'.cell? ⟨m3, 1, none⟩ = some (.int .u64 s2) ∧ w'.cell? ⟨m3, 2, none⟩ = some (.bool g2) ∧ w'.cell? ⟨m3, 3, none⟩ = some (.int .i64 p2) ∧ w'.cell? ⟨m3, 4, none⟩ = some (.int .i64 v2) ∧ w'.cell? ⟨m3, 5, none⟩ = some (.int .i64 t2) ∧ w'.cell? ⟨m3, 6, none⟩ = some (.string X2) ∧ w'.cell? ⟨m4, 0, none⟩ = some (.int .u64 d2) ∧ w'.cell? ⟨m4, 1, none⟩ = some (.int .u64 s2) ∧ w'.cell? ⟨m4, 2, none⟩ = some (.bool g2) ∧ w'.cell? ⟨m4, 3, none⟩ = some (.int .i64 p2) ∧ w'.cell? ⟨m4, 4, none⟩ = some (.int .i64 v2) ∧ w'.cell? ⟨m4, 5, none⟩ = some (.int .i64 t2) ∧ w'.cell? ⟨m4, 6, none⟩ = some (.string X2) ∧ w'.cell? ⟨m5, 0, none⟩ = some (.int .i64 y1) ∧ w'.cell? ⟨m5, 1, none⟩ = some (.int .i64 y2) ∧ w'.cell? ⟨m5, 2, none⟩ = some (.int .i64 y3) ∧ w'.cell? ⟨m6, 0, none⟩ = some (.int .i64 y1) ∧ w'.cell? ⟨m6, 1, none⟩ = some (.int .i64 y2) ∧ w'.cell? ⟨m6, 2, none⟩ = some (.int .i64 y3) ∧ w'.cell? ⟨w.heap.size + 2, 1, none⟩ = some (.int .i64 b)) (by kernel_rfl) (by exact ⟨B0.out, c3_0, c3_1, c3_2, c3_3, c3_4, c3_5, c3_6, c4_0, c4_1, c4_2, c4_3, c4_4, c4_5, c4_6, c5_0, c5_1, c5_2, c6_0, c6_1, c6_2, c2_1⟩) (fun hHeld => ?_)
  replace bel := Bx.bel_drewn bel
  refine wpAnyH_take (i := 0) (oi := ?o0) (v := pv o k A n c) ?hi0 (by kernel_rfl) (by kernel_rfl) (by kernel_rfl) (fun _ _ _ h => h) ?y0 (by assumption) ?r0
  case hi0 => (simp only [List.getElem?_toArray, List.getElem?_cons_zero]; rfl)
  case y0 => (refine yields_pl rfl _ rfl (w.heap.size) rfl o k A n c ?_; intro w' hS; exact hS.1)
  try simp only [Act.put, List.setIfInBounds_toArray, List.set_cons_zero, List.set_cons_succ]
  refine wpAnyH_take (i := 2) (oi := ?o2) (v := pv o k A n c) ?hi2 (by kernel_rfl) (by kernel_rfl) (by kernel_rfl) (fun _ _ _ h => h) ?y2 (by assumption) ?r2
  case hi2 => (simp only [List.getElem?_toArray, List.getElem?_cons_succ, List.getElem?_cons_zero]; rfl)
  case y2 => (refine yields_pl rfl _ rfl (w.heap.size) rfl o k A n c ?_; intro w' hS; exact hS.1)
  try simp only [Act.put, List.setIfInBounds_toArray, List.set_cons_zero, List.set_cons_succ]
  refine wpAnyH_ready (rs := [1]) (by kernel_rfl) (by simp) ?_
  refine AllReadyH.cons (o := ?o1) ?hi1 ?hst1 AllReadyH.nil
  case hi1 => (simp only [List.getElem?_toArray, List.getElem?_cons_succ, List.getElem?_cons_zero]; rfl)
  intro K hK
  go_simp
  (go_at_call 13; (with_reducible refine (HR.out _ bel).mono ?_); rintro e w8 ⟨rfl, hb8⟩)
  go_wp2_with fail
  refine hK.out _ _ ⟨Bx.Blk.keep hHeld.1 hb8, Bx.keep_cell hb8 hHeld.2.1, Bx.keep_cell hb8 hHeld.2.2.1, Bx.keep_cell hb8 hHeld.2.2.2.1, Bx.keep_cell hb8 hHeld.2.2.2.2.1, Bx.keep_cell hb8 hHeld.2.2.2.2.2.1, Bx.keep_cell hb8 hHeld.2.2.2.2.2.2.1, Bx.keep_cell hb8 hHeld.2.2.2.2.2.2.2.1, Bx.keep_cell hb8 hHeld.2.2.2.2.2.2.2.2.1, Bx.keep_cell hb8 hHeld.2.2.2.2.2.2.2.2.2.1, Bx.keep_cell hb8 hHeld.2.2.2.2.2.2.2.2.2.2.1, Bx.keep_cell hb8 hHeld.2.2.2.2.2.2.2.2.2.2.2.1, Bx.keep_cell hb8 hHeld.2.2.2.2.2.2.2.2.2.2.2.2.1, Bx.keep_cell hb8 hHeld.2.2.2.2.2.2.2.2.2.2.2.2.2.1, Bx.keep_cell hb8 hHeld.2.2.2.2.2.2.2.2.2.2.2.2.2.2.1, Bx.keep_cell hb8 hHeld.2.2.2.2.2.2.2.2.2.2.2.2.2.2.2.1, Bx.keep_cell hb8 hHeld.2.2.2.2.2.2.2.2.2.2.2.2.2.2.2.2.1, Bx.keep_cell hb8 hHeld.2.2.2.2.2.2.2.2.2.2.2.2.2.2.2.2.2.1, Bx.keep_cell hb8 hHeld.2.2.2.2.2.2.2.2.2.2.2.2.2.2.2.2.2.2.1, Bx.keep_cell hb8 hHeld.2.2.2.2.2.2.2.2.2.2.2.2.2.2.2.2.2.2.2.1, Bx.keep_cell hb8 hHeld.2.2.2.2.2.2.2.2.2.2.2.2.2.2.2.2.2.2.2.2.1, Bx.keep_cell hb8 hHeld.2.2.2.2.2.2.2.2.2.2.2.2.2.2.2.2.2.2.2.2.2⟩ (fun hNew => ?_)
  clear hHeld
  have hHeld := hNew
  clear hNew hK K
  replace bel := Bx.then_below bel hb8
  clear hb8
  refine wpAnyH_ready (rs := [3]) (by kernel_rfl) (by simp) ?_
  refine AllReadyH.cons (o := ?o3) ?hi3 ?hst3 AllReadyH.nil
  case hi3 => (simp only [List.getElem?_toArray, List.getElem?_cons_succ, List.getElem?_cons_zero]; rfl)
  intro K hK
  go_simp
  (go_at_call 14; (with_reducible refine (HR2.out _ bel).mono ?_); rintro e w9 ⟨rfl, hb9⟩)
  go_wp2_with fail
  refine hK.out _ _ ⟨Bx.Blk.keep hHeld.1 hb9, Bx.keep_cell hb9 hHeld.2.1, Bx.keep_cell hb9 hHeld.2.2.1, Bx.keep_cell hb9 hHeld.2.2.2.1, Bx.keep_cell hb9 hHeld.2.2.2.2.1, Bx.keep_cell hb9 hHeld.2.2.2.2.2.1, Bx.keep_cell hb9 hHeld.2.2.2.2.2.2.1, Bx.keep_cell hb9 hHeld.2.2.2.2.2.2.2.1, Bx.keep_cell hb9 hHeld.2.2.2.2.2.2.2.2.1, Bx.keep_cell hb9 hHeld.2.2.2.2.2.2.2.2.2.1, Bx.keep_cell hb9 hHeld.2.2.2.2.2.2.2.2.2.2.1, Bx.keep_cell hb9 hHeld.2.2.2.2.2.2.2.2.2.2.2.1, Bx.keep_cell hb9 hHeld.2.2.2.2.2.2.2.2.2.2.2.2.1, Bx.keep_cell hb9 hHeld.2.2.2.2.2.2.2.2.2.2.2.2.2.1, Bx.keep_cell hb9 hHeld.2.2.2.2.2.2.2.2.2.2.2.2.2.2.1, Bx.keep_cell hb9 hHeld.2.2.2.2.2.2.2.2.2.2.2.2.2.2.2.1, Bx.keep_cell hb9 hHeld.2.2.2.2.2.2.2.2.2.2.2.2.2.2.2.2.1, Bx.keep_cell hb9 hHeld.2.2.2.2.2.2.2.2.2.2.2.2.2.2.2.2.2.1, Bx.keep_cell hb9 hHeld.2.2.2.2.2.2.2.2.2.2.2.2.2.2.2.2.2.2.1, Bx.keep_cell hb9 hHeld.2.2.2.2.2.2.2.2.2.2.2.2.2.2.2.2.2.2.2.1, Bx.keep_cell hb9 hHeld.2.2.2.2.2.2.2.2.2.2.2.2.2.2.2.2.2.2.2.2.1, Bx.keep_cell hb9 hHeld.2.2.2.2.2.2.2.2.2.2.2.2.2.2.2.2.2.2.2.2.2⟩ (fun hNew => ?_)
  clear hHeld
  have hHeld := hNew
  clear hNew hK K
  replace bel := Bx.then_below bel hb9
  clear hb9
  refine wpAnyH_take (i := 4) (oi := ?o4) (v := ?v4) ?hi4 (by kernel_rfl) (by kernel_rfl) (by kernel_rfl) (fun _ _ _ h => h) ?y4 (by assumption) ?r4
  case hi4 => (simp only [List.getElem?_toArray, List.getElem?_cons_succ, List.getElem?_cons_zero]; rfl)
  case y4 => (refine Or.inl ⟨by rfl, ?_⟩; intro w' hSw; (try dsimp only at hSw); go_simp; (try with_reducible rfl))
  try simp only [Act.put, List.setIfInBounds_toArray, List.set_cons_zero, List.set_cons_succ]
  refine wpAnyH_take (i := 5) (oi := ?o5) (v := ?v5) ?hi5 (by kernel_rfl) (by kernel_rfl) (by kernel_rfl) (fun _ _ _ h => h) ?y5 (by assumption) ?r5
  case hi5 => (simp only [List.getElem?_toArray, List.getElem?_cons_succ, List.getElem?_cons_zero]; rfl)
  case y5 => (refine Or.inl ⟨by rfl, ?_⟩; intro w' hSw; (try dsimp only at hSw); go_simp; (try with_reducible rfl))
  try simp only [Act.put, List.setIfInBounds_toArray, List.set_cons_zero, List.set_cons_succ]
  refine wpAnyH_take (i := 6) (oi := ?o6) (v := ?v6) ?hi6 (by kernel_rfl) (by kernel_rfl) (by kernel_rfl) (fun _ _ _ h => h) ?y6 (by assumption) ?r6
  case hi6 => (simp only [List.getElem?_toArray, List.getElem?_cons_succ, List.getElem?_cons_zero]; rfl)
  case y6 => (refine Or.inl ⟨by rfl, ?_⟩; intro w' hSw; (try dsimp only at hSw); go_simp; (try with_reducible rfl))
  try simp only [Act.put, List.setIfInBounds_toArray, List.set_cons_zero, List.set_cons_succ]
  refine wpAnyH_take (i := 7) (oi := ?o7) (v := ?v7) ?hi7 (by kernel_rfl) (by kernel_rfl) (by kernel_rfl) (fun _ _ _ h => h) ?y7 (by assumption) ?r7
  case hi7 => (simp only [List.getElem?_toArray, List.getElem?_cons_succ, List.getElem?_cons_zero]; rfl)
  case y7 => (refine Or.inl ⟨by rfl, ?_⟩; intro w' hSw; (try dsimp only at hSw); go_simp; (try with_reducible rfl))
  try simp only [Act.put, List.setIfInBounds_toArray, List.set_cons_zero, List.set_cons_succ]
  refine wpAnyH_take (i := 8) (oi := ?o8) (v := ?v8) ?hi8 (by kernel_rfl) (by kernel_rfl) (by kernel_rfl) (fun _ _ _ h => h) ?y8 (by assumption) ?r8
  case hi8 => (simp only [List.getElem?_toArray, List.getElem?_cons_succ, List.getElem?_cons_zero]; rfl)
  case y8 => (refine Or.inl ⟨by rfl, ?_⟩; intro w' hSw; (try dsimp only at hSw); go_simp; (try with_reducible rfl))
  try simp only [Act.put, List.setIfInBounds_toArray, List.set_cons_zero, List.set_cons_succ]
  refine wpAnyH_take (i := 9) (oi := ?o9) (v := ?v9) ?hi9 (by kernel_rfl) (by kernel_rfl) (by kernel_rfl) (fun _ _ _ h => h) ?y9 (by assumption) ?r9
  case hi9 => (simp only [List.getElem?_toArray, List.getElem?_cons_succ, List.getElem?_cons_zero]; rfl)
  case y9 => (refine Or.inl ⟨by rfl, ?_⟩; intro w' hSw; (try dsimp only at hSw); go_simp; (try with_reducible rfl))
  try simp only [Act.put, List.setIfInBounds_toArray, List.set_cons_zero, List.set_cons_succ]
  refine wpAnyH_take (i := 10) (oi := ?o10) (v := ?v10) ?hi10 (by kernel_rfl) (by kernel_rfl) (by kernel_rfl) (fun _ _ _ h => h) ?y10 (by assumption) ?r10
  case hi10 => (simp only [List.getElem?_toArray, List.getElem?_cons_succ, List.getElem?_cons_zero]; rfl)
  case y10 => (refine Or.inl ⟨by rfl, ?_⟩; intro w' hSw; (try dsimp only at hSw); go_simp; (try with_reducible rfl))
  try simp only [Act.put, List.setIfInBounds_toArray, List.set_cons_zero, List.set_cons_succ]
  refine wpAnyH_take (i := 11) (oi := ?o11) (v := ?v11) ?hi11 (by kernel_rfl) (by kernel_rfl) (by kernel_rfl) (fun _ _ _ h => h) ?y11 (by assumption) ?r11
  case hi11 => (simp only [List.getElem?_toArray, List.getElem?_cons_succ, List.getElem?_cons_zero]; rfl)
  case y11 => (refine Or.inl ⟨by rfl, ?_⟩; intro w' hSw; (try dsimp only at hSw); go_simp; (try with_reducible rfl))
  try simp only [Act.put, List.setIfInBounds_toArray, List.set_cons_zero, List.set_cons_succ]
  refine wpAnyH_take (i := 12) (oi := ?o12) (v := ?v12) ?hi12 (by kernel_rfl) (by kernel_rfl) (by kernel_rfl) (fun _ _ _ h => h) ?y12 (by assumption) ?r12
  case hi12 => (simp only [List.getElem?_toArray, List.getElem?_cons_succ, List.getElem?_cons_zero]; rfl)
  case y12 => (refine Or.inl ⟨by rfl, ?_⟩; intro w' hSw; (try dsimp only at hSw); go_simp; (try with_reducible rfl))
  try simp only [Act.put, List.setIfInBounds_toArray, List.set_cons_zero, List.set_cons_succ]
  refine wpAnyH_take (i := 13) (oi := ?o13) (v := ?v13) ?hi13 (by kernel_rfl) (by kernel_rfl) (by kernel_rfl) (fun _ _ _ h => h) ?y13 (by assumption) ?r13
  case hi13 => (simp only [List.getElem?_toArray, List.getElem?_cons_succ, List.getElem?_cons_zero]; rfl)
  case y13 => (refine Or.inl ⟨by rfl, ?_⟩; intro w' hSw; (try dsimp only at hSw); go_simp; (try with_reducible rfl))
  try simp only [Act.put, List.setIfInBounds_toArray, List.set_cons_zero, List.set_cons_succ]
  refine wpAnyH_take (i := 14) (oi := ?o14) (v := ?v14) ?hi14 (by kernel_rfl) (by kernel_rfl) (by kernel_rfl) (fun _ _ _ h => h) ?y14 (by assumption) ?r14
  case hi14 => (simp only [List.getElem?_toArray, List.getElem?_cons_succ, List.getElem?_cons_zero]; rfl)
  case y14 => (refine Or.inl ⟨by rfl, ?_⟩; intro w' hSw; (try dsimp only at hSw); go_simp; (try with_reducible rfl))
  try simp only [Act.put, List.setIfInBounds_toArray, List.set_cons_zero, List.set_cons_succ]
  refine wpAnyH_take (i := 15) (oi := ?o15) (v := ?v15) ?hi15 (by kernel_rfl) (by kernel_rfl) (by kernel_rfl) (fun _ _ _ h => h) ?y15 (by assumption) ?r15
  case hi15 => (simp only [List.getElem?_toArray, List.getElem?_cons_succ, List.getElem?_cons_zero]; rfl)
  case y15 => (refine Or.inl ⟨by rfl, ?_⟩; intro w' hSw; (try dsimp only at hSw); go_simp; (try with_reducible rfl))
  try simp only [Act.put, List.setIfInBounds_toArray, List.set_cons_zero, List.set_cons_succ]
  refine wpAnyH_take (i := 16) (oi := ?o16) (v := ?v16) ?hi16 (by kernel_rfl) (by kernel_rfl) (by kernel_rfl) (fun _ _ _ h => h) ?y16 (by assumption) ?r16
  case hi16 => (simp only [List.getElem?_toArray, List.getElem?_cons_succ, List.getElem?_cons_zero]; rfl)
  case y16 => (refine Or.inl ⟨by rfl, ?_⟩; intro w' hSw; (try dsimp only at hSw); go_simp; (try with_reducible rfl))
  try simp only [Act.put, List.setIfInBounds_toArray, List.set_cons_zero, List.set_cons_succ]
  refine wpAnyH_take (i := 17) (oi := ?o17) (v := ?v17) ?hi17 (by kernel_rfl) (by kernel_rfl) (by kernel_rfl) (fun _ _ _ h => h) ?y17 (by assumption) ?r17
  case hi17 => (simp only [List.getElem?_toArray, List.getElem?_cons_succ, List.getElem?_cons_zero]; rfl)
  case y17 => (refine Or.inl ⟨by rfl, ?_⟩; intro w' hSw; (try dsimp only at hSw); go_simp; (try with_reducible rfl))
  try simp only [Act.put, List.setIfInBounds_toArray, List.set_cons_zero, List.set_cons_succ]
  refine wpAnyH_take (i := 18) (oi := ?o18) (v := ?v18) ?hi18 (by kernel_rfl) (by kernel_rfl) (by kernel_rfl) (fun _ _ _ h => h) ?y18 (by assumption) ?r18
  case hi18 => (simp only [List.getElem?_toArray, List.getElem?_cons_succ, List.getElem?_cons_zero]; rfl)
  case y18 => (refine Or.inl ⟨by rfl, ?_⟩; intro w' hSw; (try dsimp only at hSw); go_simp; (try with_reducible rfl))
  try simp only [Act.put, List.setIfInBounds_toArray, List.set_cons_zero, List.set_cons_succ]
  refine wpAnyH_take (i := 19) (oi := ?o19) (v := ?v19) ?hi19 (by kernel_rfl) (by kernel_rfl) (by kernel_rfl) (fun _ _ _ h => h) ?y19 (by assumption) ?r19
  case hi19 => (simp only [List.getElem?_toArray, List.getElem?_cons_succ, List.getElem?_cons_zero]; rfl)
  case y19 => (refine Or.inl ⟨by rfl, ?_⟩; intro w' hSw; (try dsimp only at hSw); go_simp; (try with_reducible rfl))
  try simp only [Act.put, List.setIfInBounds_toArray, List.set_cons_zero, List.set_cons_succ]
  refine wpAnyH_take (i := 20) (oi := ?o20) (v := ?v20) ?hi20 (by kernel_rfl) (by kernel_rfl) (by kernel_rfl) (fun _ _ _ h => h) ?y20 (by assumption) ?r20
  case hi20 => (simp only [List.getElem?_toArray, List.getElem?_cons_succ, List.getElem?_cons_zero]; rfl)
  case y20 => (refine Or.inl ⟨by rfl, ?_⟩; intro w' hSw; (try dsimp only at hSw); go_simp; (try with_reducible rfl))
  try simp only [Act.put, List.setIfInBounds_toArray, List.set_cons_zero, List.set_cons_succ]
  refine wpAnyH_take (i := 21) (oi := ?o21) (v := ?v21) ?hi21 (by kernel_rfl) (by kernel_rfl) (by kernel_rfl) (fun _ _ _ h => h) ?y21 (by assumption) ?r21
  case hi21 => (simp only [List.getElem?_toArray, List.getElem?_cons_succ, List.getElem?_cons_zero]; rfl)
  case y21 => (refine Or.inl ⟨by rfl, ?_⟩; intro w' hSw; (try dsimp only at hSw); go_simp; (try with_reducible rfl))
  try simp only [Act.put, List.setIfInBounds_toArray, List.set_cons_zero, List.set_cons_succ]
  refine wpAnyH_take (i := 22) (oi := ?o22) (v := ?v22) ?hi22 (by kernel_rfl) (by kernel_rfl) (by kernel_rfl) (fun _ _ _ h => h) ?y22 (by assumption) ?r22
  case hi22 => (simp only [List.getElem?_toArray, List.getElem?_cons_succ, List.getElem?_cons_zero]; rfl)
  case y22 => (refine Or.inl ⟨by rfl, ?_⟩; intro w' hSw; (try dsimp only at hSw); go_simp; (try with_reducible rfl))
  try simp only [Act.put, List.setIfInBounds_toArray, List.set_cons_zero, List.set_cons_succ]
  refine wpAnyH_take (i := 23) (oi := ?o23) (v := ?v23) ?hi23 (by kernel_rfl) (by kernel_rfl) (by kernel_rfl) (fun _ _ _ h => h) ?y23 (by assumption) ?r23
  case hi23 => (simp only [List.getElem?_toArray, List.getElem?_cons_succ, List.getElem?_cons_zero]; rfl)
  case y23 => (refine Or.inl ⟨by rfl, ?_⟩; intro w' hSw; (try dsimp only at hSw); go_simp; (try with_reducible rfl))
  try simp only [Act.put, List.setIfInBounds_toArray, List.set_cons_zero, List.set_cons_succ]
  refine wpAnyH_take (i := 24) (oi := ?o24) (v := ?v24) ?hi24 (by kernel_rfl) (by kernel_rfl) (by kernel_rfl) (fun _ _ _ h => h) ?y24 (by assumption) ?r24
  case hi24 => (simp only [List.getElem?_toArray, List.getElem?_cons_succ, List.getElem?_cons_zero]; rfl)
  case y24 => (refine Or.inl ⟨by rfl, ?_⟩; intro w' hSw; (try dsimp only at hSw); go_simp; (try with_reducible rfl))
  try simp only [Act.put, List.setIfInBounds_toArray, List.set_cons_zero, List.set_cons_succ]
  refine wpAnyH_take (i := 25) (oi := ?o25) (v := ?v25) ?hi25 (by kernel_rfl) (by kernel_rfl) (by kernel_rfl) (fun _ _ _ h => h) ?y25 (by assumption) ?r25
  case hi25 => (simp only [List.getElem?_toArray, List.getElem?_cons_succ, List.getElem?_cons_zero]; rfl)
  case y25 => (refine Or.inl ⟨by rfl, ?_⟩; intro w' hSw; (try dsimp only at hSw); go_simp; (try with_reducible rfl))
  try simp only [Act.put, List.setIfInBounds_toArray, List.set_cons_zero, List.set_cons_succ]
  refine wpAnyH_take (i := 26) (oi := ?o26) (v := ?v26) ?hi26 (by kernel_rfl) (by kernel_rfl) (by kernel_rfl) (fun _ _ _ h => h) ?y26 (by assumption) ?r26
  case hi26 => (simp only [List.getElem?_toArray, List.getElem?_cons_succ, List.getElem?_cons_zero]; rfl)
  case y26 => (refine Or.inl ⟨by rfl, ?_⟩; intro w' hSw; (try dsimp only at hSw); go_simp; (try with_reducible rfl))
  try simp only [Act.put, List.setIfInBounds_toArray, List.set_cons_zero, List.set_cons_succ]
  refine wpAnyH_take (i := 27) (oi := ?o27) (v := ?v27) ?hi27 (by kernel_rfl) (by kernel_rfl) (by kernel_rfl) (fun _ _ _ h => h) ?y27 (by assumption) ?r27
  case hi27 => (simp only [List.getElem?_toArray, List.getElem?_cons_succ, List.getElem?_cons_zero]; rfl)
  case y27 => (refine Or.inl ⟨by rfl, ?_⟩; intro w' hSw; (try dsimp only at hSw); go_simp; (try with_reducible rfl))
  try simp only [Act.put, List.setIfInBounds_toArray, List.set_cons_zero, List.set_cons_succ]
  refine wpAnyH_take (i := 28) (oi := ?o28) (v := ?v28) ?hi28 (by kernel_rfl) (by kernel_rfl) (by kernel_rfl) (fun _ _ _ h => h) ?y28 (by assumption) ?r28
  case hi28 => (simp only [List.getElem?_toArray, List.getElem?_cons_succ, List.getElem?_cons_zero]; rfl)
  case y28 => (refine Or.inl ⟨by rfl, ?_⟩; intro w' hSw; (try dsimp only at hSw); go_simp; (try with_reducible rfl))
  try simp only [Act.put, List.setIfInBounds_toArray, List.set_cons_zero, List.set_cons_succ]
  refine wpAnyH_take (i := 29) (oi := ?o29) (v := ?v29) ?hi29 (by kernel_rfl) (by kernel_rfl) (by kernel_rfl) (fun _ _ _ h => h) ?y29 (by assumption) ?r29
  case hi29 => (simp only [List.getElem?_toArray, List.getElem?_cons_succ, List.getElem?_cons_zero]; rfl)
  case y29 => (refine Or.inl ⟨by rfl, ?_⟩; intro w' hSw; (try dsimp only at hSw); go_simp; (try with_reducible rfl))
  try simp only [Act.put, List.setIfInBounds_toArray, List.set_cons_zero, List.set_cons_succ]
  refine wpAnyH_take (i := 30) (oi := ?o30) (v := ?v30) ?hi30 (by kernel_rfl) (by kernel_rfl) (by kernel_rfl) (fun _ _ _ h => h) ?y30 (by assumption) ?r30
  case hi30 => (simp only [List.getElem?_toArray, List.getElem?_cons_succ, List.getElem?_cons_zero]; rfl)
  case y30 => (refine Or.inl ⟨by rfl, ?_⟩; intro w' hSw; (try dsimp only at hSw); go_simp; (try with_reducible rfl))
  try simp only [Act.put, List.setIfInBounds_toArray, List.set_cons_zero, List.set_cons_succ]
  refine wpAnyH_take (i := 31) (oi := ?o31) (v := ?v31) ?hi31 (by kernel_rfl) (by kernel_rfl) (by kernel_rfl) (fun _ _ _ h => h) ?y31 (by assumption) ?r31
  case hi31 => (simp only [List.getElem?_toArray, List.getElem?_cons_succ, List.getElem?_cons_zero]; rfl)
  case y31 => (refine Or.inl ⟨by rfl, ?_⟩; intro w' hSw; (try dsimp only at hSw); go_simp; (try with_reducible rfl))
  try simp only [Act.put, List.setIfInBounds_toArray, List.set_cons_zero, List.set_cons_succ]
  refine wpAnyH_take (i := 32) (oi := ?o32) (v := ?v32) ?hi32 (by kernel_rfl) (by kernel_rfl) (by kernel_rfl) (fun _ _ _ h => h) ?y32 (by assumption) ?r32
  case hi32 => (simp only [List.getElem?_toArray, List.getElem?_cons_succ, List.getElem?_cons_zero]; rfl)
  case y32 => (refine Or.inl ⟨by rfl, ?_⟩; intro w' hSw; (try dsimp only at hSw); go_simp; (try with_reducible rfl))
  try simp only [Act.put, List.setIfInBounds_toArray, List.set_cons_zero, List.set_cons_succ]
  refine wpAnyH_take (i := 33) (oi := ?o33) (v := ?v33) ?hi33 (by kernel_rfl) (by kernel_rfl) (by kernel_rfl) (fun _ _ _ h => h) ?y33 (by assumption) ?r33
  case hi33 => (simp only [List.getElem?_toArray, List.getElem?_cons_succ, List.getElem?_cons_zero]; rfl)
  case y33 => (refine Or.inl ⟨by rfl, ?_⟩; intro w' hSw; (try dsimp only at hSw); go_simp; (try with_reducible rfl))
  try simp only [Act.put, List.setIfInBounds_toArray, List.set_cons_zero, List.set_cons_succ]
  refine wpAnyH_take (i := 34) (oi := ?o34) (v := ?v34) ?hi34 (by kernel_rfl) (by kernel_rfl) (by kernel_rfl) (fun _ _ _ h => h) ?y34 (by assumption) ?r34
  case hi34 => (simp only [List.getElem?_toArray, List.getElem?_cons_succ, List.getElem?_cons_zero]; rfl)
  case y34 => (refine Or.inl ⟨by rfl, ?_⟩; intro w' hSw; (try dsimp only at hSw); go_simp; (try with_reducible rfl))
  try simp only [Act.put, List.setIfInBounds_toArray, List.set_cons_zero, List.set_cons_succ]
  refine wpAnyH_take (i := 35) (oi := ?o35) (v := ?v35) ?hi35 (by kernel_rfl) (by kernel_rfl) (by kernel_rfl) (fun _ _ _ h => h) ?y35 (by assumption) ?r35
  case hi35 => (simp only [List.getElem?_toArray, List.getElem?_cons_succ, List.getElem?_cons_zero]; rfl)
  case y35 => (refine Or.inl ⟨by rfl, ?_⟩; intro w' hSw; (try dsimp only at hSw); go_simp; (try with_reducible rfl))
  try simp only [Act.put, List.setIfInBounds_toArray, List.set_cons_zero, List.set_cons_succ]
  refine wpAnyH_take (i := 36) (oi := ?o36) (v := pv o k A n c) ?hi36 (by kernel_rfl) (by kernel_rfl) (by kernel_rfl) (fun _ _ _ h => h) ?y36 (by assumption) ?r36
  case hi36 => (simp only [List.getElem?_toArray, List.getElem?_cons_succ, List.getElem?_cons_zero]; rfl)
  case y36 => (refine yields_pl rfl _ rfl (w.heap.size) rfl o k A n c ?_; intro w' hS; exact hS.1)
  try simp only [Act.put, List.setIfInBounds_toArray, List.set_cons_zero, List.set_cons_succ]
  refine wpAnyH_take (i := 37) (oi := ?o37) (v := ?v37) ?hi37 (by kernel_rfl) (by kernel_rfl) (by kernel_rfl) (fun _ _ _ h => h) ?y37 (by assumption) ?r37
  case hi37 => (simp only [List.getElem?_toArray, List.getElem?_cons_succ, List.getElem?_cons_zero]; rfl)
  case y37 => (refine Or.inl ⟨by rfl, ?_⟩; intro w' hSw; (try dsimp only at hSw); go_simp; (try with_reducible rfl))
  try simp only [Act.put, List.setIfInBounds_toArray, List.set_cons_zero, List.set_cons_succ]
  refine wpAnyH_take (i := 38) (oi := ?o38) (v := ?v38) ?hi38 (by kernel_rfl) (by kernel_rfl) (by kernel_rfl) (fun _ _ _ h => h) ?y38 (by assumption) ?r38
  case hi38 => (simp only [List.getElem?_toArray, List.getElem?_cons_succ, List.getElem?_cons_zero]; rfl)
  case y38 => (refine Or.inl ⟨by rfl, ?_⟩; intro w' hSw; (try dsimp only at hSw); go_simp; (try with_reducible rfl))
  try simp only [Act.put, List.setIfInBounds_toArray, List.set_cons_zero, List.set_cons_succ]
  refine wpAnyH_take (i := 40) (oi := ?o40) (v := pv o k A n c) ?hi40 (by kernel_rfl) (by kernel_rfl) (by kernel_rfl) (fun _ _ _ h => h) ?y40 (by assumption) ?r40
  case hi40 => (simp only [List.getElem?_toArray, List.getElem?_cons_succ, List.getElem?_cons_zero]; rfl)
  case y40 => (refine yields_pl rfl _ rfl (w.heap.size) rfl o k A n c ?_; intro w' hS; exact hS.1)
  try simp only [Act.put, List.setIfInBounds_toArray, List.set_cons_zero, List.set_cons_succ]
  refine wpAnyH_take (i := 41) (oi := ?o41) (v := ?v41) ?hi41 (by kernel_rfl) (by kernel_rfl) (by kernel_rfl) (fun _ _ _ h => h) ?y41 (by assumption) ?r41
  case hi41 => (simp only [List.getElem?_toArray, List.getElem?_cons_succ, List.getElem?_cons_zero]; rfl)
  case y41 => (refine Or.inl ⟨by rfl, ?_⟩; intro w' hSw; (try dsimp only at hSw); go_simp; (try with_reducible rfl))
  try simp only [Act.put, List.setIfInBounds_toArray, List.set_cons_zero, List.set_cons_succ]
  refine wpAnyH_take (i := 42) (oi := ?o42) (v := ?v42) ?hi42 (by kernel_rfl) (by kernel_rfl) (by kernel_rfl) (fun _ _ _ h => h) ?y42 (by assumption) ?r42
  case hi42 => (simp only [List.getElem?_toArray, List.getElem?_cons_succ, List.getElem?_cons_zero]; rfl)
  case y42 => (refine Or.inl ⟨by rfl, ?_⟩; intro w' hSw; (try dsimp only at hSw); go_simp; (try with_reducible rfl))
  try simp only [Act.put, List.setIfInBounds_toArray, List.set_cons_zero, List.set_cons_succ]
  refine wpAnyH_ready (rs := [39]) (by kernel_rfl) (by simp) ?_
  refine AllReadyH.cons (o := ?o39) ?hi39 ?hst39 AllReadyH.nil
  case hi39 => (simp only [List.getElem?_toArray, List.getElem?_cons_succ, List.getElem?_cons_zero]; rfl)
  intro K hK
  go_simp
  (go_at_call 15; (with_reducible refine (HO.out _ bel).mono ?_); rintro e w10 ⟨rfl, hb10⟩)
  go_wp2_with fail
  refine hK.out _ _ ⟨Bx.Blk.keep hHeld.1 hb10, Bx.keep_cell hb10 hHeld.2.1, Bx.keep_cell hb10 hHeld.2.2.1, Bx.keep_cell hb10 hHeld.2.2.2.1, Bx.keep_cell hb10 hHeld.2.2.2.2.1, Bx.keep_cell hb10 hHeld.2.2.2.2.2.1, Bx.keep_cell hb10 hHeld.2.2.2.2.2.2.1, Bx.keep_cell hb10 hHeld.2.2.2.2.2.2.2.1, Bx.keep_cell hb10 hHeld.2.2.2.2.2.2.2.2.1, Bx.keep_cell hb10 hHeld.2.2.2.2.2.2.2.2.2.1, Bx.keep_cell hb10 hHeld.2.2.2.2.2.2.2.2.2.2.1, Bx.keep_cell hb10 hHeld.2.2.2.2.2.2.2.2.2.2.2.1, Bx.keep_cell hb10 hHeld.2.2.2.2.2.2.2.2.2.2.2.2.1, Bx.keep_cell hb10 hHeld.2.2.2.2.2.2.2.2.2.2.2.2.2.1, Bx.keep_cell hb10 hHeld.2.2.2.2.2.2.2.2.2.2.2.2.2.2.1, Bx.keep_cell hb10 hHeld.2.2.2.2.2.2.2.2.2.2.2.2.2.2.2.1, Bx.keep_cell hb10 hHeld.2.2.2.2.2.2.2.2.2.2.2.2.2.2.2.2.1, Bx.keep_cell hb10 hHeld.2.2.2.2.2.2.2.2.2.2.2.2.2.2.2.2.2.1, Bx.keep_cell hb10 hHeld.2.2.2.2.2.2.2.2.2.2.2.2.2.2.2.2.2.2.1, Bx.keep_cell hb10 hHeld.2.2.2.2.2.2.2.2.2.2.2.2.2.2.2.2.2.2.2.1, Bx.keep_cell hb10 hHeld.2.2.2.2.2.2.2.2.2.2.2.2.2.2.2.2.2.2.2.2.1, Bx.keep_cell hb10 hHeld.2.2.2.2.2.2.2.2.2.2.2.2.2.2.2.2.2.2.2.2.2⟩ (fun hNew => ?_)
  clear hHeld
  have hHeld := hNew
  clear hNew hK K
  replace bel := Bx.then_below bel hb10
  clear hb10
  refine wpAnyH_ready (rs := [43]) (by kernel_rfl) (by simp) ?_
  refine AllReadyH.cons (o := ?o43) ?hi43 ?hst43 AllReadyH.nil
  case hi43 => (simp only [List.getElem?_toArray, List.getElem?_cons_succ, List.getElem?_cons_zero]; rfl)
  intro K hK
  go_simp
  (go_at_call 16; (with_reducible refine (HO2.out _ bel).mono ?_); rintro e w11 ⟨rfl, hb11⟩)
  go_wp2_with fail
  refine hK.out _ _ ⟨Bx.Blk.keep hHeld.1 hb11, Bx.keep_cell hb11 hHeld.2.1, Bx.keep_cell hb11 hHeld.2.2.1, Bx.keep_cell hb11 hHeld.2.2.2.1, Bx.keep_cell hb11 hHeld.2.2.2.2.1, Bx.keep_cell hb11 hHeld.2.2.2.2.2.1, Bx.keep_cell hb11 hHeld.2.2.2.2.2.2.1, Bx.keep_cell hb11 hHeld.2.2.2.2.2.2.2.1, Bx.keep_cell hb11 hHeld.2.2.2.2.2.2.2.2.1, Bx.keep_cell hb11 hHeld.2.2.2.2.2.2.2.2.2.1, Bx.keep_cell hb11 hHeld.2.2.2.2.2.2.2.2.2.2.1, Bx.keep_cell hb11 hHeld.2.2.2.2.2.2.2.2.2.2.2.1, Bx.keep_cell hb11 hHeld.2.2.2.2.2.2.2.2.2.2.2.2.1, Bx.keep_cell hb11 hHeld.2.2.2.2.2.2.2.2.2.2.2.2.2.1, Bx.keep_cell hb11 hHeld.2.2.2.2.2.2.2.2.2.2.2.2.2.2.1, Bx.keep_cell hb11 hHeld.2.2.2.2.2.2.2.2.2.2.2.2.2.2.2.1, Bx.keep_cell hb11 hHeld.2.2.2.2.2.2.2.2.2.2.2.2.2.2.2.2.1, Bx.keep_cell hb11 hHeld.2.2.2.2.2.2.2.2.2.2.2.2.2.2.2.2.2.1, Bx.keep_cell hb11 hHeld.2.2.2.2.2.2.2.2.2.2.2.2.2.2.2.2.2.2.1, Bx.keep_cell hb11 hHeld.2.2.2.2.2.2.2.2.2.2.2.2.2.2.2.2.2.2.2.1, Bx.keep_cell hb11 hHeld.2.2.2.2.2.2.2.2.2.2.2.2.2.2.2.2.2.2.2.2.1, Bx.keep_cell hb11 hHeld.2.2.2.2.2.2.2.2.2.2.2.2.2.2.2.2.2.2.2.2.2⟩ (fun hNew => ?_)
  clear hHeld
  have hHeld := hNew
  clear hNew hK K
  replace bel := Bx.then_below bel hb11
  clear hb11
  refine wpAnyH_take (i := 44) (oi := ?o44) (v := ?v44) ?hi44 (by kernel_rfl) (by kernel_rfl) (by kernel_rfl) (fun _ _ _ h => h) ?y44 (by assumption) ?r44
  case hi44 => (simp only [List.getElem?_toArray, List.getElem?_cons_succ, List.getElem?_cons_zero]; rfl)
  case y44 => (refine Or.inl ⟨by rfl, ?_⟩; intro w' hSw; (try dsimp only at hSw); go_simp; (try with_reducible rfl))
  try simp only [Act.put, List.setIfInBounds_toArray, List.set_cons_zero, List.set_cons_succ]
  refine wpAnyH_take (i := 45) (oi := ?o45) (v := ?v45) ?hi45 (by kernel_rfl) (by kernel_rfl) (by kernel_rfl) (fun _ _ _ h => h) ?y45 (by assumption) ?r45
  case hi45 => (simp only [List.getElem?_toArray, List.getElem?_cons_succ, List.getElem?_cons_zero]; rfl)
  case y45 => (refine Or.inl ⟨by rfl, ?_⟩; intro w' hSw; (try dsimp only at hSw); go_simp; (try with_reducible rfl))
  try simp only [Act.put, List.setIfInBounds_toArray, List.set_cons_zero, List.set_cons_succ]
  refine wpAnyH_take (i := 46) (oi := ?o46) (v := ?v46) ?hi46 (by kernel_rfl) (by kernel_rfl) (by kernel_rfl) (fun _ _ _ h => h) ?y46 (by assumption) ?r46
  case hi46 => (simp only [List.getElem?_toArray, List.getElem?_cons_succ, List.getElem?_cons_zero]; rfl)
  case y46 => (refine Or.inl ⟨by rfl, ?_⟩; intro w' hSw; (try dsimp only at hSw); go_simp; (try with_reducible rfl))
  try simp only [Act.put, List.setIfInBounds_toArray, List.set_cons_zero, List.set_cons_succ]
  refine wpAnyH_ready (rs := [47]) (by kernel_rfl) (by simp) ?_
  refine AllReadyH.cons (o := ?o47) ?hi47 ?hst47 AllReadyH.nil
  case hi47 => (simp only [List.getElem?_toArray, List.getElem?_cons_succ, List.getElem?_cons_zero]; rfl)
  intro K hK
  go_simp
  (go_at_call 18; (with_reducible refine (usual_any _).mono ?_); rintro e w12 ⟨u1, rfl, hv1, hb12⟩)
  go_wp2_with fail
  refine hK.out _ _ ⟨Bx.Blk.keep hHeld.1 hb12, Bx.keep_cell hb12 hHeld.2.1, Bx.keep_cell hb12 hHeld.2.2.1, Bx.keep_cell hb12 hHeld.2.2.2.1, Bx.keep_cell hb12 hHeld.2.2.2.2.1, Bx.keep_cell hb12 hHeld.2.2.2.2.2.1, Bx.keep_cell hb12 hHeld.2.2.2.2.2.2.1, Bx.keep_cell hb12 hHeld.2.2.2.2.2.2.2.1, Bx.keep_cell hb12 hHeld.2.2.2.2.2.2.2.2.1, Bx.keep_cell hb12 hHeld.2.2.2.2.2.2.2.2.2.1, Bx.keep_cell hb12 hHeld.2.2.2.2.2.2.2.2.2.2.1, Bx.keep_cell hb12 hHeld.2.2.2.2.2.2.2.2.2.2.2.1, Bx.keep_cell hb12 hHeld.2.2.2.2.2.2.2.2.2.2.2.2.1, Bx.keep_cell hb12 hHeld.2.2.2.2.2.2.2.2.2.2.2.2.2.1, Bx.keep_cell hb12 hHeld.2.2.2.2.2.2.2.2.2.2.2.2.2.2.1, Bx.keep_cell hb12 hHeld.2.2.2.2.2.2.2.2.2.2.2.2.2.2.2.1, Bx.keep_cell hb12 hHeld.2.2.2.2.2.2.2.2.2.2.2.2.2.2.2.2.1, Bx.keep_cell hb12 hHeld.2.2.2.2.2.2.2.2.2.2.2.2.2.2.2.2.2.1, Bx.keep_cell hb12 hHeld.2.2.2.2.2.2.2.2.2.2.2.2.2.2.2.2.2.2.1, Bx.keep_cell hb12 hHeld.2.2.2.2.2.2.2.2.2.2.2.2.2.2.2.2.2.2.2.1, Bx.keep_cell hb12 hHeld.2.2.2.2.2.2.2.2.2.2.2.2.2.2.2.2.2.2.2.2.1, Bx.keep_cell hb12 hHeld.2.2.2.2.2.2.2.2.2.2.2.2.2.2.2.2.2.2.2.2.2⟩ (fun hNew => ?_)
  clear hHeld
  have hHeld := hNew
  clear hNew hK K
  replace bel := Bx.then_below bel hb12
  have V1 := Lib.hid hv1
  clear hv1
  clear hb12
  refine wpAnyH_ready (rs := [48]) (by kernel_rfl) (by simp) ?_
  refine AllReadyH.cons (o := ?o48) ?hi48 ?hst48 AllReadyH.nil
  case hi48 => (simp only [List.getElem?_toArray, List.getElem?_cons_succ, List.getElem?_cons_zero]; rfl)
  intro K hK
  go_simp
  (go_at_call 19; (with_reducible refine (rusual_any _).mono ?_); rintro e w13 ⟨u2, rfl, hv2, hb13⟩)
  go_wp2_with fail
  refine hK.out _ _ ⟨Bx.Blk.keep hHeld.1 hb13, Bx.keep_cell hb13 hHeld.2.1, Bx.keep_cell hb13 hHeld.2.2.1, Bx.keep_cell hb13 hHeld.2.2.2.1, Bx.keep_cell hb13 hHeld.2.2.2.2.1, Bx.keep_cell hb13 hHeld.2.2.2.2.2.1, Bx.keep_cell hb13 hHeld.2.2.2.2.2.2.1, Bx.keep_cell hb13 hHeld.2.2.2.2.2.2.2.1, Bx.keep_cell hb13 hHeld.2.2.2.2.2.2.2.2.1, Bx.keep_cell hb13 hHeld.2.2.2.2.2.2.2.2.2.1, Bx.keep_cell hb13 hHeld.2.2.2.2.2.2.2.2.2.2.1, Bx.keep_cell hb13 hHeld.2.2.2.2.2.2.2.2.2.2.2.1, Bx.keep_cell hb13 hHeld.2.2.2.2.2.2.2.2.2.2.2.2.1, Bx.keep_cell hb13 hHeld.2.2.2.2.2.2.2.2.2.2.2.2.2.1, Bx.keep_cell hb13 hHeld.2.2.2.2.2.2.2.2.2.2.2.2.2.2.1, Bx.keep_cell hb13 hHeld.2.2.2.2.2.2.2.2.2.2.2.2.2.2.2.1, Bx.keep_cell hb13 hHeld.2.2.2.2.2.2.2.2.2.2.2.2.2.2.2.2.1, Bx.keep_cell hb13 hHeld.2.2.2.2.2.2.2.2.2.2.2.2.2.2.2.2.2.1, Bx.keep_cell hb13 hHeld.2.2.2.2.2.2.2.2.2.2.2.2.2.2.2.2.2.2.1, Bx.keep_cell hb13 hHeld.2.2.2.2.2.2.2.2.2.2.2.2.2.2.2.2.2.2.2.1, Bx.keep_cell hb13 hHeld.2.2.2.2.2.2.2.2.2.2.2.2.2.2.2.2.2.2.2.2.1, Bx.keep_cell hb13 hHeld.2.2.2.2.2.2.2.2.2.2.2.2.2.2.2.2.2.2.2.2.2⟩ (fun hNew => ?_)
  clear hHeld
  have hHeld := hNew
  clear hNew hK K
  replace bel := Bx.then_below bel hb13
  replace V1 := Lib.hid (V1.out.below hb13)
  have V2 := Lib.hid hv2
  clear hv2
  clear hb13
  refine wpAnyH_ready (rs := [49]) (by kernel_rfl) (by simp) ?_
  refine AllReadyH.cons (o := ?o49) ?hi49 ?hst49 AllReadyH.nil
  case hi49 => (simp only [List.getElem?_toArray, List.getElem?_cons_succ, List.getElem?_cons_zero]; rfl)
  intro K hK
  go_simp
  (go_at_call 17; (with_reducible refine (same_usual _ _ _ V1.out V2.out).mono ?_); rintro e w14 ⟨rfl, hb14⟩)
  go_wp2_with fail
  refine hK.out _ _ ⟨Bx.Blk.keep hHeld.1 hb14, Bx.keep_cell hb14 hHeld.2.1, Bx.keep_cell hb14 hHeld.2.2.1, Bx.keep_cell hb14 hHeld.2.2.2.1, Bx.keep_cell hb14 hHeld.2.2.2.2.1, Bx.keep_cell hb14 hHeld.2.2.2.2.2.1, Bx.keep_cell hb14 hHeld.2.2.2.2.2.2.1, Bx.keep_cell hb14 hHeld.2.2.2.2.2.2.2.1, Bx.keep_cell hb14 hHeld.2.2.2.2.2.2.2.2.1, Bx.keep_cell hb14 hHeld.2.2.2.2.2.2.2.2.2.1, Bx.keep_cell hb14 hHeld.2.2.2.2.2.2.2.2.2.2.1, Bx.keep_cell hb14 hHeld.2.2.2.2.2.2.2.2.2.2.2.1, Bx.keep_cell hb14 hHeld.2.2.2.2.2.2.2.2.2.2.2.2.1, Bx.keep_cell hb14 hHeld.2.2.2.2.2.2.2.2.2.2.2.2.2.1, Bx.keep_cell hb14 hHeld.2.2.2.2.2.2.2.2.2.2.2.2.2.2.1, Bx.keep_cell hb14 hHeld.2.2.2.2.2.2.2.2.2.2.2.2.2.2.2.1, Bx.keep_cell hb14 hHeld.2.2.2.2.2.2.2.2.2.2.2.2.2.2.2.2.1, Bx.keep_cell hb14 hHeld.2.2.2.2.2.2.2.2.2.2.2.2.2.2.2.2.2.1, Bx.keep_cell hb14 hHeld.2.2.2.2.2.2.2.2.2.2.2.2.2.2.2.2.2.2.1, Bx.keep_cell hb14 hHeld.2.2.2.2.2.2.2.2.2.2.2.2.2.2.2.2.2.2.2.1, Bx.keep_cell hb14 hHeld.2.2.2.2.2.2.2.2.2.2.2.2.2.2.2.2.2.2.2.2.1, Bx.keep_cell hb14 hHeld.2.2.2.2.2.2.2.2.2.2.2.2.2.2.2.2.2.2.2.2.2⟩ (fun hNew => ?_)
  clear hHeld
  have hHeld := hNew
  clear hNew hK K
  replace bel := Bx.then_below bel hb14
  clear hb14
  refine wpAnyH_take (i := 50) (oi := ?o50) (v := ?v50) ?hi50 (by kernel_rfl) (by kernel_rfl) (by kernel_rfl) (fun _ _ _ h => h) ?y50 (by assumption) ?r50
  case hi50 => (simp only [List.getElem?_toArray, List.getElem?_cons_succ, List.getElem?_cons_zero]; rfl)
  case y50 => (refine Or.inl ⟨by rfl, ?_⟩; intro w' hSw; (try dsimp only at hSw); go_simp; (try with_reducible rfl))
  try simp only [Act.put, List.setIfInBounds_toArray, List.set_cons_zero, List.set_cons_succ]
  refine wpAnyH_take (i := 51) (oi := ?o51) (v := ?v51) ?hi51 (by kernel_rfl) (by kernel_rfl) (by kernel_rfl) (fun _ _ _ h => h) ?y51 (by assumption) ?r51
  case hi51 => (simp only [List.getElem?_toArray, List.getElem?_cons_succ, List.getElem?_cons_zero]; rfl)
  case y51 => (refine Or.inl ⟨by rfl, ?_⟩; intro w' hSw; (try dsimp only at hSw); go_simp; (try with_reducible rfl))
  try simp only [Act.put, List.setIfInBounds_toArray, List.set_cons_zero, List.set_cons_succ]
  refine wpAnyH_ready (rs := [52]) (by kernel_rfl) (by simp) ?_
  refine AllReadyH.cons (o := ?o52) ?hi52 ?hst52 AllReadyH.nil
  case hi52 => (simp only [List.getElem?_toArray, List.getElem?_cons_succ, List.getElem?_cons_zero]; rfl)
  intro K hK
  go_simp
  (go_at_call 6; (with_reducible refine (awake_any _).mono ?_); rintro e w15 ⟨rfl, hb15⟩)
  go_wp2_with fail
  refine hK.out _ _ ⟨Bx.Blk.keep hHeld.1 hb15, Bx.keep_cell hb15 hHeld.2.1, Bx.keep_cell hb15 hHeld.2.2.1, Bx.keep_cell hb15 hHeld.2.2.2.1, Bx.keep_cell hb15 hHeld.2.2.2.2.1, Bx.keep_cell hb15 hHeld.2.2.2.2.2.1, Bx.keep_cell hb15 hHeld.2.2.2.2.2.2.1, Bx.keep_cell hb15 hHeld.2.2.2.2.2.2.2.1, Bx.keep_cell hb15 hHeld.2.2.2.2.2.2.2.2.1, Bx.keep_cell hb15 hHeld.2.2.2.2.2.2.2.2.2.1, Bx.keep_cell hb15 hHeld.2.2.2.2.2.2.2.2.2.2.1, Bx.keep_cell hb15 hHeld.2.2.2.2.2.2.2.2.2.2.2.1, Bx.keep_cell hb15 hHeld.2.2.2.2.2.2.2.2.2.2.2.2.1, Bx.keep_cell hb15 hHeld.2.2.2.2.2.2.2.2.2.2.2.2.2.1, Bx.keep_cell hb15 hHeld.2.2.2.2.2.2.2.2.2.2.2.2.2.2.1, Bx.keep_cell hb15 hHeld.2.2.2.2.2.2.2.2.2.2.2.2.2.2.2.1, Bx.keep_cell hb15 hHeld.2.2.2.2.2.2.2.2.2.2.2.2.2.2.2.2.1, Bx.keep_cell hb15 hHeld.2.2.2.2.2.2.2.2.2.2.2.2.2.2.2.2.2.1, Bx.keep_cell hb15 hHeld.2.2.2.2.2.2.2.2.2.2.2.2.2.2.2.2.2.2.1, Bx.keep_cell hb15 hHeld.2.2.2.2.2.2.2.2.2.2.2.2.2.2.2.2.2.2.2.1, Bx.keep_cell hb15 hHeld.2.2.2.2.2.2.2.2.2.2.2.2.2.2.2.2.2.2.2.2.1, Bx.keep_cell hb15 hHeld.2.2.2.2.2.2.2.2.2.2.2.2.2.2.2.2.2.2.2.2.2⟩ (fun hNew => ?_)
  clear hHeld
  have hHeld := hNew
  clear hNew hK K
  replace bel := Bx.then_below bel hb15
  clear hb15
  refine wpAnyH_take (i := 53) (oi := ?o53) (v := ?v53) ?hi53 (by kernel_rfl) (by kernel_rfl) (by kernel_rfl) (fun _ _ _ h => h) ?y53 (by assumption) ?r53
  case hi53 => (simp only [List.getElem?_toArray, List.getElem?_cons_succ, List.getElem?_cons_zero]; rfl)
  case y53 => (refine Or.inl ⟨by rfl, ?_⟩; intro w' hSw; (try dsimp only at hSw); go_simp; (try with_reducible rfl))
  try simp only [Act.put, List.setIfInBounds_toArray, List.set_cons_zero, List.set_cons_succ]
  refine wpAnyH_take (i := 54) (oi := ?o54) (v := ?v54) ?hi54 (by kernel_rfl) (by kernel_rfl) (by kernel_rfl) (fun _ _ _ h => h) ?y54 (by assumption) ?r54
  case hi54 => (simp only [List.getElem?_toArray, List.getElem?_cons_succ, List.getElem?_cons_zero]; rfl)
  case y54 => (refine Or.inl ⟨by rfl, ?_⟩; intro w' hSw; (try dsimp only at hSw); go_simp; (try with_reducible rfl))
  try simp only [Act.put, List.setIfInBounds_toArray, List.set_cons_zero, List.set_cons_succ]
  refine wpAnyH_done (by kernel_rfl) ?_ _
  refine NoPanic.normal ?_
  clear hHeld B0 B1 B2 B3 B4 B5 B6 c1_0 c1_1 c1_2 c1_3 c1_4 c1_5 c1_6 c2_0 c2_1 c3_0 c3_1 c3_2 c3_3 c3_4 c3_5 c3_6 c4_0 c4_1 c4_2 c4_3 c4_4 c4_5 c4_6 c5_0 c5_1 c5_2 c6_0 c6_1 c6_2
  go_wp2_with fail
  go_ret
  exact ⟨rfl, bel⟩

end Mem
end Go.Proofs.Ytbighadkcmhplaa
