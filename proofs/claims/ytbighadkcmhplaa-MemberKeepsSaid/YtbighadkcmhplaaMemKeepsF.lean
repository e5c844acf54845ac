/-
  The law MemberKeeps where the port takes the frame not, way by way.
-/
import Derived.Test.YtbighadkcmhplaaMemKeepsA
import Derived.Test.YtbighadkcmhplaaMemJ
namespace Go.Proofs.Ytbighadkcmhplaa
open Go.RowKit
namespace Mem
open Oct Eth

set_option maxRecDepth 100000 in
set_option maxHeartbeats 8000000 in
theorem keeps_f_no (o k : Nat → Int) (A : Option Addr) (n c : Nat) (d s : Int) (g : Bool) (p v t : Int) (X : ByteArray) (a b m : Int) (q to : Nat) (T F2 : Int) (d2 s2 : Int) (g2 : Bool) (p2 v2 t2 : Int) (X2 : ByteArray) (w : World) (hX : X.size ≤ 12000) (hqa : wrap64 ((IntKind.u64.wrap a).tmod 8) = (q : Int)) (hqb : wrap64 ((IntKind.u64.wrap b).tmod 8) = (to : Int)) (h8 : to < 8)
    (HL : Hid (∀ w', Below w.heap.size w w' → Calls Try.prog 5 #[pv o k A n c] w' fun e w'' => e = .returned (.bool false) ∧ Below w'.heap.size w' w''))
    (HR : Hid (∀ w', Below w.heap.size w w' → Calls Try.prog 13 #[pv o k A n c] w' fun e w'' => e = .returned (.bool true) ∧ Below w'.heap.size w' w''))
    (HT : Hid (∀ w', Below w.heap.size w w' → Calls Try.prog 7 #[pv o k A n c, .int .i64 (q : Int), fr d s g p v t X] w' fun e w'' => e = .returned (.tuple #[.int .i64 T, .bool false]) ∧ Below w'.heap.size w' w''))
    (HS : Hid (∀ w', Below w.heap.size w w' → Calls Try.prog 9 #[pv o k A n c, .int .i64 (q : Int), .int .i64 m, fr d s g p v t X] w' fun e w'' => e = .returned (.tuple #[.agg #[.int .u64 d2, .int .u64 s2, .bool g2, .int .i64 p2, .int .i64 v2, .int .i64 t2, .string X2], .bool false]) ∧ Below w'.heap.size w' w''))
    (HO2 : Hid (∀ w', Below w.heap.size w w' → Calls Try.prog 15 #[pv o k A n c, .int .i64 m] w' fun e w'' => e = .returned (.int .i64 F2) ∧ Below w'.heap.size w' w''))
    (HH2 : Hid (∀ w, Calls Try.prog 20 #[.int .i64 F2, .int .i64 (q : Int)] w fun e w' => e = .returned (.bool false) ∧ w = w')) :
    Calls Try.prog 4 #[pv o k A n c, fr d s g p v t X, .agg #[.int .i64 a, .int .i64 b, .int .i64 m]] w fun e w' => e = .returned (.bool true) ∧ Below w.heap.size w w' := by
  have h8i : (to : Int) < 8 := by omega
  have hin : ((to : Int)).toNat = to := by omega
  have eX : (X.toList == X.toList) = true := by simp
  have bel := Bx.bel_refl w
  have B0 := Lib.hid (Bx.Blk.new w (pc o k A n c) 25)
  replace bel := Bx.bel_box bel (Obj.cells (pc o k A n c).toArray 25)
  replace B0 := Lib.hid (B0.out.more (Obj.cells #[.int .u64 d, .int .u64 s, .bool g, .int .i64 p, .int .i64 v, .int .i64 t, .string X] 29))
  have B1 := Lib.hid (Bx.Blk.new_at (W := (w.alloc (Obj.cells (pc o k A n c).toArray 25))) (k := w.heap.size + 1) [.int .u64 d, .int .u64 s, .bool g, .int .i64 p, .int .i64 v, .int .i64 t, .string X] 29 (by simp))
  replace bel := Bx.bel_box bel (Obj.cells #[.int .u64 d, .int .u64 s, .bool g, .int .i64 p, .int .i64 v, .int .i64 t, .string X] 29)
  obtain ⟨c1_0, c1_1, c1_2, c1_3, c1_4, c1_5, c1_6⟩ := B1.out.all7
  replace B0 := Lib.hid (B0.out.more (Obj.cells #[.int .i64 a, .int .i64 b, .int .i64 m] 45))
  replace B1 := Lib.hid (B1.out.more (Obj.cells #[.int .i64 a, .int .i64 b, .int .i64 m] 45))
  have B2 := Lib.hid (Bx.Blk.new_at (W := ((w.alloc (Obj.cells (pc o k A n c).toArray 25)).alloc (Obj.cells #[.int .u64 d, .int .u64 s, .bool g, .int .i64 p, .int .i64 v, .int .i64 t, .string X] 29))) (k := w.heap.size + 2) [.int .i64 a, .int .i64 b, .int .i64 m] 45 (by simp))
  replace bel := Bx.bel_box bel (Obj.cells #[.int .i64 a, .int .i64 b, .int .i64 m] 45)
  clear c1_0 c1_1 c1_2 c1_3 c1_4 c1_5 c1_6
  obtain ⟨c1_0, c1_1, c1_2, c1_3, c1_4, c1_5, c1_6⟩ := B1.out.all7
  obtain ⟨c2_0, c2_1, c2_2⟩ := B2.out.all3
  go_enter Try.func4, Try.ntmps4
  go_wp2_with (first | ((with_reducible refine load_at ?_ ?_ (w.heap.size) ?_ o k A n c ?_ ?_); (· rfl); (· rfl); (· rfl); (· exact B0.out)))
  refine (HL.out _ bel).mono ?_; rintro e w1 ⟨rfl, hb1⟩
  replace bel := Bx.then_below bel hb1
  replace B0 := Lib.hid (B0.out.keep hb1)
  replace B1 := Lib.hid (B1.out.keep hb1)
  replace B2 := Lib.hid (B2.out.keep hb1)
  clear hb1
  clear c1_0 c1_1 c1_2 c1_3 c1_4 c1_5 c1_6 c2_0 c2_1 c2_2
  obtain ⟨c1_0, c1_1, c1_2, c1_3, c1_4, c1_5, c1_6⟩ := B1.out.all7
  obtain ⟨c2_0, c2_1, c2_2⟩ := B2.out.all3
  go_wp2_with (first | ((with_reducible refine load_at ?_ ?_ (w.heap.size) ?_ o k A n c ?_ ?_); (· rfl); (· rfl); (· rfl); (· exact B0.out)))
  refine (HR.out _ bel).mono ?_; rintro e w2 ⟨rfl, hb2⟩
  replace bel := Bx.then_below bel hb2
  replace B0 := Lib.hid (B0.out.keep hb2)
  replace B1 := Lib.hid (B1.out.keep hb2)
  replace B2 := Lib.hid (B2.out.keep hb2)
  clear hb2
  clear c1_0 c1_1 c1_2 c1_3 c1_4 c1_5 c1_6 c2_0 c2_1 c2_2
  obtain ⟨c1_0, c1_1, c1_2, c1_3, c1_4, c1_5, c1_6⟩ := B1.out.all7
  obtain ⟨c2_0, c2_1, c2_2⟩ := B2.out.all3
  go_wp2_with (first | ((with_reducible refine load_at ?_ ?_ (w.heap.size) ?_ o k A n c ?_ ?_); (· rfl); (· rfl); (· rfl); (· exact B0.out)))
  go_quiet (fail)
  have hd := below_drewN (w2) nq
  replace bel := Bx.then_below bel hd
  replace B0 := Lib.hid (B0.out.keep hd)
  replace B1 := Lib.hid (B1.out.keep hd)
  replace B2 := Lib.hid (B2.out.keep hd)
  clear hd c1_0 c1_1 c1_2 c1_3 c1_4 c1_5 c1_6 c2_0 c2_1 c2_2
  generalize hg : (w2).drewN nq = W3 at *
  clear hg
  rw [hqa, hqb]
  clear hqa hqb
  obtain ⟨c1_0, c1_1, c1_2, c1_3, c1_4, c1_5, c1_6⟩ := B1.out.all7
  obtain ⟨c2_0, c2_1, c2_2⟩ := B2.out.all3
  go_wp2_with (first | ((with_reducible refine load_at ?_ ?_ (w.heap.size) ?_ o k A n c ?_ ?_); (· rfl); (· rfl); (· rfl); (· exact B0.out)))
  refine (HT.out _ bel).mono ?_; rintro e w3 ⟨rfl, hb3⟩
  replace bel := Bx.then_below bel hb3
  replace B0 := Lib.hid (B0.out.keep hb3)
  replace B1 := Lib.hid (B1.out.keep hb3)
  replace B2 := Lib.hid (B2.out.keep hb3)
  clear hb3
  clear c1_0 c1_1 c1_2 c1_3 c1_4 c1_5 c1_6 c2_0 c2_1 c2_2
  obtain ⟨c1_0, c1_1, c1_2, c1_3, c1_4, c1_5, c1_6⟩ := B1.out.all7
  obtain ⟨c2_0, c2_1, c2_2⟩ := B2.out.all3
  go_wp2_with (first | ((with_reducible refine load_at ?_ ?_ (w.heap.size) ?_ o k A n c ?_ ?_); (· rfl); (· rfl); (· rfl); (· exact B0.out)))
  refine (HS.out _ bel).mono ?_; rintro e w4 ⟨rfl, hb4⟩
  replace bel := Bx.then_below bel hb4
  replace B0 := Lib.hid (B0.out.keep hb4)
  replace B1 := Lib.hid (B1.out.keep hb4)
  replace B2 := Lib.hid (B2.out.keep hb4)
  clear hb4
  replace B0 := Lib.hid (B0.out.more (Obj.cells #[.int .u64 d2, .int .u64 s2, .bool g2, .int .i64 p2, .int .i64 v2, .int .i64 t2, .string X2] 29))
  replace B1 := Lib.hid (B1.out.more (Obj.cells #[.int .u64 d2, .int .u64 s2, .bool g2, .int .i64 p2, .int .i64 v2, .int .i64 t2, .string X2] 29))
  replace B2 := Lib.hid (B2.out.more (Obj.cells #[.int .u64 d2, .int .u64 s2, .bool g2, .int .i64 p2, .int .i64 v2, .int .i64 t2, .string X2] 29))
  have B3 := Lib.hid (Bx.Blk.new w4 [.int .u64 d2, .int .u64 s2, .bool g2, .int .i64 p2, .int .i64 v2, .int .i64 t2, .string X2] 29)
  replace bel := Bx.bel_box bel (Obj.cells #[.int .u64 d2, .int .u64 s2, .bool g2, .int .i64 p2, .int .i64 v2, .int .i64 t2, .string X2] 29)
  clear c1_0 c1_1 c1_2 c1_3 c1_4 c1_5 c1_6 c2_0 c2_1 c2_2
  obtain ⟨c1_0, c1_1, c1_2, c1_3, c1_4, c1_5, c1_6⟩ := B1.out.all7
  obtain ⟨c2_0, c2_1, c2_2⟩ := B2.out.all3
  obtain ⟨c3_0, c3_1, c3_2, c3_3, c3_4, c3_5, c3_6⟩ := B3.out.all7
  go_wp2_with (first | ((with_reducible refine load_at ?_ ?_ (w.heap.size) ?_ o k A n c ?_ ?_); (· rfl); (· rfl); (· rfl); (· exact B0.out)))
  refine (HO2.out _ bel).mono ?_; rintro e w5 ⟨rfl, hb5⟩
  replace bel := Bx.then_below bel hb5
  replace B0 := Lib.hid (B0.out.keep hb5)
  replace B1 := Lib.hid (B1.out.keep hb5)
  replace B2 := Lib.hid (B2.out.keep hb5)
  replace B3 := Lib.hid (B3.out.keep hb5)
  clear hb5
  clear c1_0 c1_1 c1_2 c1_3 c1_4 c1_5 c1_6 c2_0 c2_1 c2_2 c3_0 c3_1 c3_2 c3_3 c3_4 c3_5 c3_6
  obtain ⟨c1_0, c1_1, c1_2, c1_3, c1_4, c1_5, c1_6⟩ := B1.out.all7
  obtain ⟨c2_0, c2_1, c2_2⟩ := B2.out.all3
  obtain ⟨c3_0, c3_1, c3_2, c3_3, c3_4, c3_5, c3_6⟩ := B3.out.all7
  go_wp2_with (first | ((with_reducible refine load_at ?_ ?_ (w.heap.size) ?_ o k A n c ?_ ?_); (· rfl); (· rfl); (· rfl); (· exact B0.out)))
  refine (HH2.out _).mono ?_; rintro e w' ⟨rfl, rfl⟩
  clear c1_0 c1_1 c1_2 c1_3 c1_4 c1_5 c1_6 c2_0 c2_1 c2_2 c3_0 c3_1 c3_2 c3_3 c3_4 c3_5 c3_6
  obtain ⟨c1_0, c1_1, c1_2, c1_3, c1_4, c1_5, c1_6⟩ := B1.out.all7
  obtain ⟨c2_0, c2_1, c2_2⟩ := B2.out.all3
  obtain ⟨c3_0, c3_1, c3_2, c3_3, c3_4, c3_5, c3_6⟩ := B3.out.all7
  have co := B0.out.at to (pc_own o k A n c h8)
  go_wp2_with (first | ((with_reducible refine load_at ?_ ?_ (w.heap.size) ?_ o k A n c ?_ ?_); (· rfl); (· rfl); (· rfl); (· exact B0.out)))
  go_quiet (fail)
  have hd := below_drewN (w5) nq
  replace bel := Bx.then_below bel hd
  replace B0 := Lib.hid (B0.out.keep hd)
  replace B1 := Lib.hid (B1.out.keep hd)
  replace B2 := Lib.hid (B2.out.keep hd)
  replace B3 := Lib.hid (B3.out.keep hd)
  clear hd c1_0 c1_1 c1_2 c1_3 c1_4 c1_5 c1_6 c2_0 c2_1 c2_2 c3_0 c3_1 c3_2 c3_3 c3_4 c3_5 c3_6
  generalize hg : (w5).drewN nq = W5 at *
  clear hg
  clear co
  obtain ⟨c1_0, c1_1, c1_2, c1_3, c1_4, c1_5, c1_6⟩ := B1.out.all7
  obtain ⟨c2_0, c2_1, c2_2⟩ := B2.out.all3
  obtain ⟨c3_0, c3_1, c3_2, c3_3, c3_4, c3_5, c3_6⟩ := B3.out.all7
  go_wp2_with (first | ((with_reducible refine load_at ?_ ?_ (w.heap.size) ?_ o k A n c ?_ ?_); (· rfl); (· rfl); (· rfl); (· exact B0.out)))
  refine (awake_any _).mono ?_; rintro e w7 ⟨rfl, hb7⟩
  replace bel := Bx.then_below bel hb7
  replace B0 := Lib.hid (B0.out.keep hb7)
  replace B1 := Lib.hid (B1.out.keep hb7)
  replace B2 := Lib.hid (B2.out.keep hb7)
  replace B3 := Lib.hid (B3.out.keep hb7)
  clear hb7
  go_wp2_with (first | ((with_reducible refine load_at ?_ ?_ (w.heap.size) ?_ o k A n c ?_ ?_); (· rfl); (· rfl); (· rfl); (· exact B0.out)))
  go_ret
  exact ⟨rfl, bel⟩

set_option maxRecDepth 100000 in
set_option maxHeartbeats 8000000 in
theorem keeps_f_tag_is (o k : Nat → Int) (A : Option Addr) (n c : Nat) (d s : Int) (g : Bool) (p v t : Int) (X : ByteArray) (a b m : Int) (q to : Nat) (T F2 : Int) (w : World) (hX : X.size ≤ 12000) (hqa : wrap64 ((IntKind.u64.wrap a).tmod 8) = (q : Int)) (hqb : wrap64 ((IntKind.u64.wrap b).tmod 8) = (to : Int)) (h8 : to < 8)
    (HL : Hid (∀ w', Below w.heap.size w w' → Calls Try.prog 5 #[pv o k A n c] w' fun e w'' => e = .returned (.bool false) ∧ Below w'.heap.size w' w''))
    (HR : Hid (∀ w', Below w.heap.size w w' → Calls Try.prog 13 #[pv o k A n c] w' fun e w'' => e = .returned (.bool true) ∧ Below w'.heap.size w' w''))
    (HT : Hid (∀ w', Below w.heap.size w w' → Calls Try.prog 7 #[pv o k A n c, .int .i64 (q : Int), fr d s g p v t X] w' fun e w'' => e = .returned (.tuple #[.int .i64 T, .bool false]) ∧ Below w'.heap.size w' w''))
    (HS : Hid (∀ w', Below w.heap.size w w' → Calls Try.prog 9 #[pv o k A n c, .int .i64 (q : Int), .int .i64 m, fr d s g p v t X] w' fun e w'' => e = .returned (.tuple #[.agg #[.int .u64 d, .int .u64 s, .bool true, .int .i64 p, .int .i64 m, .int .i64 t, .string X], .bool true]) ∧ Below w'.heap.size w' w''))
    (HO2 : Hid (∀ w', Below w.heap.size w w' → Calls Try.prog 15 #[pv o k A n c, .int .i64 m] w' fun e w'' => e = .returned (.int .i64 F2) ∧ Below w'.heap.size w' w''))
    (HH2 : Hid (∀ w, Calls Try.prog 20 #[.int .i64 F2, .int .i64 (q : Int)] w fun e w' => e = .returned (.bool true) ∧ w = w'))
    (HT3 : Hid (∀ w', Below w.heap.size w w' → Calls Try.prog 7 #[pv o k A n c, .int .i64 (to : Int), .agg #[.int .u64 d, .int .u64 s, .bool true, .int .i64 p, .int .i64 m, .int .i64 t, .string X]] w' fun e w'' => e = .returned (.tuple #[.int .i64 m, .bool true]) ∧ Below w'.heap.size w' w'')) :
    Calls Try.prog 4 #[pv o k A n c, fr d s g p v t X, .agg #[.int .i64 a, .int .i64 b, .int .i64 m]] w fun e w' => e = .returned (.bool true) ∧ Below w.heap.size w w' := by
  have h8i : (to : Int) < 8 := by omega
  have hin : ((to : Int)).toNat = to := by omega
  have eX : (X.toList == X.toList) = true := by simp
  have em : (m == m) = true := by simp
  have bel := Bx.bel_refl w
  have B0 := Lib.hid (Bx.Blk.new w (pc o k A n c) 25)
  replace bel := Bx.bel_box bel (Obj.cells (pc o k A n c).toArray 25)
  replace B0 := Lib.hid (B0.out.more (Obj.cells #[.int .u64 d, .int .u64 s, .bool g, .int .i64 p, .int .i64 v, .int .i64 t, .string X] 29))
  have B1 := Lib.hid (Bx.Blk.new_at (W := (w.alloc (Obj.cells (pc o k A n c).toArray 25))) (k := w.heap.size + 1) [.int .u64 d, .int .u64 s, .bool g, .int .i64 p, .int .i64 v, .int .i64 t, .string X] 29 (by simp))
  replace bel := Bx.bel_box bel (Obj.cells #[.int .u64 d, .int .u64 s, .bool g, .int .i64 p, .int .i64 v, .int .i64 t, .string X] 29)
  obtain ⟨c1_0, c1_1, c1_2, c1_3, c1_4, c1_5, c1_6⟩ := B1.out.all7
  replace B0 := Lib.hid (B0.out.more (Obj.cells #[.int .i64 a, .int .i64 b, .int .i64 m] 45))
  replace B1 := Lib.hid (B1.out.more (Obj.cells #[.int .i64 a, .int .i64 b, .int .i64 m] 45))
  have B2 := Lib.hid (Bx.Blk.new_at (W := ((w.alloc (Obj.cells (pc o k A n c).toArray 25)).alloc (Obj.cells #[.int .u64 d, .int .u64 s, .bool g, .int .i64 p, .int .i64 v, .int .i64 t, .string X] 29))) (k := w.heap.size + 2) [.int .i64 a, .int .i64 b, .int .i64 m] 45 (by simp))
  replace bel := Bx.bel_box bel (Obj.cells #[.int .i64 a, .int .i64 b, .int .i64 m] 45)
  clear c1_0 c1_1 c1_2 c1_3 c1_4 c1_5 c1_6
  obtain ⟨c1_0, c1_1, c1_2, c1_3, c1_4, c1_5, c1_6⟩ := B1.out.all7
  obtain ⟨c2_0, c2_1, c2_2⟩ := B2.out.all3
  go_enter Try.func4, Try.ntmps4
  go_wp2_with (first | ((with_reducible refine load_at ?_ ?_ (w.heap.size) ?_ o k A n c ?_ ?_); (· rfl); (· rfl); (· rfl); (· exact B0.out)))
  refine (HL.out _ bel).mono ?_; rintro e w1 ⟨rfl, hb1⟩
  replace bel := Bx.then_below bel hb1
  replace B0 := Lib.hid (B0.out.keep hb1)
  replace B1 := Lib.hid (B1.out.keep hb1)
  replace B2 := Lib.hid (B2.out.keep hb1)
  clear hb1
  clear c1_0 c1_1 c1_2 c1_3 c1_4 c1_5 c1_6 c2_0 c2_1 c2_2
  obtain ⟨c1_0, c1_1, c1_2, c1_3, c1_4, c1_5, c1_6⟩ := B1.out.all7
  obtain ⟨c2_0, c2_1, c2_2⟩ := B2.out.all3
  go_wp2_with (first | ((with_reducible refine load_at ?_ ?_ (w.heap.size) ?_ o k A n c ?_ ?_); (· rfl); (· rfl); (· rfl); (· exact B0.out)))
  refine (HR.out _ bel).mono ?_; rintro e w2 ⟨rfl, hb2⟩
  replace bel := Bx.then_below bel hb2
  replace B0 := Lib.hid (B0.out.keep hb2)
  replace B1 := Lib.hid (B1.out.keep hb2)
  replace B2 := Lib.hid (B2.out.keep hb2)
  clear hb2
  clear c1_0 c1_1 c1_2 c1_3 c1_4 c1_5 c1_6 c2_0 c2_1 c2_2
  obtain ⟨c1_0, c1_1, c1_2, c1_3, c1_4, c1_5, c1_6⟩ := B1.out.all7
  obtain ⟨c2_0, c2_1, c2_2⟩ := B2.out.all3
  go_wp2_with (first | ((with_reducible refine load_at ?_ ?_ (w.heap.size) ?_ o k A n c ?_ ?_); (· rfl); (· rfl); (· rfl); (· exact B0.out)))
  go_quiet (fail)
  have hd := below_drewN (w2) nq
  replace bel := Bx.then_below bel hd
  replace B0 := Lib.hid (B0.out.keep hd)
  replace B1 := Lib.hid (B1.out.keep hd)
  replace B2 := Lib.hid (B2.out.keep hd)
  clear hd c1_0 c1_1 c1_2 c1_3 c1_4 c1_5 c1_6 c2_0 c2_1 c2_2
  generalize hg : (w2).drewN nq = W3 at *
  clear hg
  rw [hqa, hqb]
  clear hqa hqb
  obtain ⟨c1_0, c1_1, c1_2, c1_3, c1_4, c1_5, c1_6⟩ := B1.out.all7
  obtain ⟨c2_0, c2_1, c2_2⟩ := B2.out.all3
  go_wp2_with (first | ((with_reducible refine load_at ?_ ?_ (w.heap.size) ?_ o k A n c ?_ ?_); (· rfl); (· rfl); (· rfl); (· exact B0.out)))
  refine (HT.out _ bel).mono ?_; rintro e w3 ⟨rfl, hb3⟩
  replace bel := Bx.then_below bel hb3
  replace B0 := Lib.hid (B0.out.keep hb3)
  replace B1 := Lib.hid (B1.out.keep hb3)
  replace B2 := Lib.hid (B2.out.keep hb3)
  clear hb3
  clear c1_0 c1_1 c1_2 c1_3 c1_4 c1_5 c1_6 c2_0 c2_1 c2_2
  obtain ⟨c1_0, c1_1, c1_2, c1_3, c1_4, c1_5, c1_6⟩ := B1.out.all7
  obtain ⟨c2_0, c2_1, c2_2⟩ := B2.out.all3
  go_wp2_with (first | ((with_reducible refine load_at ?_ ?_ (w.heap.size) ?_ o k A n c ?_ ?_); (· rfl); (· rfl); (· rfl); (· exact B0.out)))
  refine (HS.out _ bel).mono ?_; rintro e w4 ⟨rfl, hb4⟩
  replace bel := Bx.then_below bel hb4
  replace B0 := Lib.hid (B0.out.keep hb4)
  replace B1 := Lib.hid (B1.out.keep hb4)
  replace B2 := Lib.hid (B2.out.keep hb4)
  clear hb4
  replace B0 := Lib.hid (B0.out.more (Obj.cells #[.int .u64 d, .int .u64 s, .bool true, .int .i64 p, .int .i64 m, .int .i64 t, .string X] 29))
  replace B1 := Lib.hid (B1.out.more (Obj.cells #[.int .u64 d, .int .u64 s, .bool true, .int .i64 p, .int .i64 m, .int .i64 t, .string X] 29))
  replace B2 := Lib.hid (B2.out.more (Obj.cells #[.int .u64 d, .int .u64 s, .bool true, .int .i64 p, .int .i64 m, .int .i64 t, .string X] 29))
  have B3 := Lib.hid (Bx.Blk.new w4 [.int .u64 d, .int .u64 s, .bool true, .int .i64 p, .int .i64 m, .int .i64 t, .string X] 29)
  replace bel := Bx.bel_box bel (Obj.cells #[.int .u64 d, .int .u64 s, .bool true, .int .i64 p, .int .i64 m, .int .i64 t, .string X] 29)
  clear c1_0 c1_1 c1_2 c1_3 c1_4 c1_5 c1_6 c2_0 c2_1 c2_2
  obtain ⟨c1_0, c1_1, c1_2, c1_3, c1_4, c1_5, c1_6⟩ := B1.out.all7
  obtain ⟨c2_0, c2_1, c2_2⟩ := B2.out.all3
  obtain ⟨c3_0, c3_1, c3_2, c3_3, c3_4, c3_5, c3_6⟩ := B3.out.all7
  go_wp2_with (first | ((with_reducible refine load_at ?_ ?_ (w.heap.size) ?_ o k A n c ?_ ?_); (· rfl); (· rfl); (· rfl); (· exact B0.out)))
  refine (HO2.out _ bel).mono ?_; rintro e w5 ⟨rfl, hb5⟩
  replace bel := Bx.then_below bel hb5
  replace B0 := Lib.hid (B0.out.keep hb5)
  replace B1 := Lib.hid (B1.out.keep hb5)
  replace B2 := Lib.hid (B2.out.keep hb5)
  replace B3 := Lib.hid (B3.out.keep hb5)
  clear hb5
  clear c1_0 c1_1 c1_2 c1_3 c1_4 c1_5 c1_6 c2_0 c2_1 c2_2 c3_0 c3_1 c3_2 c3_3 c3_4 c3_5 c3_6
  obtain ⟨c1_0, c1_1, c1_2, c1_3, c1_4, c1_5, c1_6⟩ := B1.out.all7
  obtain ⟨c2_0, c2_1, c2_2⟩ := B2.out.all3
  obtain ⟨c3_0, c3_1, c3_2, c3_3, c3_4, c3_5, c3_6⟩ := B3.out.all7
  go_wp2_with (first | ((with_reducible refine load_at ?_ ?_ (w.heap.size) ?_ o k A n c ?_ ?_); (· rfl); (· rfl); (· rfl); (· exact B0.out)))
  refine (HH2.out _).mono ?_; rintro e w' ⟨rfl, rfl⟩
  clear c1_0 c1_1 c1_2 c1_3 c1_4 c1_5 c1_6 c2_0 c2_1 c2_2 c3_0 c3_1 c3_2 c3_3 c3_4 c3_5 c3_6
  obtain ⟨c1_0, c1_1, c1_2, c1_3, c1_4, c1_5, c1_6⟩ := B1.out.all7
  obtain ⟨c2_0, c2_1, c2_2⟩ := B2.out.all3
  obtain ⟨c3_0, c3_1, c3_2, c3_3, c3_4, c3_5, c3_6⟩ := B3.out.all7
  have co := B0.out.at to (pc_own o k A n c h8)
  go_wp2_with (first | ((with_reducible refine load_at ?_ ?_ (w.heap.size) ?_ o k A n c ?_ ?_); (· rfl); (· rfl); (· rfl); (· exact B0.out)))
  go_quiet (fail)
  have hd := below_drewN (w5) nq
  replace bel := Bx.then_below bel hd
  replace B0 := Lib.hid (B0.out.keep hd)
  replace B1 := Lib.hid (B1.out.keep hd)
  replace B2 := Lib.hid (B2.out.keep hd)
  replace B3 := Lib.hid (B3.out.keep hd)
  clear hd c1_0 c1_1 c1_2 c1_3 c1_4 c1_5 c1_6 c2_0 c2_1 c2_2 c3_0 c3_1 c3_2 c3_3 c3_4 c3_5 c3_6
  generalize hg : (w5).drewN nq = W5 at *
  clear hg
  clear co
  obtain ⟨c1_0, c1_1, c1_2, c1_3, c1_4, c1_5, c1_6⟩ := B1.out.all7
  obtain ⟨c2_0, c2_1, c2_2⟩ := B2.out.all3
  obtain ⟨c3_0, c3_1, c3_2, c3_3, c3_4, c3_5, c3_6⟩ := B3.out.all7
  go_wp2_with (first | ((with_reducible refine load_at ?_ ?_ (w.heap.size) ?_ o k A n c ?_ ?_); (· rfl); (· rfl); (· rfl); (· exact B0.out)))
  refine (HT3.out _ bel).mono ?_; rintro e w7 ⟨rfl, hb7⟩
  replace bel := Bx.then_below bel hb7
  replace B0 := Lib.hid (B0.out.keep hb7)
  replace B1 := Lib.hid (B1.out.keep hb7)
  replace B2 := Lib.hid (B2.out.keep hb7)
  replace B3 := Lib.hid (B3.out.keep hb7)
  clear hb7
  clear c1_0 c1_1 c1_2 c1_3 c1_4 c1_5 c1_6 c2_0 c2_1 c2_2 c3_0 c3_1 c3_2 c3_3 c3_4 c3_5 c3_6
  obtain ⟨c1_0, c1_1, c1_2, c1_3, c1_4, c1_5, c1_6⟩ := B1.out.all7
  obtain ⟨c2_0, c2_1, c2_2⟩ := B2.out.all3
  obtain ⟨c3_0, c3_1, c3_2, c3_3, c3_4, c3_5, c3_6⟩ := B3.out.all7
  have ck := B0.out.at (8 + to) (pc_take o k A n c h8)
  go_wp2_with (first | ((with_reducible refine load_at ?_ ?_ (w.heap.size) ?_ o k A n c ?_ ?_); (· rfl); (· rfl); (· rfl); (· exact B0.out)))
  refine (awake_any _).mono ?_; rintro e w8 ⟨rfl, hb8⟩
  replace bel := Bx.then_below bel hb8
  replace B0 := Lib.hid (B0.out.keep hb8)
  replace B1 := Lib.hid (B1.out.keep hb8)
  replace B2 := Lib.hid (B2.out.keep hb8)
  replace B3 := Lib.hid (B3.out.keep hb8)
  clear hb8
  go_wp2_with (first | ((with_reducible refine load_at ?_ ?_ (w.heap.size) ?_ o k A n c ?_ ?_); (· rfl); (· rfl); (· rfl); (· exact B0.out)))
  go_ret
  exact ⟨rfl, bel⟩

set_option maxRecDepth 100000 in
set_option maxHeartbeats 8000000 in
theorem keeps_f_tag_kn (o k : Nat → Int) (A : Option Addr) (n c : Nat) (d s : Int) (g : Bool) (p v t : Int) (X : ByteArray) (a b m : Int) (q to : Nat) (T F2 : Int) (T3 : Int) (w : World) (hX : X.size ≤ 12000) (hqa : wrap64 ((IntKind.u64.wrap a).tmod 8) = (q : Int)) (hqb : wrap64 ((IntKind.u64.wrap b).tmod 8) = (to : Int)) (h8 : to < 8) (hk : ¬ k to = 0)
    (HL : Hid (∀ w', Below w.heap.size w w' → Calls Try.prog 5 #[pv o k A n c] w' fun e w'' => e = .returned (.bool false) ∧ Below w'.heap.size w' w''))
    (HR : Hid (∀ w', Below w.heap.size w w' → Calls Try.prog 13 #[pv o k A n c] w' fun e w'' => e = .returned (.bool true) ∧ Below w'.heap.size w' w''))
    (HT : Hid (∀ w', Below w.heap.size w w' → Calls Try.prog 7 #[pv o k A n c, .int .i64 (q : Int), fr d s g p v t X] w' fun e w'' => e = .returned (.tuple #[.int .i64 T, .bool false]) ∧ Below w'.heap.size w' w''))
    (HS : Hid (∀ w', Below w.heap.size w w' → Calls Try.prog 9 #[pv o k A n c, .int .i64 (q : Int), .int .i64 m, fr d s g p v t X] w' fun e w'' => e = .returned (.tuple #[.agg #[.int .u64 d, .int .u64 s, .bool true, .int .i64 p, .int .i64 m, .int .i64 t, .string X], .bool true]) ∧ Below w'.heap.size w' w''))
    (HO2 : Hid (∀ w', Below w.heap.size w w' → Calls Try.prog 15 #[pv o k A n c, .int .i64 m] w' fun e w'' => e = .returned (.int .i64 F2) ∧ Below w'.heap.size w' w''))
    (HH2 : Hid (∀ w, Calls Try.prog 20 #[.int .i64 F2, .int .i64 (q : Int)] w fun e w' => e = .returned (.bool true) ∧ w = w'))
    (HT3 : Hid (∀ w', Below w.heap.size w w' → Calls Try.prog 7 #[pv o k A n c, .int .i64 (to : Int), .agg #[.int .u64 d, .int .u64 s, .bool true, .int .i64 p, .int .i64 m, .int .i64 t, .string X]] w' fun e w'' => e = .returned (.tuple #[.int .i64 T3, .bool false]) ∧ Below w'.heap.size w' w'')) :
    Calls Try.prog 4 #[pv o k A n c, fr d s g p v t X, .agg #[.int .i64 a, .int .i64 b, .int .i64 m]] w fun e w' => e = .returned (.bool true) ∧ Below w.heap.size w w' := by
  have h8i : (to : Int) < 8 := by omega
  have hin : ((to : Int)).toNat = to := by omega
  have eX : (X.toList == X.toList) = true := by simp
  have hk1 : (k to == 0) = false := by simpa using hk
  have hk2 : (k to != 0) = true := by simpa using hk
  have bel := Bx.bel_refl w
  have B0 := Lib.hid (Bx.Blk.new w (pc o k A n c) 25)
  replace bel := Bx.bel_box bel (Obj.cells (pc o k A n c).toArray 25)
  replace B0 := Lib.hid (B0.out.more (Obj.cells #[.int .u64 d, .int .u64 s, .bool g, .int .i64 p, .int .i64 v, .int .i64 t, .string X] 29))
  have B1 := Lib.hid (Bx.Blk.new_at (W := (w.alloc (Obj.cells (pc o k A n c).toArray 25))) (k := w.heap.size + 1) [.int .u64 d, .int .u64 s, .bool g, .int .i64 p, .int .i64 v, .int .i64 t, .string X] 29 (by simp))
  replace bel := Bx.bel_box bel (Obj.cells #[.int .u64 d, .int .u64 s, .bool g, .int .i64 p, .int .i64 v, .int .i64 t, .string X] 29)
  obtain ⟨c1_0, c1_1, c1_2, c1_3, c1_4, c1_5, c1_6⟩ := B1.out.all7
  replace B0 := Lib.hid (B0.out.more (Obj.cells #[.int .i64 a, .int .i64 b, .int .i64 m] 45))
  replace B1 := Lib.hid (B1.out.more (Obj.cells #[.int .i64 a, .int .i64 b, .int .i64 m] 45))
  have B2 := Lib.hid (Bx.Blk.new_at (W := ((w.alloc (Obj.cells (pc o k A n c).toArray 25)).alloc (Obj.cells #[.int .u64 d, .int .u64 s, .bool g, .int .i64 p, .int .i64 v, .int .i64 t, .string X] 29))) (k := w.heap.size + 2) [.int .i64 a, .int .i64 b, .int .i64 m] 45 (by simp))
  replace bel := Bx.bel_box bel (Obj.cells #[.int .i64 a, .int .i64 b, .int .i64 m] 45)
  clear c1_0 c1_1 c1_2 c1_3 c1_4 c1_5 c1_6
  obtain ⟨c1_0, c1_1, c1_2, c1_3, c1_4, c1_5, c1_6⟩ := B1.out.all7
  obtain ⟨c2_0, c2_1, c2_2⟩ := B2.out.all3
  go_enter Try.func4, Try.ntmps4
  go_wp2_with (first | ((with_reducible refine load_at ?_ ?_ (w.heap.size) ?_ o k A n c ?_ ?_); (· rfl); (· rfl); (· rfl); (· exact B0.out)))
  refine (HL.out _ bel).mono ?_; rintro e w1 ⟨rfl, hb1⟩
  replace bel := Bx.then_below bel hb1
  replace B0 := Lib.hid (B0.out.keep hb1)
  replace B1 := Lib.hid (B1.out.keep hb1)
  replace B2 := Lib.hid (B2.out.keep hb1)
  clear hb1
  clear c1_0 c1_1 c1_2 c1_3 c1_4 c1_5 c1_6 c2_0 c2_1 c2_2
  obtain ⟨c1_0, c1_1, c1_2, c1_3, c1_4, c1_5, c1_6⟩ := B1.out.all7
  obtain ⟨c2_0, c2_1, c2_2⟩ := B2.out.all3
  go_wp2_with (first | ((with_reducible refine load_at ?_ ?_ (w.heap.size) ?_ o k A n c ?_ ?_); (· rfl); (· rfl); (· rfl); (· exact B0.out)))
  refine (HR.out _ bel).mono ?_; rintro e w2 ⟨rfl, hb2⟩
  replace bel := Bx.then_below bel hb2
  replace B0 := Lib.hid (B0.out.keep hb2)
  replace B1 := Lib.hid (B1.out.keep hb2)
  replace B2 := Lib.hid (B2.out.keep hb2)
  clear hb2
  clear c1_0 c1_1 c1_2 c1_3 c1_4 c1_5 c1_6 c2_0 c2_1 c2_2
  obtain ⟨c1_0, c1_1, c1_2, c1_3, c1_4, c1_5, c1_6⟩ := B1.out.all7
  obtain ⟨c2_0, c2_1, c2_2⟩ := B2.out.all3
  go_wp2_with (first | ((with_reducible refine load_at ?_ ?_ (w.heap.size) ?_ o k A n c ?_ ?_); (· rfl); (· rfl); (· rfl); (· exact B0.out)))
  go_quiet (fail)
  have hd := below_drewN (w2) nq
  replace bel := Bx.then_below bel hd
  replace B0 := Lib.hid (B0.out.keep hd)
  replace B1 := Lib.hid (B1.out.keep hd)
  replace B2 := Lib.hid (B2.out.keep hd)
  clear hd c1_0 c1_1 c1_2 c1_3 c1_4 c1_5 c1_6 c2_0 c2_1 c2_2
  generalize hg : (w2).drewN nq = W3 at *
  clear hg
  rw [hqa, hqb]
  clear hqa hqb
  obtain ⟨c1_0, c1_1, c1_2, c1_3, c1_4, c1_5, c1_6⟩ := B1.out.all7
  obtain ⟨c2_0, c2_1, c2_2⟩ := B2.out.all3
  go_wp2_with (first | ((with_reducible refine load_at ?_ ?_ (w.heap.size) ?_ o k A n c ?_ ?_); (· rfl); (· rfl); (· rfl); (· exact B0.out)))
  refine (HT.out _ bel).mono ?_; rintro e w3 ⟨rfl, hb3⟩
  replace bel := Bx.then_below bel hb3
  replace B0 := Lib.hid (B0.out.keep hb3)
  replace B1 := Lib.hid (B1.out.keep hb3)
  replace B2 := Lib.hid (B2.out.keep hb3)
  clear hb3
  clear c1_0 c1_1 c1_2 c1_3 c1_4 c1_5 c1_6 c2_0 c2_1 c2_2
  obtain ⟨c1_0, c1_1, c1_2, c1_3, c1_4, c1_5, c1_6⟩ := B1.out.all7
  obtain ⟨c2_0, c2_1, c2_2⟩ := B2.out.all3
  go_wp2_with (first | ((with_reducible refine load_at ?_ ?_ (w.heap.size) ?_ o k A n c ?_ ?_); (· rfl); (· rfl); (· rfl); (· exact B0.out)))
  refine (HS.out _ bel).mono ?_; rintro e w4 ⟨rfl, hb4⟩
  replace bel := Bx.then_below bel hb4
  replace B0 := Lib.hid (B0.out.keep hb4)
  replace B1 := Lib.hid (B1.out.keep hb4)
  replace B2 := Lib.hid (B2.out.keep hb4)
  clear hb4
  replace B0 := Lib.hid (B0.out.more (Obj.cells #[.int .u64 d, .int .u64 s, .bool true, .int .i64 p, .int .i64 m, .int .i64 t, .string X] 29))
  replace B1 := Lib.hid (B1.out.more (Obj.cells #[.int .u64 d, .int .u64 s, .bool true, .int .i64 p, .int .i64 m, .int .i64 t, .string X] 29))
  replace B2 := Lib.hid (B2.out.more (Obj.cells #[.int .u64 d, .int .u64 s, .bool true, .int .i64 p, .int .i64 m, .int .i64 t, .string X] 29))
  have B3 := Lib.hid (Bx.Blk.new w4 [.int .u64 d, .int .u64 s, .bool true, .int .i64 p, .int .i64 m, .int .i64 t, .string X] 29)
  replace bel := Bx.bel_box bel (Obj.cells #[.int .u64 d, .int .u64 s, .bool true, .int .i64 p, .int .i64 m, .int .i64 t, .string X] 29)
  clear c1_0 c1_1 c1_2 c1_3 c1_4 c1_5 c1_6 c2_0 c2_1 c2_2
  obtain ⟨c1_0, c1_1, c1_2, c1_3, c1_4, c1_5, c1_6⟩ := B1.out.all7
  obtain ⟨c2_0, c2_1, c2_2⟩ := B2.out.all3
  obtain ⟨c3_0, c3_1, c3_2, c3_3, c3_4, c3_5, c3_6⟩ := B3.out.all7
  go_wp2_with (first | ((with_reducible refine load_at ?_ ?_ (w.heap.size) ?_ o k A n c ?_ ?_); (· rfl); (· rfl); (· rfl); (· exact B0.out)))
  refine (HO2.out _ bel).mono ?_; rintro e w5 ⟨rfl, hb5⟩
  replace bel := Bx.then_below bel hb5
  replace B0 := Lib.hid (B0.out.keep hb5)
  replace B1 := Lib.hid (B1.out.keep hb5)
  replace B2 := Lib.hid (B2.out.keep hb5)
  replace B3 := Lib.hid (B3.out.keep hb5)
  clear hb5
  clear c1_0 c1_1 c1_2 c1_3 c1_4 c1_5 c1_6 c2_0 c2_1 c2_2 c3_0 c3_1 c3_2 c3_3 c3_4 c3_5 c3_6
  obtain ⟨c1_0, c1_1, c1_2, c1_3, c1_4, c1_5, c1_6⟩ := B1.out.all7
  obtain ⟨c2_0, c2_1, c2_2⟩ := B2.out.all3
  obtain ⟨c3_0, c3_1, c3_2, c3_3, c3_4, c3_5, c3_6⟩ := B3.out.all7
  go_wp2_with (first | ((with_reducible refine load_at ?_ ?_ (w.heap.size) ?_ o k A n c ?_ ?_); (· rfl); (· rfl); (· rfl); (· exact B0.out)))
  refine (HH2.out _).mono ?_; rintro e w' ⟨rfl, rfl⟩
  clear c1_0 c1_1 c1_2 c1_3 c1_4 c1_5 c1_6 c2_0 c2_1 c2_2 c3_0 c3_1 c3_2 c3_3 c3_4 c3_5 c3_6
  obtain ⟨c1_0, c1_1, c1_2, c1_3, c1_4, c1_5, c1_6⟩ := B1.out.all7
  obtain ⟨c2_0, c2_1, c2_2⟩ := B2.out.all3
  obtain ⟨c3_0, c3_1, c3_2, c3_3, c3_4, c3_5, c3_6⟩ := B3.out.all7
  have co := B0.out.at to (pc_own o k A n c h8)
  go_wp2_with (first | ((with_reducible refine load_at ?_ ?_ (w.heap.size) ?_ o k A n c ?_ ?_); (· rfl); (· rfl); (· rfl); (· exact B0.out)))
  go_quiet (fail)
  have hd := below_drewN (w5) nq
  replace bel := Bx.then_below bel hd
  replace B0 := Lib.hid (B0.out.keep hd)
  replace B1 := Lib.hid (B1.out.keep hd)
  replace B2 := Lib.hid (B2.out.keep hd)
  replace B3 := Lib.hid (B3.out.keep hd)
  clear hd c1_0 c1_1 c1_2 c1_3 c1_4 c1_5 c1_6 c2_0 c2_1 c2_2 c3_0 c3_1 c3_2 c3_3 c3_4 c3_5 c3_6
  generalize hg : (w5).drewN nq = W5 at *
  clear hg
  clear co
  obtain ⟨c1_0, c1_1, c1_2, c1_3, c1_4, c1_5, c1_6⟩ := B1.out.all7
  obtain ⟨c2_0, c2_1, c2_2⟩ := B2.out.all3
  obtain ⟨c3_0, c3_1, c3_2, c3_3, c3_4, c3_5, c3_6⟩ := B3.out.all7
  go_wp2_with (first | ((with_reducible refine load_at ?_ ?_ (w.heap.size) ?_ o k A n c ?_ ?_); (· rfl); (· rfl); (· rfl); (· exact B0.out)))
  refine (HT3.out _ bel).mono ?_; rintro e w7 ⟨rfl, hb7⟩
  replace bel := Bx.then_below bel hb7
  replace B0 := Lib.hid (B0.out.keep hb7)
  replace B1 := Lib.hid (B1.out.keep hb7)
  replace B2 := Lib.hid (B2.out.keep hb7)
  replace B3 := Lib.hid (B3.out.keep hb7)
  clear hb7
  clear c1_0 c1_1 c1_2 c1_3 c1_4 c1_5 c1_6 c2_0 c2_1 c2_2 c3_0 c3_1 c3_2 c3_3 c3_4 c3_5 c3_6
  obtain ⟨c1_0, c1_1, c1_2, c1_3, c1_4, c1_5, c1_6⟩ := B1.out.all7
  obtain ⟨c2_0, c2_1, c2_2⟩ := B2.out.all3
  obtain ⟨c3_0, c3_1, c3_2, c3_3, c3_4, c3_5, c3_6⟩ := B3.out.all7
  have ck := B0.out.at (8 + to) (pc_take o k A n c h8)
  go_wp2_with (first | ((with_reducible refine load_at ?_ ?_ (w.heap.size) ?_ o k A n c ?_ ?_); (· rfl); (· rfl); (· rfl); (· exact B0.out)))
  refine (awake_any _).mono ?_; rintro e w8 ⟨rfl, hb8⟩
  replace bel := Bx.then_below bel hb8
  replace B0 := Lib.hid (B0.out.keep hb8)
  replace B1 := Lib.hid (B1.out.keep hb8)
  replace B2 := Lib.hid (B2.out.keep hb8)
  replace B3 := Lib.hid (B3.out.keep hb8)
  clear hb8
  go_wp2_with (first | ((with_reducible refine load_at ?_ ?_ (w.heap.size) ?_ o k A n c ?_ ?_); (· rfl); (· rfl); (· rfl); (· exact B0.out)))
  go_ret
  exact ⟨rfl, bel⟩

set_option maxRecDepth 100000 in
set_option maxHeartbeats 8000000 in
theorem keeps_f_tag_k0 (o k : Nat → Int) (A : Option Addr) (n c : Nat) (d s : Int) (g : Bool) (p v t : Int) (X : ByteArray) (a b m : Int) (q to : Nat) (T F2 : Int) (T3 : Int) (w : World) (hX : X.size ≤ 12000) (hqa : wrap64 ((IntKind.u64.wrap a).tmod 8) = (q : Int)) (hqb : wrap64 ((IntKind.u64.wrap b).tmod 8) = (to : Int)) (h8 : to < 8) (hk : k to = 0)
    (HL : Hid (∀ w', Below w.heap.size w w' → Calls Try.prog 5 #[pv o k A n c] w' fun e w'' => e = .returned (.bool false) ∧ Below w'.heap.size w' w''))
    (HR : Hid (∀ w', Below w.heap.size w w' → Calls Try.prog 13 #[pv o k A n c] w' fun e w'' => e = .returned (.bool true) ∧ Below w'.heap.size w' w''))
    (HT : Hid (∀ w', Below w.heap.size w w' → Calls Try.prog 7 #[pv o k A n c, .int .i64 (q : Int), fr d s g p v t X] w' fun e w'' => e = .returned (.tuple #[.int .i64 T, .bool false]) ∧ Below w'.heap.size w' w''))
    (HS : Hid (∀ w', Below w.heap.size w w' → Calls Try.prog 9 #[pv o k A n c, .int .i64 (q : Int), .int .i64 m, fr d s g p v t X] w' fun e w'' => e = .returned (.tuple #[.agg #[.int .u64 d, .int .u64 s, .bool true, .int .i64 p, .int .i64 m, .int .i64 t, .string X], .bool true]) ∧ Below w'.heap.size w' w''))
    (HO2 : Hid (∀ w', Below w.heap.size w w' → Calls Try.prog 15 #[pv o k A n c, .int .i64 m] w' fun e w'' => e = .returned (.int .i64 F2) ∧ Below w'.heap.size w' w''))
    (HH2 : Hid (∀ w, Calls Try.prog 20 #[.int .i64 F2, .int .i64 (q : Int)] w fun e w' => e = .returned (.bool true) ∧ w = w'))
    (HT3 : Hid (∀ w', Below w.heap.size w w' → Calls Try.prog 7 #[pv o k A n c, .int .i64 (to : Int), .agg #[.int .u64 d, .int .u64 s, .bool true, .int .i64 p, .int .i64 m, .int .i64 t, .string X]] w' fun e w'' => e = .returned (.tuple #[.int .i64 T3, .bool false]) ∧ Below w'.heap.size w' w''))
    (HH3 : Hid (∀ w, Calls Try.prog 20 #[.int .i64 F2, .int .i64 (to : Int)] w fun e w' => e = .returned (.bool false) ∧ w = w')) :
    Calls Try.prog 4 #[pv o k A n c, fr d s g p v t X, .agg #[.int .i64 a, .int .i64 b, .int .i64 m]] w fun e w' => e = .returned (.bool true) ∧ Below w.heap.size w w' := by
  have h8i : (to : Int) < 8 := by omega
  have hin : ((to : Int)).toNat = to := by omega
  have eX : (X.toList == X.toList) = true := by simp
  have hk1 : (k to == 0) = true := by simpa using hk
  have hk2 : (k to != 0) = false := by simpa using hk
  have bel := Bx.bel_refl w
  have B0 := Lib.hid (Bx.Blk.new w (pc o k A n c) 25)
  replace bel := Bx.bel_box bel (Obj.cells (pc o k A n c).toArray 25)
  replace B0 := Lib.hid (B0.out.more (Obj.cells #[.int .u64 d, .int .u64 s, .bool g, .int .i64 p, .int .i64 v, .int .i64 t, .string X] 29))
  have B1 := Lib.hid (Bx.Blk.new_at (W := (w.alloc (Obj.cells (pc o k A n c).toArray 25))) (k := w.heap.size + 1) [.int .u64 d, .int .u64 s, .bool g, .int .i64 p, .int .i64 v, .int .i64 t, .string X] 29 (by simp))
  replace bel := Bx.bel_box bel (Obj.cells #[.int .u64 d, .int .u64 s, .bool g, .int .i64 p, .int .i64 v, .int .i64 t, .string X] 29)
  obtain ⟨c1_0, c1_1, c1_2, c1_3, c1_4, c1_5, c1_6⟩ := B1.out.all7
  replace B0 := Lib.hid (B0.out.more (Obj.cells #[.int .i64 a, .int .i64 b, .int .i64 m] 45))
  replace B1 := Lib.hid (B1.out.more (Obj.cells #[.int .i64 a, .int .i64 b, .int .i64 m] 45))
  have B2 := Lib.hid (Bx.Blk.new_at (W := ((w.alloc (Obj.cells (pc o k A n c).toArray 25)).alloc (Obj.cells #[.int .u64 d, .int .u64 s, .bool g, .int .i64 p, .int .i64 v, .int .i64 t, .string X] 29))) (k := w.heap.size + 2) [.int .i64 a, .int .i64 b, .int .i64 m] 45 (by simp))
  replace bel := Bx.bel_box bel (Obj.cells #[.int .i64 a, .int .i64 b, .int .i64 m] 45)
  clear c1_0 c1_1 c1_2 c1_3 c1_4 c1_5 c1_6
  obtain ⟨c1_0, c1_1, c1_2, c1_3, c1_4, c1_5, c1_6⟩ := B1.out.all7
  obtain ⟨c2_0, c2_1, c2_2⟩ := B2.out.all3
  go_enter Try.func4, Try.ntmps4
  go_wp2_with (first | ((with_reducible refine load_at ?_ ?_ (w.heap.size) ?_ o k A n c ?_ ?_); (· rfl); (· rfl); (· rfl); (· exact B0.out)))
  refine (HL.out _ bel).mono ?_; rintro e w1 ⟨rfl, hb1⟩
  replace bel := Bx.then_below bel hb1
  replace B0 := Lib.hid (B0.out.keep hb1)
  replace B1 := Lib.hid (B1.out.keep hb1)
  replace B2 := Lib.hid (B2.out.keep hb1)
  clear hb1
  clear c1_0 c1_1 c1_2 c1_3 c1_4 c1_5 c1_6 c2_0 c2_1 c2_2
  obtain ⟨c1_0, c1_1, c1_2, c1_3, c1_4, c1_5, c1_6⟩ := B1.out.all7
  obtain ⟨c2_0, c2_1, c2_2⟩ := B2.out.all3
  go_wp2_with (first | ((with_reducible refine load_at ?_ ?_ (w.heap.size) ?_ o k A n c ?_ ?_); (· rfl); (· rfl); (· rfl); (· exact B0.out)))
  refine (HR.out _ bel).mono ?_; rintro e w2 ⟨rfl, hb2⟩
  replace bel := Bx.then_below bel hb2
  replace B0 := Lib.hid (B0.out.keep hb2)
  replace B1 := Lib.hid (B1.out.keep hb2)
  replace B2 := Lib.hid (B2.out.keep hb2)
  clear hb2
  clear c1_0 c1_1 c1_2 c1_3 c1_4 c1_5 c1_6 c2_0 c2_1 c2_2
  obtain ⟨c1_0, c1_1, c1_2, c1_3, c1_4, c1_5, c1_6⟩ := B1.out.all7
  obtain ⟨c2_0, c2_1, c2_2⟩ := B2.out.all3
  go_wp2_with (first | ((with_reducible refine load_at ?_ ?_ (w.heap.size) ?_ o k A n c ?_ ?_); (· rfl); (· rfl); (· rfl); (· exact B0.out)))
  go_quiet (fail)
  have hd := below_drewN (w2) nq
  replace bel := Bx.then_below bel hd
  replace B0 := Lib.hid (B0.out.keep hd)
  replace B1 := Lib.hid (B1.out.keep hd)
  replace B2 := Lib.hid (B2.out.keep hd)
  clear hd c1_0 c1_1 c1_2 c1_3 c1_4 c1_5 c1_6 c2_0 c2_1 c2_2
  generalize hg : (w2).drewN nq = W3 at *
  clear hg
  rw [hqa, hqb]
  clear hqa hqb
  obtain ⟨c1_0, c1_1, c1_2, c1_3, c1_4, c1_5, c1_6⟩ := B1.out.all7
  obtain ⟨c2_0, c2_1, c2_2⟩ := B2.out.all3
  go_wp2_with (first | ((with_reducible refine load_at ?_ ?_ (w.heap.size) ?_ o k A n c ?_ ?_); (· rfl); (· rfl); (· rfl); (· exact B0.out)))
  refine (HT.out _ bel).mono ?_; rintro e w3 ⟨rfl, hb3⟩
  replace bel := Bx.then_below bel hb3
  replace B0 := Lib.hid (B0.out.keep hb3)
  replace B1 := Lib.hid (B1.out.keep hb3)
  replace B2 := Lib.hid (B2.out.keep hb3)
  clear hb3
  clear c1_0 c1_1 c1_2 c1_3 c1_4 c1_5 c1_6 c2_0 c2_1 c2_2
  obtain ⟨c1_0, c1_1, c1_2, c1_3, c1_4, c1_5, c1_6⟩ := B1.out.all7
  obtain ⟨c2_0, c2_1, c2_2⟩ := B2.out.all3
  go_wp2_with (first | ((with_reducible refine load_at ?_ ?_ (w.heap.size) ?_ o k A n c ?_ ?_); (· rfl); (· rfl); (· rfl); (· exact B0.out)))
  refine (HS.out _ bel).mono ?_; rintro e w4 ⟨rfl, hb4⟩
  replace bel := Bx.then_below bel hb4
  replace B0 := Lib.hid (B0.out.keep hb4)
  replace B1 := Lib.hid (B1.out.keep hb4)
  replace B2 := Lib.hid (B2.out.keep hb4)
  clear hb4
  replace B0 := Lib.hid (B0.out.more (Obj.cells #[.int .u64 d, .int .u64 s, .bool true, .int .i64 p, .int .i64 m, .int .i64 t, .string X] 29))
  replace B1 := Lib.hid (B1.out.more (Obj.cells #[.int .u64 d, .int .u64 s, .bool true, .int .i64 p, .int .i64 m, .int .i64 t, .string X] 29))
  replace B2 := Lib.hid (B2.out.more (Obj.cells #[.int .u64 d, .int .u64 s, .bool true, .int .i64 p, .int .i64 m, .int .i64 t, .string X] 29))
  have B3 := Lib.hid (Bx.Blk.new w4 [.int .u64 d, .int .u64 s, .bool true, .int .i64 p, .int .i64 m, .int .i64 t, .string X] 29)
  replace bel := Bx.bel_box bel (Obj.cells #[.int .u64 d, .int .u64 s, .bool true, .int .i64 p, .int .i64 m, .int .i64 t, .string X] 29)
  clear c1_0 c1_1 c1_2 c1_3 c1_4 c1_5 c1_6 c2_0 c2_1 c2_2
  obtain ⟨c1_0, c1_1, c1_2, c1_3, c1_4, c1_5, c1_6⟩ := B1.out.all7
  obtain ⟨c2_0, c2_1, c2_2⟩ := B2.out.all3
  obtain ⟨c3_0, c3_1, c3_2, c3_3, c3_4, c3_5, c3_6⟩ := B3.out.all7
  go_wp2_with (first | ((with_reducible refine load_at ?_ ?_ (w.heap.size) ?_ o k A n c ?_ ?_); (· rfl); (· rfl); (· rfl); (· exact B0.out)))
  refine (HO2.out _ bel).mono ?_; rintro e w5 ⟨rfl, hb5⟩
  replace bel := Bx.then_below bel hb5
  replace B0 := Lib.hid (B0.out.keep hb5)
  replace B1 := Lib.hid (B1.out.keep hb5)
  replace B2 := Lib.hid (B2.out.keep hb5)
  replace B3 := Lib.hid (B3.out.keep hb5)
  clear hb5
  clear c1_0 c1_1 c1_2 c1_3 c1_4 c1_5 c1_6 c2_0 c2_1 c2_2 c3_0 c3_1 c3_2 c3_3 c3_4 c3_5 c3_6
  obtain ⟨c1_0, c1_1, c1_2, c1_3, c1_4, c1_5, c1_6⟩ := B1.out.all7
  obtain ⟨c2_0, c2_1, c2_2⟩ := B2.out.all3
  obtain ⟨c3_0, c3_1, c3_2, c3_3, c3_4, c3_5, c3_6⟩ := B3.out.all7
  go_wp2_with (first | ((with_reducible refine load_at ?_ ?_ (w.heap.size) ?_ o k A n c ?_ ?_); (· rfl); (· rfl); (· rfl); (· exact B0.out)))
  refine (HH2.out _).mono ?_; rintro e w' ⟨rfl, rfl⟩
  clear c1_0 c1_1 c1_2 c1_3 c1_4 c1_5 c1_6 c2_0 c2_1 c2_2 c3_0 c3_1 c3_2 c3_3 c3_4 c3_5 c3_6
  obtain ⟨c1_0, c1_1, c1_2, c1_3, c1_4, c1_5, c1_6⟩ := B1.out.all7
  obtain ⟨c2_0, c2_1, c2_2⟩ := B2.out.all3
  obtain ⟨c3_0, c3_1, c3_2, c3_3, c3_4, c3_5, c3_6⟩ := B3.out.all7
  have co := B0.out.at to (pc_own o k A n c h8)
  go_wp2_with (first | ((with_reducible refine load_at ?_ ?_ (w.heap.size) ?_ o k A n c ?_ ?_); (· rfl); (· rfl); (· rfl); (· exact B0.out)))
  go_quiet (fail)
  have hd := below_drewN (w5) nq
  replace bel := Bx.then_below bel hd
  replace B0 := Lib.hid (B0.out.keep hd)
  replace B1 := Lib.hid (B1.out.keep hd)
  replace B2 := Lib.hid (B2.out.keep hd)
  replace B3 := Lib.hid (B3.out.keep hd)
  clear hd c1_0 c1_1 c1_2 c1_3 c1_4 c1_5 c1_6 c2_0 c2_1 c2_2 c3_0 c3_1 c3_2 c3_3 c3_4 c3_5 c3_6
  generalize hg : (w5).drewN nq = W5 at *
  clear hg
  clear co
  obtain ⟨c1_0, c1_1, c1_2, c1_3, c1_4, c1_5, c1_6⟩ := B1.out.all7
  obtain ⟨c2_0, c2_1, c2_2⟩ := B2.out.all3
  obtain ⟨c3_0, c3_1, c3_2, c3_3, c3_4, c3_5, c3_6⟩ := B3.out.all7
  go_wp2_with (first | ((with_reducible refine load_at ?_ ?_ (w.heap.size) ?_ o k A n c ?_ ?_); (· rfl); (· rfl); (· rfl); (· exact B0.out)))
  refine (HT3.out _ bel).mono ?_; rintro e w7 ⟨rfl, hb7⟩
  replace bel := Bx.then_below bel hb7
  replace B0 := Lib.hid (B0.out.keep hb7)
  replace B1 := Lib.hid (B1.out.keep hb7)
  replace B2 := Lib.hid (B2.out.keep hb7)
  replace B3 := Lib.hid (B3.out.keep hb7)
  clear hb7
  clear c1_0 c1_1 c1_2 c1_3 c1_4 c1_5 c1_6 c2_0 c2_1 c2_2 c3_0 c3_1 c3_2 c3_3 c3_4 c3_5 c3_6
  obtain ⟨c1_0, c1_1, c1_2, c1_3, c1_4, c1_5, c1_6⟩ := B1.out.all7
  obtain ⟨c2_0, c2_1, c2_2⟩ := B2.out.all3
  obtain ⟨c3_0, c3_1, c3_2, c3_3, c3_4, c3_5, c3_6⟩ := B3.out.all7
  have ck := B0.out.at (8 + to) (pc_take o k A n c h8)
  go_wp2_with (first | ((with_reducible refine load_at ?_ ?_ (w.heap.size) ?_ o k A n c ?_ ?_); (· rfl); (· rfl); (· rfl); (· exact B0.out)))
  clear ck
  refine (HO2.out _ bel).mono ?_; rintro e w8 ⟨rfl, hb8⟩
  replace bel := Bx.then_below bel hb8
  replace B0 := Lib.hid (B0.out.keep hb8)
  replace B1 := Lib.hid (B1.out.keep hb8)
  replace B2 := Lib.hid (B2.out.keep hb8)
  replace B3 := Lib.hid (B3.out.keep hb8)
  clear hb8
  clear c1_0 c1_1 c1_2 c1_3 c1_4 c1_5 c1_6 c2_0 c2_1 c2_2 c3_0 c3_1 c3_2 c3_3 c3_4 c3_5 c3_6
  obtain ⟨c1_0, c1_1, c1_2, c1_3, c1_4, c1_5, c1_6⟩ := B1.out.all7
  obtain ⟨c2_0, c2_1, c2_2⟩ := B2.out.all3
  obtain ⟨c3_0, c3_1, c3_2, c3_3, c3_4, c3_5, c3_6⟩ := B3.out.all7
  go_wp2_with (first | ((with_reducible refine load_at ?_ ?_ (w.heap.size) ?_ o k A n c ?_ ?_); (· rfl); (· rfl); (· rfl); (· exact B0.out)))
  refine (HH3.out _).mono ?_; rintro e w' ⟨rfl, rfl⟩
  clear c1_0 c1_1 c1_2 c1_3 c1_4 c1_5 c1_6 c2_0 c2_1 c2_2 c3_0 c3_1 c3_2 c3_3 c3_4 c3_5 c3_6
  obtain ⟨c1_0, c1_1, c1_2, c1_3, c1_4, c1_5, c1_6⟩ := B1.out.all7
  obtain ⟨c2_0, c2_1, c2_2⟩ := B2.out.all3
  obtain ⟨c3_0, c3_1, c3_2, c3_3, c3_4, c3_5, c3_6⟩ := B3.out.all7
  go_wp2_with (first | ((with_reducible refine load_at ?_ ?_ (w.heap.size) ?_ o k A n c ?_ ?_); (· rfl); (· rfl); (· rfl); (· exact B0.out)))
  refine (awake_any _).mono ?_; rintro e w10 ⟨rfl, hb10⟩
  replace bel := Bx.then_below bel hb10
  replace B0 := Lib.hid (B0.out.keep hb10)
  replace B1 := Lib.hid (B1.out.keep hb10)
  replace B2 := Lib.hid (B2.out.keep hb10)
  replace B3 := Lib.hid (B3.out.keep hb10)
  clear hb10
  go_wp2_with (first | ((with_reducible refine load_at ?_ ?_ (w.heap.size) ?_ o k A n c ?_ ?_); (· rfl); (· rfl); (· rfl); (· exact B0.out)))
  go_ret
  exact ⟨rfl, bel⟩

set_option maxRecDepth 100000 in
set_option maxHeartbeats 8000000 in
theorem keeps_f_ne (o k : Nat → Int) (A : Option Addr) (n c : Nat) (d s : Int) (g : Bool) (p v t : Int) (X : ByteArray) (a b m : Int) (q to : Nat) (T F2 : Int) (w : World) (hX : X.size ≤ 12000) (hqa : wrap64 ((IntKind.u64.wrap a).tmod 8) = (q : Int)) (hqb : wrap64 ((IntKind.u64.wrap b).tmod 8) = (to : Int)) (h8 : to < 8) (hne : ¬ o to = m)
    (HL : Hid (∀ w', Below w.heap.size w w' → Calls Try.prog 5 #[pv o k A n c] w' fun e w'' => e = .returned (.bool false) ∧ Below w'.heap.size w' w''))
    (HR : Hid (∀ w', Below w.heap.size w w' → Calls Try.prog 13 #[pv o k A n c] w' fun e w'' => e = .returned (.bool true) ∧ Below w'.heap.size w' w''))
    (HT : Hid (∀ w', Below w.heap.size w w' → Calls Try.prog 7 #[pv o k A n c, .int .i64 (q : Int), fr d s g p v t X] w' fun e w'' => e = .returned (.tuple #[.int .i64 T, .bool false]) ∧ Below w'.heap.size w' w''))
    (HS : Hid (∀ w', Below w.heap.size w w' → Calls Try.prog 9 #[pv o k A n c, .int .i64 (q : Int), .int .i64 m, fr d s g p v t X] w' fun e w'' => e = .returned (.tuple #[.agg #[.int .u64 d, .int .u64 s, .bool false, .int .i64 0, .int .i64 0, .int .i64 t, .string X], .bool true]) ∧ Below w'.heap.size w' w''))
    (HO2 : Hid (∀ w', Below w.heap.size w w' → Calls Try.prog 15 #[pv o k A n c, .int .i64 m] w' fun e w'' => e = .returned (.int .i64 F2) ∧ Below w'.heap.size w' w''))
    (HH2 : Hid (∀ w, Calls Try.prog 20 #[.int .i64 F2, .int .i64 (q : Int)] w fun e w' => e = .returned (.bool true) ∧ w = w')) :
    Calls Try.prog 4 #[pv o k A n c, fr d s g p v t X, .agg #[.int .i64 a, .int .i64 b, .int .i64 m]] w fun e w' => e = .returned (.bool true) ∧ Below w.heap.size w w' := by
  have h8i : (to : Int) < 8 := by omega
  have hin : ((to : Int)).toNat = to := by omega
  have eX : (X.toList == X.toList) = true := by simp
  have hn1 : (o to == m) = false := by simpa using hne
  have hn2 : (o to != m) = true := by simpa using hne
  have bel := Bx.bel_refl w
  have B0 := Lib.hid (Bx.Blk.new w (pc o k A n c) 25)
  replace bel := Bx.bel_box bel (Obj.cells (pc o k A n c).toArray 25)
  replace B0 := Lib.hid (B0.out.more (Obj.cells #[.int .u64 d, .int .u64 s, .bool g, .int .i64 p, .int .i64 v, .int .i64 t, .string X] 29))
  have B1 := Lib.hid (Bx.Blk.new_at (W := (w.alloc (Obj.cells (pc o k A n c).toArray 25))) (k := w.heap.size + 1) [.int .u64 d, .int .u64 s, .bool g, .int .i64 p, .int .i64 v, .int .i64 t, .string X] 29 (by simp))
  replace bel := Bx.bel_box bel (Obj.cells #[.int .u64 d, .int .u64 s, .bool g, .int .i64 p, .int .i64 v, .int .i64 t, .string X] 29)
  obtain ⟨c1_0, c1_1, c1_2, c1_3, c1_4, c1_5, c1_6⟩ := B1.out.all7
  replace B0 := Lib.hid (B0.out.more (Obj.cells #[.int .i64 a, .int .i64 b, .int .i64 m] 45))
  replace B1 := Lib.hid (B1.out.more (Obj.cells #[.int .i64 a, .int .i64 b, .int .i64 m] 45))
  have B2 := Lib.hid (Bx.Blk.new_at (W := ((w.alloc (Obj.cells (pc o k A n c).toArray 25)).alloc (Obj.cells #[.int .u64 d, .int .u64 s, .bool g, .int .i64 p, .int .i64 v, .int .i64 t, .string X] 29))) (k := w.heap.size + 2) [.int .i64 a, .int .i64 b, .int .i64 m] 45 (by simp))
  replace bel := Bx.bel_box bel (Obj.cells #[.int .i64 a, .int .i64 b, .int .i64 m] 45)
  clear c1_0 c1_1 c1_2 c1_3 c1_4 c1_5 c1_6
  obtain ⟨c1_0, c1_1, c1_2, c1_3, c1_4, c1_5, c1_6⟩ := B1.out.all7
  obtain ⟨c2_0, c2_1, c2_2⟩ := B2.out.all3
  go_enter Try.func4, Try.ntmps4
  go_wp2_with (first | ((with_reducible refine load_at ?_ ?_ (w.heap.size) ?_ o k A n c ?_ ?_); (· rfl); (· rfl); (· rfl); (· exact B0.out)))
  refine (HL.out _ bel).mono ?_; rintro e w1 ⟨rfl, hb1⟩
  replace bel := Bx.then_below bel hb1
  replace B0 := Lib.hid (B0.out.keep hb1)
  replace B1 := Lib.hid (B1.out.keep hb1)
  replace B2 := Lib.hid (B2.out.keep hb1)
  clear hb1
  clear c1_0 c1_1 c1_2 c1_3 c1_4 c1_5 c1_6 c2_0 c2_1 c2_2
  obtain ⟨c1_0, c1_1, c1_2, c1_3, c1_4, c1_5, c1_6⟩ := B1.out.all7
  obtain ⟨c2_0, c2_1, c2_2⟩ := B2.out.all3
  go_wp2_with (first | ((with_reducible refine load_at ?_ ?_ (w.heap.size) ?_ o k A n c ?_ ?_); (· rfl); (· rfl); (· rfl); (· exact B0.out)))
  refine (HR.out _ bel).mono ?_; rintro e w2 ⟨rfl, hb2⟩
  replace bel := Bx.then_below bel hb2
  replace B0 := Lib.hid (B0.out.keep hb2)
  replace B1 := Lib.hid (B1.out.keep hb2)
  replace B2 := Lib.hid (B2.out.keep hb2)
  clear hb2
  clear c1_0 c1_1 c1_2 c1_3 c1_4 c1_5 c1_6 c2_0 c2_1 c2_2
  obtain ⟨c1_0, c1_1, c1_2, c1_3, c1_4, c1_5, c1_6⟩ := B1.out.all7
  obtain ⟨c2_0, c2_1, c2_2⟩ := B2.out.all3
  go_wp2_with (first | ((with_reducible refine load_at ?_ ?_ (w.heap.size) ?_ o k A n c ?_ ?_); (· rfl); (· rfl); (· rfl); (· exact B0.out)))
  go_quiet (fail)
  have hd := below_drewN (w2) nq
  replace bel := Bx.then_below bel hd
  replace B0 := Lib.hid (B0.out.keep hd)
  replace B1 := Lib.hid (B1.out.keep hd)
  replace B2 := Lib.hid (B2.out.keep hd)
  clear hd c1_0 c1_1 c1_2 c1_3 c1_4 c1_5 c1_6 c2_0 c2_1 c2_2
  generalize hg : (w2).drewN nq = W3 at *
  clear hg
  rw [hqa, hqb]
  clear hqa hqb
  obtain ⟨c1_0, c1_1, c1_2, c1_3, c1_4, c1_5, c1_6⟩ := B1.out.all7
  obtain ⟨c2_0, c2_1, c2_2⟩ := B2.out.all3
  go_wp2_with (first | ((with_reducible refine load_at ?_ ?_ (w.heap.size) ?_ o k A n c ?_ ?_); (· rfl); (· rfl); (· rfl); (· exact B0.out)))
  refine (HT.out _ bel).mono ?_; rintro e w3 ⟨rfl, hb3⟩
  replace bel := Bx.then_below bel hb3
  replace B0 := Lib.hid (B0.out.keep hb3)
  replace B1 := Lib.hid (B1.out.keep hb3)
  replace B2 := Lib.hid (B2.out.keep hb3)
  clear hb3
  clear c1_0 c1_1 c1_2 c1_3 c1_4 c1_5 c1_6 c2_0 c2_1 c2_2
  obtain ⟨c1_0, c1_1, c1_2, c1_3, c1_4, c1_5, c1_6⟩ := B1.out.all7
  obtain ⟨c2_0, c2_1, c2_2⟩ := B2.out.all3
  go_wp2_with (first | ((with_reducible refine load_at ?_ ?_ (w.heap.size) ?_ o k A n c ?_ ?_); (· rfl); (· rfl); (· rfl); (· exact B0.out)))
  refine (HS.out _ bel).mono ?_; rintro e w4 ⟨rfl, hb4⟩
  replace bel := Bx.then_below bel hb4
  replace B0 := Lib.hid (B0.out.keep hb4)
  replace B1 := Lib.hid (B1.out.keep hb4)
  replace B2 := Lib.hid (B2.out.keep hb4)
  clear hb4
  replace B0 := Lib.hid (B0.out.more (Obj.cells #[.int .u64 d, .int .u64 s, .bool false, .int .i64 0, .int .i64 0, .int .i64 t, .string X] 29))
  replace B1 := Lib.hid (B1.out.more (Obj.cells #[.int .u64 d, .int .u64 s, .bool false, .int .i64 0, .int .i64 0, .int .i64 t, .string X] 29))
  replace B2 := Lib.hid (B2.out.more (Obj.cells #[.int .u64 d, .int .u64 s, .bool false, .int .i64 0, .int .i64 0, .int .i64 t, .string X] 29))
  have B3 := Lib.hid (Bx.Blk.new w4 [.int .u64 d, .int .u64 s, .bool false, .int .i64 0, .int .i64 0, .int .i64 t, .string X] 29)
  replace bel := Bx.bel_box bel (Obj.cells #[.int .u64 d, .int .u64 s, .bool false, .int .i64 0, .int .i64 0, .int .i64 t, .string X] 29)
  clear c1_0 c1_1 c1_2 c1_3 c1_4 c1_5 c1_6 c2_0 c2_1 c2_2
  obtain ⟨c1_0, c1_1, c1_2, c1_3, c1_4, c1_5, c1_6⟩ := B1.out.all7
  obtain ⟨c2_0, c2_1, c2_2⟩ := B2.out.all3
  obtain ⟨c3_0, c3_1, c3_2, c3_3, c3_4, c3_5, c3_6⟩ := B3.out.all7
  go_wp2_with (first | ((with_reducible refine load_at ?_ ?_ (w.heap.size) ?_ o k A n c ?_ ?_); (· rfl); (· rfl); (· rfl); (· exact B0.out)))
  refine (HO2.out _ bel).mono ?_; rintro e w5 ⟨rfl, hb5⟩
  replace bel := Bx.then_below bel hb5
  replace B0 := Lib.hid (B0.out.keep hb5)
  replace B1 := Lib.hid (B1.out.keep hb5)
  replace B2 := Lib.hid (B2.out.keep hb5)
  replace B3 := Lib.hid (B3.out.keep hb5)
  clear hb5
  clear c1_0 c1_1 c1_2 c1_3 c1_4 c1_5 c1_6 c2_0 c2_1 c2_2 c3_0 c3_1 c3_2 c3_3 c3_4 c3_5 c3_6
  obtain ⟨c1_0, c1_1, c1_2, c1_3, c1_4, c1_5, c1_6⟩ := B1.out.all7
  obtain ⟨c2_0, c2_1, c2_2⟩ := B2.out.all3
  obtain ⟨c3_0, c3_1, c3_2, c3_3, c3_4, c3_5, c3_6⟩ := B3.out.all7
  go_wp2_with (first | ((with_reducible refine load_at ?_ ?_ (w.heap.size) ?_ o k A n c ?_ ?_); (· rfl); (· rfl); (· rfl); (· exact B0.out)))
  refine (HH2.out _).mono ?_; rintro e w' ⟨rfl, rfl⟩
  clear c1_0 c1_1 c1_2 c1_3 c1_4 c1_5 c1_6 c2_0 c2_1 c2_2 c3_0 c3_1 c3_2 c3_3 c3_4 c3_5 c3_6
  obtain ⟨c1_0, c1_1, c1_2, c1_3, c1_4, c1_5, c1_6⟩ := B1.out.all7
  obtain ⟨c2_0, c2_1, c2_2⟩ := B2.out.all3
  obtain ⟨c3_0, c3_1, c3_2, c3_3, c3_4, c3_5, c3_6⟩ := B3.out.all7
  have co := B0.out.at to (pc_own o k A n c h8)
  go_wp2_with (first | ((with_reducible refine load_at ?_ ?_ (w.heap.size) ?_ o k A n c ?_ ?_); (· rfl); (· rfl); (· rfl); (· exact B0.out)))
  go_quiet (fail)
  have hd := below_drewN (w5) nq
  replace bel := Bx.then_below bel hd
  replace B0 := Lib.hid (B0.out.keep hd)
  replace B1 := Lib.hid (B1.out.keep hd)
  replace B2 := Lib.hid (B2.out.keep hd)
  replace B3 := Lib.hid (B3.out.keep hd)
  clear hd c1_0 c1_1 c1_2 c1_3 c1_4 c1_5 c1_6 c2_0 c2_1 c2_2 c3_0 c3_1 c3_2 c3_3 c3_4 c3_5 c3_6
  generalize hg : (w5).drewN nq = W5 at *
  clear hg
  clear co
  obtain ⟨c1_0, c1_1, c1_2, c1_3, c1_4, c1_5, c1_6⟩ := B1.out.all7
  obtain ⟨c2_0, c2_1, c2_2⟩ := B2.out.all3
  obtain ⟨c3_0, c3_1, c3_2, c3_3, c3_4, c3_5, c3_6⟩ := B3.out.all7
  go_wp2_with (first | ((with_reducible refine load_at ?_ ?_ (w.heap.size) ?_ o k A n c ?_ ?_); (· rfl); (· rfl); (· rfl); (· exact B0.out)))
  refine (awake_any _).mono ?_; rintro e w7 ⟨rfl, hb7⟩
  replace bel := Bx.then_below bel hb7
  replace B0 := Lib.hid (B0.out.keep hb7)
  replace B1 := Lib.hid (B1.out.keep hb7)
  replace B2 := Lib.hid (B2.out.keep hb7)
  replace B3 := Lib.hid (B3.out.keep hb7)
  clear hb7
  go_wp2_with (first | ((with_reducible refine load_at ?_ ?_ (w.heap.size) ?_ o k A n c ?_ ?_); (· rfl); (· rfl); (· rfl); (· exact B0.out)))
  go_ret
  exact ⟨rfl, bel⟩

set_option maxRecDepth 100000 in
set_option maxHeartbeats 8000000 in
theorem keeps_f_eq_is (o k : Nat → Int) (A : Option Addr) (n c : Nat) (d s : Int) (g : Bool) (p v t : Int) (X : ByteArray) (a b m : Int) (q to : Nat) (T F2 : Int) (w : World) (hX : X.size ≤ 12000) (hqa : wrap64 ((IntKind.u64.wrap a).tmod 8) = (q : Int)) (hqb : wrap64 ((IntKind.u64.wrap b).tmod 8) = (to : Int)) (h8 : to < 8) (heq : o to = m)
    (HL : Hid (∀ w', Below w.heap.size w w' → Calls Try.prog 5 #[pv o k A n c] w' fun e w'' => e = .returned (.bool false) ∧ Below w'.heap.size w' w''))
    (HR : Hid (∀ w', Below w.heap.size w w' → Calls Try.prog 13 #[pv o k A n c] w' fun e w'' => e = .returned (.bool true) ∧ Below w'.heap.size w' w''))
    (HT : Hid (∀ w', Below w.heap.size w w' → Calls Try.prog 7 #[pv o k A n c, .int .i64 (q : Int), fr d s g p v t X] w' fun e w'' => e = .returned (.tuple #[.int .i64 T, .bool false]) ∧ Below w'.heap.size w' w''))
    (HS : Hid (∀ w', Below w.heap.size w w' → Calls Try.prog 9 #[pv o k A n c, .int .i64 (q : Int), .int .i64 m, fr d s g p v t X] w' fun e w'' => e = .returned (.tuple #[.agg #[.int .u64 d, .int .u64 s, .bool false, .int .i64 0, .int .i64 0, .int .i64 t, .string X], .bool true]) ∧ Below w'.heap.size w' w''))
    (HO2 : Hid (∀ w', Below w.heap.size w w' → Calls Try.prog 15 #[pv o k A n c, .int .i64 m] w' fun e w'' => e = .returned (.int .i64 F2) ∧ Below w'.heap.size w' w''))
    (HH2 : Hid (∀ w, Calls Try.prog 20 #[.int .i64 F2, .int .i64 (q : Int)] w fun e w' => e = .returned (.bool true) ∧ w = w'))
    (HT3 : Hid (∀ w', Below w.heap.size w w' → Calls Try.prog 7 #[pv o k A n c, .int .i64 (to : Int), .agg #[.int .u64 d, .int .u64 s, .bool false, .int .i64 0, .int .i64 0, .int .i64 t, .string X]] w' fun e w'' => e = .returned (.tuple #[.int .i64 m, .bool true]) ∧ Below w'.heap.size w' w'')) :
    Calls Try.prog 4 #[pv o k A n c, fr d s g p v t X, .agg #[.int .i64 a, .int .i64 b, .int .i64 m]] w fun e w' => e = .returned (.bool true) ∧ Below w.heap.size w w' := by
  have h8i : (to : Int) < 8 := by omega
  have hin : ((to : Int)).toNat = to := by omega
  have eX : (X.toList == X.toList) = true := by simp
  have hn1 : (o to == m) = true := by simpa using heq
  have hn2 : (o to != m) = false := by simpa using heq
  have em : (m == m) = true := by simp
  have bel := Bx.bel_refl w
  have B0 := Lib.hid (Bx.Blk.new w (pc o k A n c) 25)
  replace bel := Bx.bel_box bel (Obj.cells (pc o k A n c).toArray 25)
  replace B0 := Lib.hid (B0.out.more (Obj.cells #[.int .u64 d, .int .u64 s, .bool g, .int .i64 p, .int .i64 v, .int .i64 t, .string X] 29))
  have B1 := Lib.hid (Bx.Blk.new_at (W := (w.alloc (Obj.cells (pc o k A n c).toArray 25))) (k := w.heap.size + 1) [.int .u64 d, .int .u64 s, .bool g, .int .i64 p, .int .i64 v, .int .i64 t, .string X] 29 (by simp))
  replace bel := Bx.bel_box bel (Obj.cells #[.int .u64 d, .int .u64 s, .bool g, .int .i64 p, .int .i64 v, .int .i64 t, .string X] 29)
  obtain ⟨c1_0, c1_1, c1_2, c1_3, c1_4, c1_5, c1_6⟩ := B1.out.all7
  replace B0 := Lib.hid (B0.out.more (Obj.cells #[.int .i64 a, .int .i64 b, .int .i64 m] 45))
  replace B1 := Lib.hid (B1.out.more (Obj.cells #[.int .i64 a, .int .i64 b, .int .i64 m] 45))
  have B2 := Lib.hid (Bx.Blk.new_at (W := ((w.alloc (Obj.cells (pc o k A n c).toArray 25)).alloc (Obj.cells #[.int .u64 d, .int .u64 s, .bool g, .int .i64 p, .int .i64 v, .int .i64 t, .string X] 29))) (k := w.heap.size + 2) [.int .i64 a, .int .i64 b, .int .i64 m] 45 (by simp))
  replace bel := Bx.bel_box bel (Obj.cells #[.int .i64 a, .int .i64 b, .int .i64 m] 45)
  clear c1_0 c1_1 c1_2 c1_3 c1_4 c1_5 c1_6
  obtain ⟨c1_0, c1_1, c1_2, c1_3, c1_4, c1_5, c1_6⟩ := B1.out.all7
  obtain ⟨c2_0, c2_1, c2_2⟩ := B2.out.all3
  go_enter Try.func4, Try.ntmps4
  go_wp2_with (first | ((with_reducible refine load_at ?_ ?_ (w.heap.size) ?_ o k A n c ?_ ?_); (· rfl); (· rfl); (· rfl); (· exact B0.out)))
  refine (HL.out _ bel).mono ?_; rintro e w1 ⟨rfl, hb1⟩
  replace bel := Bx.then_below bel hb1
  replace B0 := Lib.hid (B0.out.keep hb1)
  replace B1 := Lib.hid (B1.out.keep hb1)
  replace B2 := Lib.hid (B2.out.keep hb1)
  clear hb1
  clear c1_0 c1_1 c1_2 c1_3 c1_4 c1_5 c1_6 c2_0 c2_1 c2_2
  obtain ⟨c1_0, c1_1, c1_2, c1_3, c1_4, c1_5, c1_6⟩ := B1.out.all7
  obtain ⟨c2_0, c2_1, c2_2⟩ := B2.out.all3
  go_wp2_with (first | ((with_reducible refine load_at ?_ ?_ (w.heap.size) ?_ o k A n c ?_ ?_); (· rfl); (· rfl); (· rfl); (· exact B0.out)))
  refine (HR.out _ bel).mono ?_; rintro e w2 ⟨rfl, hb2⟩
  replace bel := Bx.then_below bel hb2
  replace B0 := Lib.hid (B0.out.keep hb2)
  replace B1 := Lib.hid (B1.out.keep hb2)
  replace B2 := Lib.hid (B2.out.keep hb2)
  clear hb2
  clear c1_0 c1_1 c1_2 c1_3 c1_4 c1_5 c1_6 c2_0 c2_1 c2_2
  obtain ⟨c1_0, c1_1, c1_2, c1_3, c1_4, c1_5, c1_6⟩ := B1.out.all7
  obtain ⟨c2_0, c2_1, c2_2⟩ := B2.out.all3
  go_wp2_with (first | ((with_reducible refine load_at ?_ ?_ (w.heap.size) ?_ o k A n c ?_ ?_); (· rfl); (· rfl); (· rfl); (· exact B0.out)))
  go_quiet (fail)
  have hd := below_drewN (w2) nq
  replace bel := Bx.then_below bel hd
  replace B0 := Lib.hid (B0.out.keep hd)
  replace B1 := Lib.hid (B1.out.keep hd)
  replace B2 := Lib.hid (B2.out.keep hd)
  clear hd c1_0 c1_1 c1_2 c1_3 c1_4 c1_5 c1_6 c2_0 c2_1 c2_2
  generalize hg : (w2).drewN nq = W3 at *
  clear hg
  rw [hqa, hqb]
  clear hqa hqb
  obtain ⟨c1_0, c1_1, c1_2, c1_3, c1_4, c1_5, c1_6⟩ := B1.out.all7
  obtain ⟨c2_0, c2_1, c2_2⟩ := B2.out.all3
  go_wp2_with (first | ((with_reducible refine load_at ?_ ?_ (w.heap.size) ?_ o k A n c ?_ ?_); (· rfl); (· rfl); (· rfl); (· exact B0.out)))
  refine (HT.out _ bel).mono ?_; rintro e w3 ⟨rfl, hb3⟩
  replace bel := Bx.then_below bel hb3
  replace B0 := Lib.hid (B0.out.keep hb3)
  replace B1 := Lib.hid (B1.out.keep hb3)
  replace B2 := Lib.hid (B2.out.keep hb3)
  clear hb3
  clear c1_0 c1_1 c1_2 c1_3 c1_4 c1_5 c1_6 c2_0 c2_1 c2_2
  obtain ⟨c1_0, c1_1, c1_2, c1_3, c1_4, c1_5, c1_6⟩ := B1.out.all7
  obtain ⟨c2_0, c2_1, c2_2⟩ := B2.out.all3
  go_wp2_with (first | ((with_reducible refine load_at ?_ ?_ (w.heap.size) ?_ o k A n c ?_ ?_); (· rfl); (· rfl); (· rfl); (· exact B0.out)))
  refine (HS.out _ bel).mono ?_; rintro e w4 ⟨rfl, hb4⟩
  replace bel := Bx.then_below bel hb4
  replace B0 := Lib.hid (B0.out.keep hb4)
  replace B1 := Lib.hid (B1.out.keep hb4)
  replace B2 := Lib.hid (B2.out.keep hb4)
  clear hb4
  replace B0 := Lib.hid (B0.out.more (Obj.cells #[.int .u64 d, .int .u64 s, .bool false, .int .i64 0, .int .i64 0, .int .i64 t, .string X] 29))
  replace B1 := Lib.hid (B1.out.more (Obj.cells #[.int .u64 d, .int .u64 s, .bool false, .int .i64 0, .int .i64 0, .int .i64 t, .string X] 29))
  replace B2 := Lib.hid (B2.out.more (Obj.cells #[.int .u64 d, .int .u64 s, .bool false, .int .i64 0, .int .i64 0, .int .i64 t, .string X] 29))
  have B3 := Lib.hid (Bx.Blk.new w4 [.int .u64 d, .int .u64 s, .bool false, .int .i64 0, .int .i64 0, .int .i64 t, .string X] 29)
  replace bel := Bx.bel_box bel (Obj.cells #[.int .u64 d, .int .u64 s, .bool false, .int .i64 0, .int .i64 0, .int .i64 t, .string X] 29)
  clear c1_0 c1_1 c1_2 c1_3 c1_4 c1_5 c1_6 c2_0 c2_1 c2_2
  obtain ⟨c1_0, c1_1, c1_2, c1_3, c1_4, c1_5, c1_6⟩ := B1.out.all7
  obtain ⟨c2_0, c2_1, c2_2⟩ := B2.out.all3
  obtain ⟨c3_0, c3_1, c3_2, c3_3, c3_4, c3_5, c3_6⟩ := B3.out.all7
  go_wp2_with (first | ((with_reducible refine load_at ?_ ?_ (w.heap.size) ?_ o k A n c ?_ ?_); (· rfl); (· rfl); (· rfl); (· exact B0.out)))
  refine (HO2.out _ bel).mono ?_; rintro e w5 ⟨rfl, hb5⟩
  replace bel := Bx.then_below bel hb5
  replace B0 := Lib.hid (B0.out.keep hb5)
  replace B1 := Lib.hid (B1.out.keep hb5)
  replace B2 := Lib.hid (B2.out.keep hb5)
  replace B3 := Lib.hid (B3.out.keep hb5)
  clear hb5
  clear c1_0 c1_1 c1_2 c1_3 c1_4 c1_5 c1_6 c2_0 c2_1 c2_2 c3_0 c3_1 c3_2 c3_3 c3_4 c3_5 c3_6
  obtain ⟨c1_0, c1_1, c1_2, c1_3, c1_4, c1_5, c1_6⟩ := B1.out.all7
  obtain ⟨c2_0, c2_1, c2_2⟩ := B2.out.all3
  obtain ⟨c3_0, c3_1, c3_2, c3_3, c3_4, c3_5, c3_6⟩ := B3.out.all7
  go_wp2_with (first | ((with_reducible refine load_at ?_ ?_ (w.heap.size) ?_ o k A n c ?_ ?_); (· rfl); (· rfl); (· rfl); (· exact B0.out)))
  refine (HH2.out _).mono ?_; rintro e w' ⟨rfl, rfl⟩
  clear c1_0 c1_1 c1_2 c1_3 c1_4 c1_5 c1_6 c2_0 c2_1 c2_2 c3_0 c3_1 c3_2 c3_3 c3_4 c3_5 c3_6
  obtain ⟨c1_0, c1_1, c1_2, c1_3, c1_4, c1_5, c1_6⟩ := B1.out.all7
  obtain ⟨c2_0, c2_1, c2_2⟩ := B2.out.all3
  obtain ⟨c3_0, c3_1, c3_2, c3_3, c3_4, c3_5, c3_6⟩ := B3.out.all7
  have co := B0.out.at to (pc_own o k A n c h8)
  go_wp2_with (first | ((with_reducible refine load_at ?_ ?_ (w.heap.size) ?_ o k A n c ?_ ?_); (· rfl); (· rfl); (· rfl); (· exact B0.out)))
  go_quiet (fail)
  have hd := below_drewN (w5) nq
  replace bel := Bx.then_below bel hd
  replace B0 := Lib.hid (B0.out.keep hd)
  replace B1 := Lib.hid (B1.out.keep hd)
  replace B2 := Lib.hid (B2.out.keep hd)
  replace B3 := Lib.hid (B3.out.keep hd)
  clear hd c1_0 c1_1 c1_2 c1_3 c1_4 c1_5 c1_6 c2_0 c2_1 c2_2 c3_0 c3_1 c3_2 c3_3 c3_4 c3_5 c3_6
  generalize hg : (w5).drewN nq = W5 at *
  clear hg
  clear co
  obtain ⟨c1_0, c1_1, c1_2, c1_3, c1_4, c1_5, c1_6⟩ := B1.out.all7
  obtain ⟨c2_0, c2_1, c2_2⟩ := B2.out.all3
  obtain ⟨c3_0, c3_1, c3_2, c3_3, c3_4, c3_5, c3_6⟩ := B3.out.all7
  go_wp2_with (first | ((with_reducible refine load_at ?_ ?_ (w.heap.size) ?_ o k A n c ?_ ?_); (· rfl); (· rfl); (· rfl); (· exact B0.out)))
  refine (HT3.out _ bel).mono ?_; rintro e w7 ⟨rfl, hb7⟩
  replace bel := Bx.then_below bel hb7
  replace B0 := Lib.hid (B0.out.keep hb7)
  replace B1 := Lib.hid (B1.out.keep hb7)
  replace B2 := Lib.hid (B2.out.keep hb7)
  replace B3 := Lib.hid (B3.out.keep hb7)
  clear hb7
  clear c1_0 c1_1 c1_2 c1_3 c1_4 c1_5 c1_6 c2_0 c2_1 c2_2 c3_0 c3_1 c3_2 c3_3 c3_4 c3_5 c3_6
  obtain ⟨c1_0, c1_1, c1_2, c1_3, c1_4, c1_5, c1_6⟩ := B1.out.all7
  obtain ⟨c2_0, c2_1, c2_2⟩ := B2.out.all3
  obtain ⟨c3_0, c3_1, c3_2, c3_3, c3_4, c3_5, c3_6⟩ := B3.out.all7
  have ck := B0.out.at (8 + to) (pc_take o k A n c h8)
  go_wp2_with (first | ((with_reducible refine load_at ?_ ?_ (w.heap.size) ?_ o k A n c ?_ ?_); (· rfl); (· rfl); (· rfl); (· exact B0.out)))
  refine (awake_any _).mono ?_; rintro e w8 ⟨rfl, hb8⟩
  replace bel := Bx.then_below bel hb8
  replace B0 := Lib.hid (B0.out.keep hb8)
  replace B1 := Lib.hid (B1.out.keep hb8)
  replace B2 := Lib.hid (B2.out.keep hb8)
  replace B3 := Lib.hid (B3.out.keep hb8)
  clear hb8
  go_wp2_with (first | ((with_reducible refine load_at ?_ ?_ (w.heap.size) ?_ o k A n c ?_ ?_); (· rfl); (· rfl); (· rfl); (· exact B0.out)))
  go_ret
  exact ⟨rfl, bel⟩

set_option maxRecDepth 100000 in
set_option maxHeartbeats 8000000 in
theorem keeps_f_eq_kn (o k : Nat → Int) (A : Option Addr) (n c : Nat) (d s : Int) (g : Bool) (p v t : Int) (X : ByteArray) (a b m : Int) (q to : Nat) (T F2 : Int) (T3 : Int) (w : World) (hX : X.size ≤ 12000) (hqa : wrap64 ((IntKind.u64.wrap a).tmod 8) = (q : Int)) (hqb : wrap64 ((IntKind.u64.wrap b).tmod 8) = (to : Int)) (h8 : to < 8) (heq : o to = m) (hk : ¬ k to = 0)
    (HL : Hid (∀ w', Below w.heap.size w w' → Calls Try.prog 5 #[pv o k A n c] w' fun e w'' => e = .returned (.bool false) ∧ Below w'.heap.size w' w''))
    (HR : Hid (∀ w', Below w.heap.size w w' → Calls Try.prog 13 #[pv o k A n c] w' fun e w'' => e = .returned (.bool true) ∧ Below w'.heap.size w' w''))
    (HT : Hid (∀ w', Below w.heap.size w w' → Calls Try.prog 7 #[pv o k A n c, .int .i64 (q : Int), fr d s g p v t X] w' fun e w'' => e = .returned (.tuple #[.int .i64 T, .bool false]) ∧ Below w'.heap.size w' w''))
    (HS : Hid (∀ w', Below w.heap.size w w' → Calls Try.prog 9 #[pv o k A n c, .int .i64 (q : Int), .int .i64 m, fr d s g p v t X] w' fun e w'' => e = .returned (.tuple #[.agg #[.int .u64 d, .int .u64 s, .bool false, .int .i64 0, .int .i64 0, .int .i64 t, .string X], .bool true]) ∧ Below w'.heap.size w' w''))
    (HO2 : Hid (∀ w', Below w.heap.size w w' → Calls Try.prog 15 #[pv o k A n c, .int .i64 m] w' fun e w'' => e = .returned (.int .i64 F2) ∧ Below w'.heap.size w' w''))
    (HH2 : Hid (∀ w, Calls Try.prog 20 #[.int .i64 F2, .int .i64 (q : Int)] w fun e w' => e = .returned (.bool true) ∧ w = w'))
    (HT3 : Hid (∀ w', Below w.heap.size w w' → Calls Try.prog 7 #[pv o k A n c, .int .i64 (to : Int), .agg #[.int .u64 d, .int .u64 s, .bool false, .int .i64 0, .int .i64 0, .int .i64 t, .string X]] w' fun e w'' => e = .returned (.tuple #[.int .i64 T3, .bool false]) ∧ Below w'.heap.size w' w'')) :
    Calls Try.prog 4 #[pv o k A n c, fr d s g p v t X, .agg #[.int .i64 a, .int .i64 b, .int .i64 m]] w fun e w' => e = .returned (.bool true) ∧ Below w.heap.size w w' := by
  have h8i : (to : Int) < 8 := by omega
  have hin : ((to : Int)).toNat = to := by omega
  have eX : (X.toList == X.toList) = true := by simp
  have hn1 : (o to == m) = true := by simpa using heq
  have hn2 : (o to != m) = false := by simpa using heq
  have hk1 : (k to == 0) = false := by simpa using hk
  have hk2 : (k to != 0) = true := by simpa using hk
  have bel := Bx.bel_refl w
  have B0 := Lib.hid (Bx.Blk.new w (pc o k A n c) 25)
  replace bel := Bx.bel_box bel (Obj.cells (pc o k A n c).toArray 25)
  replace B0 := Lib.hid (B0.out.more (Obj.cells #[.int .u64 d, .int .u64 s, .bool g, .int .i64 p, .int .i64 v, .int .i64 t, .string X] 29))
  have B1 := Lib.hid (Bx.Blk.new_at (W := (w.alloc (Obj.cells (pc o k A n c).toArray 25))) (k := w.heap.size + 1) [.int .u64 d, .int .u64 s, .bool g, .int .i64 p, .int .i64 v, .int .i64 t, .string X] 29 (by simp))
  replace bel := Bx.bel_box bel (Obj.cells #[.int .u64 d, .int .u64 s, .bool g, .int .i64 p, .int .i64 v, .int .i64 t, .string X] 29)
  obtain ⟨c1_0, c1_1, c1_2, c1_3, c1_4, c1_5, c1_6⟩ := B1.out.all7
  replace B0 := Lib.hid (B0.out.more (Obj.cells #[.int .i64 a, .int .i64 b, .int .i64 m] 45))
  replace B1 := Lib.hid (B1.out.more (Obj.cells #[.int .i64 a, .int .i64 b, .int .i64 m] 45))
  have B2 := Lib.hid (Bx.Blk.new_at (W := ((w.alloc (Obj.cells (pc o k A n c).toArray 25)).alloc (Obj.cells #[.int .u64 d, .int .u64 s, .bool g, .int .i64 p, .int .i64 v, .int .i64 t, .string X] 29))) (k := w.heap.size + 2) [.int .i64 a, .int .i64 b, .int .i64 m] 45 (by simp))
  replace bel := Bx.bel_box bel (Obj.cells #[.int .i64 a, .int .i64 b, .int .i64 m] 45)
  clear c1_0 c1_1 c1_2 c1_3 c1_4 c1_5 c1_6
  obtain ⟨c1_0, c1_1, c1_2, c1_3, c1_4, c1_5, c1_6⟩ := B1.out.all7
  obtain ⟨c2_0, c2_1, c2_2⟩ := B2.out.all3
  go_enter Try.func4, Try.ntmps4
  go_wp2_with (first | ((with_reducible refine load_at ?_ ?_ (w.heap.size) ?_ o k A n c ?_ ?_); (· rfl); (· rfl); (· rfl); (· exact B0.out)))
  refine (HL.out _ bel).mono ?_; rintro e w1 ⟨rfl, hb1⟩
  replace bel := Bx.then_below bel hb1
  replace B0 := Lib.hid (B0.out.keep hb1)
  replace B1 := Lib.hid (B1.out.keep hb1)
  replace B2 := Lib.hid (B2.out.keep hb1)
  clear hb1
  clear c1_0 c1_1 c1_2 c1_3 c1_4 c1_5 c1_6 c2_0 c2_1 c2_2
  obtain ⟨c1_0, c1_1, c1_2, c1_3, c1_4, c1_5, c1_6⟩ := B1.out.all7
  obtain ⟨c2_0, c2_1, c2_2⟩ := B2.out.all3
  go_wp2_with (first | ((with_reducible refine load_at ?_ ?_ (w.heap.size) ?_ o k A n c ?_ ?_); (· rfl); (· rfl); (· rfl); (· exact B0.out)))
  refine (HR.out _ bel).mono ?_; rintro e w2 ⟨rfl, hb2⟩
  replace bel := Bx.then_below bel hb2
  replace B0 := Lib.hid (B0.out.keep hb2)
  replace B1 := Lib.hid (B1.out.keep hb2)
  replace B2 := Lib.hid (B2.out.keep hb2)
  clear hb2
  clear c1_0 c1_1 c1_2 c1_3 c1_4 c1_5 c1_6 c2_0 c2_1 c2_2
  obtain ⟨c1_0, c1_1, c1_2, c1_3, c1_4, c1_5, c1_6⟩ := B1.out.all7
  obtain ⟨c2_0, c2_1, c2_2⟩ := B2.out.all3
  go_wp2_with (first | ((with_reducible refine load_at ?_ ?_ (w.heap.size) ?_ o k A n c ?_ ?_); (· rfl); (· rfl); (· rfl); (· exact B0.out)))
  go_quiet (fail)
  have hd := below_drewN (w2) nq
  replace bel := Bx.then_below bel hd
  replace B0 := Lib.hid (B0.out.keep hd)
  replace B1 := Lib.hid (B1.out.keep hd)
  replace B2 := Lib.hid (B2.out.keep hd)
  clear hd c1_0 c1_1 c1_2 c1_3 c1_4 c1_5 c1_6 c2_0 c2_1 c2_2
  generalize hg : (w2).drewN nq = W3 at *
  clear hg
  rw [hqa, hqb]
  clear hqa hqb
  obtain ⟨c1_0, c1_1, c1_2, c1_3, c1_4, c1_5, c1_6⟩ := B1.out.all7
  obtain ⟨c2_0, c2_1, c2_2⟩ := B2.out.all3
  go_wp2_with (first | ((with_reducible refine load_at ?_ ?_ (w.heap.size) ?_ o k A n c ?_ ?_); (· rfl); (· rfl); (· rfl); (· exact B0.out)))
  refine (HT.out _ bel).mono ?_; rintro e w3 ⟨rfl, hb3⟩
  replace bel := Bx.then_below bel hb3
  replace B0 := Lib.hid (B0.out.keep hb3)
  replace B1 := Lib.hid (B1.out.keep hb3)
  replace B2 := Lib.hid (B2.out.keep hb3)
  clear hb3
  clear c1_0 c1_1 c1_2 c1_3 c1_4 c1_5 c1_6 c2_0 c2_1 c2_2
  obtain ⟨c1_0, c1_1, c1_2, c1_3, c1_4, c1_5, c1_6⟩ := B1.out.all7
  obtain ⟨c2_0, c2_1, c2_2⟩ := B2.out.all3
  go_wp2_with (first | ((with_reducible refine load_at ?_ ?_ (w.heap.size) ?_ o k A n c ?_ ?_); (· rfl); (· rfl); (· rfl); (· exact B0.out)))
  refine (HS.out _ bel).mono ?_; rintro e w4 ⟨rfl, hb4⟩
  replace bel := Bx.then_below bel hb4
  replace B0 := Lib.hid (B0.out.keep hb4)
  replace B1 := Lib.hid (B1.out.keep hb4)
  replace B2 := Lib.hid (B2.out.keep hb4)
  clear hb4
  replace B0 := Lib.hid (B0.out.more (Obj.cells #[.int .u64 d, .int .u64 s, .bool false, .int .i64 0, .int .i64 0, .int .i64 t, .string X] 29))
  replace B1 := Lib.hid (B1.out.more (Obj.cells #[.int .u64 d, .int .u64 s, .bool false, .int .i64 0, .int .i64 0, .int .i64 t, .string X] 29))
  replace B2 := Lib.hid (B2.out.more (Obj.cells #[.int .u64 d, .int .u64 s, .bool false, .int .i64 0, .int .i64 0, .int .i64 t, .string X] 29))
  have B3 := Lib.hid (Bx.Blk.new w4 [.int .u64 d, .int .u64 s, .bool false, .int .i64 0, .int .i64 0, .int .i64 t, .string X] 29)
  replace bel := Bx.bel_box bel (Obj.cells #[.int .u64 d, .int .u64 s, .bool false, .int .i64 0, .int .i64 0, .int .i64 t, .string X] 29)
  clear c1_0 c1_1 c1_2 c1_3 c1_4 c1_5 c1_6 c2_0 c2_1 c2_2
  obtain ⟨c1_0, c1_1, c1_2, c1_3, c1_4, c1_5, c1_6⟩ := B1.out.all7
  obtain ⟨c2_0, c2_1, c2_2⟩ := B2.out.all3
  obtain ⟨c3_0, c3_1, c3_2, c3_3, c3_4, c3_5, c3_6⟩ := B3.out.all7
  go_wp2_with (first | ((with_reducible refine load_at ?_ ?_ (w.heap.size) ?_ o k A n c ?_ ?_); (· rfl); (· rfl); (· rfl); (· exact B0.out)))
  refine (HO2.out _ bel).mono ?_; rintro e w5 ⟨rfl, hb5⟩
  replace bel := Bx.then_below bel hb5
  replace B0 := Lib.hid (B0.out.keep hb5)
  replace B1 := Lib.hid (B1.out.keep hb5)
  replace B2 := Lib.hid (B2.out.keep hb5)
  replace B3 := Lib.hid (B3.out.keep hb5)
  clear hb5
  clear c1_0 c1_1 c1_2 c1_3 c1_4 c1_5 c1_6 c2_0 c2_1 c2_2 c3_0 c3_1 c3_2 c3_3 c3_4 c3_5 c3_6
  obtain ⟨c1_0, c1_1, c1_2, c1_3, c1_4, c1_5, c1_6⟩ := B1.out.all7
  obtain ⟨c2_0, c2_1, c2_2⟩ := B2.out.all3
  obtain ⟨c3_0, c3_1, c3_2, c3_3, c3_4, c3_5, c3_6⟩ := B3.out.all7
  go_wp2_with (first | ((with_reducible refine load_at ?_ ?_ (w.heap.size) ?_ o k A n c ?_ ?_); (· rfl); (· rfl); (· rfl); (· exact B0.out)))
  refine (HH2.out _).mono ?_; rintro e w' ⟨rfl, rfl⟩
  clear c1_0 c1_1 c1_2 c1_3 c1_4 c1_5 c1_6 c2_0 c2_1 c2_2 c3_0 c3_1 c3_2 c3_3 c3_4 c3_5 c3_6
  obtain ⟨c1_0, c1_1, c1_2, c1_3, c1_4, c1_5, c1_6⟩ := B1.out.all7
  obtain ⟨c2_0, c2_1, c2_2⟩ := B2.out.all3
  obtain ⟨c3_0, c3_1, c3_2, c3_3, c3_4, c3_5, c3_6⟩ := B3.out.all7
  have co := B0.out.at to (pc_own o k A n c h8)
  go_wp2_with (first | ((with_reducible refine load_at ?_ ?_ (w.heap.size) ?_ o k A n c ?_ ?_); (· rfl); (· rfl); (· rfl); (· exact B0.out)))
  go_quiet (fail)
  have hd := below_drewN (w5) nq
  replace bel := Bx.then_below bel hd
  replace B0 := Lib.hid (B0.out.keep hd)
  replace B1 := Lib.hid (B1.out.keep hd)
  replace B2 := Lib.hid (B2.out.keep hd)
  replace B3 := Lib.hid (B3.out.keep hd)
  clear hd c1_0 c1_1 c1_2 c1_3 c1_4 c1_5 c1_6 c2_0 c2_1 c2_2 c3_0 c3_1 c3_2 c3_3 c3_4 c3_5 c3_6
  generalize hg : (w5).drewN nq = W5 at *
  clear hg
  clear co
  obtain ⟨c1_0, c1_1, c1_2, c1_3, c1_4, c1_5, c1_6⟩ := B1.out.all7
  obtain ⟨c2_0, c2_1, c2_2⟩ := B2.out.all3
  obtain ⟨c3_0, c3_1, c3_2, c3_3, c3_4, c3_5, c3_6⟩ := B3.out.all7
  go_wp2_with (first | ((with_reducible refine load_at ?_ ?_ (w.heap.size) ?_ o k A n c ?_ ?_); (· rfl); (· rfl); (· rfl); (· exact B0.out)))
  refine (HT3.out _ bel).mono ?_; rintro e w7 ⟨rfl, hb7⟩
  replace bel := Bx.then_below bel hb7
  replace B0 := Lib.hid (B0.out.keep hb7)
  replace B1 := Lib.hid (B1.out.keep hb7)
  replace B2 := Lib.hid (B2.out.keep hb7)
  replace B3 := Lib.hid (B3.out.keep hb7)
  clear hb7
  clear c1_0 c1_1 c1_2 c1_3 c1_4 c1_5 c1_6 c2_0 c2_1 c2_2 c3_0 c3_1 c3_2 c3_3 c3_4 c3_5 c3_6
  obtain ⟨c1_0, c1_1, c1_2, c1_3, c1_4, c1_5, c1_6⟩ := B1.out.all7
  obtain ⟨c2_0, c2_1, c2_2⟩ := B2.out.all3
  obtain ⟨c3_0, c3_1, c3_2, c3_3, c3_4, c3_5, c3_6⟩ := B3.out.all7
  have ck := B0.out.at (8 + to) (pc_take o k A n c h8)
  go_wp2_with (first | ((with_reducible refine load_at ?_ ?_ (w.heap.size) ?_ o k A n c ?_ ?_); (· rfl); (· rfl); (· rfl); (· exact B0.out)))
  refine (awake_any _).mono ?_; rintro e w8 ⟨rfl, hb8⟩
  replace bel := Bx.then_below bel hb8
  replace B0 := Lib.hid (B0.out.keep hb8)
  replace B1 := Lib.hid (B1.out.keep hb8)
  replace B2 := Lib.hid (B2.out.keep hb8)
  replace B3 := Lib.hid (B3.out.keep hb8)
  clear hb8
  go_wp2_with (first | ((with_reducible refine load_at ?_ ?_ (w.heap.size) ?_ o k A n c ?_ ?_); (· rfl); (· rfl); (· rfl); (· exact B0.out)))
  go_ret
  exact ⟨rfl, bel⟩

set_option maxRecDepth 100000 in
set_option maxHeartbeats 8000000 in
theorem keeps_f_eq_k0 (o k : Nat → Int) (A : Option Addr) (n c : Nat) (d s : Int) (g : Bool) (p v t : Int) (X : ByteArray) (a b m : Int) (q to : Nat) (T F2 : Int) (T3 : Int) (w : World) (hX : X.size ≤ 12000) (hqa : wrap64 ((IntKind.u64.wrap a).tmod 8) = (q : Int)) (hqb : wrap64 ((IntKind.u64.wrap b).tmod 8) = (to : Int)) (h8 : to < 8) (heq : o to = m) (hk : k to = 0)
    (HL : Hid (∀ w', Below w.heap.size w w' → Calls Try.prog 5 #[pv o k A n c] w' fun e w'' => e = .returned (.bool false) ∧ Below w'.heap.size w' w''))
    (HR : Hid (∀ w', Below w.heap.size w w' → Calls Try.prog 13 #[pv o k A n c] w' fun e w'' => e = .returned (.bool true) ∧ Below w'.heap.size w' w''))
    (HT : Hid (∀ w', Below w.heap.size w w' → Calls Try.prog 7 #[pv o k A n c, .int .i64 (q : Int), fr d s g p v t X] w' fun e w'' => e = .returned (.tuple #[.int .i64 T, .bool false]) ∧ Below w'.heap.size w' w''))
    (HS : Hid (∀ w', Below w.heap.size w w' → Calls Try.prog 9 #[pv o k A n c, .int .i64 (q : Int), .int .i64 m, fr d s g p v t X] w' fun e w'' => e = .returned (.tuple #[.agg #[.int .u64 d, .int .u64 s, .bool false, .int .i64 0, .int .i64 0, .int .i64 t, .string X], .bool true]) ∧ Below w'.heap.size w' w''))
    (HO2 : Hid (∀ w', Below w.heap.size w w' → Calls Try.prog 15 #[pv o k A n c, .int .i64 m] w' fun e w'' => e = .returned (.int .i64 F2) ∧ Below w'.heap.size w' w''))
    (HH2 : Hid (∀ w, Calls Try.prog 20 #[.int .i64 F2, .int .i64 (q : Int)] w fun e w' => e = .returned (.bool true) ∧ w = w'))
    (HT3 : Hid (∀ w', Below w.heap.size w w' → Calls Try.prog 7 #[pv o k A n c, .int .i64 (to : Int), .agg #[.int .u64 d, .int .u64 s, .bool false, .int .i64 0, .int .i64 0, .int .i64 t, .string X]] w' fun e w'' => e = .returned (.tuple #[.int .i64 T3, .bool false]) ∧ Below w'.heap.size w' w''))
    (HH3 : Hid (∀ w, Calls Try.prog 20 #[.int .i64 F2, .int .i64 (to : Int)] w fun e w' => e = .returned (.bool false) ∧ w = w')) :
    Calls Try.prog 4 #[pv o k A n c, fr d s g p v t X, .agg #[.int .i64 a, .int .i64 b, .int .i64 m]] w fun e w' => e = .returned (.bool true) ∧ Below w.heap.size w w' := by
  have h8i : (to : Int) < 8 := by omega
  have hin : ((to : Int)).toNat = to := by omega
  have eX : (X.toList == X.toList) = true := by simp
  have hn1 : (o to == m) = true := by simpa using heq
  have hn2 : (o to != m) = false := by simpa using heq
  have hk1 : (k to == 0) = true := by simpa using hk
  have hk2 : (k to != 0) = false := by simpa using hk
  have bel := Bx.bel_refl w
  have B0 := Lib.hid (Bx.Blk.new w (pc o k A n c) 25)
  replace bel := Bx.bel_box bel (Obj.cells (pc o k A n c).toArray 25)
  replace B0 := Lib.hid (B0.out.more (Obj.cells #[.int .u64 d, .int .u64 s, .bool g, .int .i64 p, .int .i64 v, .int .i64 t, .string X] 29))
  have B1 := Lib.hid (Bx.Blk.new_at (W := (w.alloc (Obj.cells (pc o k A n c).toArray 25))) (k := w.heap.size + 1) [.int .u64 d, .int .u64 s, .bool g, .int .i64 p, .int .i64 v, .int .i64 t, .string X] 29 (by simp))
  replace bel := Bx.bel_box bel (Obj.cells #[.int .u64 d, .int .u64 s, .bool g, .int .i64 p, .int .i64 v, .int .i64 t, .string X] 29)
  obtain ⟨c1_0, c1_1, c1_2, c1_3, c1_4, c1_5, c1_6⟩ := B1.out.all7
  replace B0 := Lib.hid (B0.out.more (Obj.cells #[.int .i64 a, .int .i64 b, .int .i64 m] 45))
  replace B1 := Lib.hid (B1.out.more (Obj.cells #[.int .i64 a, .int .i64 b, .int .i64 m] 45))
  have B2 := Lib.hid (Bx.Blk.new_at (W := ((w.alloc (Obj.cells (pc o k A n c).toArray 25)).alloc (Obj.cells #[.int .u64 d, .int .u64 s, .bool g, .int .i64 p, .int .i64 v, .int .i64 t, .string X] 29))) (k := w.heap.size + 2) [.int .i64 a, .int .i64 b, .int .i64 m] 45 (by simp))
  replace bel := Bx.bel_box bel (Obj.cells #[.int .i64 a, .int .i64 b, .int .i64 m] 45)
  clear c1_0 c1_1 c1_2 c1_3 c1_4 c1_5 c1_6
  obtain ⟨c1_0, c1_1, c1_2, c1_3, c1_4, c1_5, c1_6⟩ := B1.out.all7
  obtain ⟨c2_0, c2_1, c2_2⟩ := B2.out.all3
  go_enter Try.func4, Try.ntmps4
  go_wp2_with (first | ((with_reducible refine load_at ?_ ?_ (w.heap.size) ?_ o k A n c ?_ ?_); (· rfl); (· rfl); (· rfl); (· exact B0.out)))
  refine (HL.out _ bel).mono ?_; rintro e w1 ⟨rfl, hb1⟩
  replace bel := Bx.then_below bel hb1
  replace B0 := Lib.hid (B0.out.keep hb1)
  replace B1 := Lib.hid (B1.out.keep hb1)
  replace B2 := Lib.hid (B2.out.keep hb1)
  clear hb1
  clear c1_0 c1_1 c1_2 c1_3 c1_4 c1_5 c1_6 c2_0 c2_1 c2_2
  obtain ⟨c1_0, c1_1, c1_2, c1_3, c1_4, c1_5, c1_6⟩ := B1.out.all7
  obtain ⟨c2_0, c2_1, c2_2⟩ := B2.out.all3
  go_wp2_with (first | ((with_reducible refine load_at ?_ ?_ (w.heap.size) ?_ o k A n c ?_ ?_); (· rfl); (· rfl); (· rfl); (· exact B0.out)))
  refine (HR.out _ bel).mono ?_; rintro e w2 ⟨rfl, hb2⟩
  replace bel := Bx.then_below bel hb2
  replace B0 := Lib.hid (B0.out.keep hb2)
  replace B1 := Lib.hid (B1.out.keep hb2)
  replace B2 := Lib.hid (B2.out.keep hb2)
  clear hb2
  clear c1_0 c1_1 c1_2 c1_3 c1_4 c1_5 c1_6 c2_0 c2_1 c2_2
  obtain ⟨c1_0, c1_1, c1_2, c1_3, c1_4, c1_5, c1_6⟩ := B1.out.all7
  obtain ⟨c2_0, c2_1, c2_2⟩ := B2.out.all3
  go_wp2_with (first | ((with_reducible refine load_at ?_ ?_ (w.heap.size) ?_ o k A n c ?_ ?_); (· rfl); (· rfl); (· rfl); (· exact B0.out)))
  go_quiet (fail)
  have hd := below_drewN (w2) nq
  replace bel := Bx.then_below bel hd
  replace B0 := Lib.hid (B0.out.keep hd)
  replace B1 := Lib.hid (B1.out.keep hd)
  replace B2 := Lib.hid (B2.out.keep hd)
  clear hd c1_0 c1_1 c1_2 c1_3 c1_4 c1_5 c1_6 c2_0 c2_1 c2_2
  generalize hg : (w2).drewN nq = W3 at *
  clear hg
  rw [hqa, hqb]
  clear hqa hqb
  obtain ⟨c1_0, c1_1, c1_2, c1_3, c1_4, c1_5, c1_6⟩ := B1.out.all7
  obtain ⟨c2_0, c2_1, c2_2⟩ := B2.out.all3
  go_wp2_with (first | ((with_reducible refine load_at ?_ ?_ (w.heap.size) ?_ o k A n c ?_ ?_); (· rfl); (· rfl); (· rfl); (· exact B0.out)))
  refine (HT.out _ bel).mono ?_; rintro e w3 ⟨rfl, hb3⟩
  replace bel := Bx.then_below bel hb3
  replace B0 := Lib.hid (B0.out.keep hb3)
  replace B1 := Lib.hid (B1.out.keep hb3)
  replace B2 := Lib.hid (B2.out.keep hb3)
  clear hb3
  clear c1_0 c1_1 c1_2 c1_3 c1_4 c1_5 c1_6 c2_0 c2_1 c2_2
  obtain ⟨c1_0, c1_1, c1_2, c1_3, c1_4, c1_5, c1_6⟩ := B1.out.all7
  obtain ⟨c2_0, c2_1, c2_2⟩ := B2.out.all3
  go_wp2_with (first | ((with_reducible refine load_at ?_ ?_ (w.heap.size) ?_ o k A n c ?_ ?_); (· rfl); (· rfl); (· rfl); (· exact B0.out)))
  refine (HS.out _ bel).mono ?_; rintro e w4 ⟨rfl, hb4⟩
  replace bel := Bx.then_below bel hb4
  replace B0 := Lib.hid (B0.out.keep hb4)
  replace B1 := Lib.hid (B1.out.keep hb4)
  replace B2 := Lib.hid (B2.out.keep hb4)
  clear hb4
  replace B0 := Lib.hid (B0.out.more (Obj.cells #[.int .u64 d, .int .u64 s, .bool false, .int .i64 0, .int .i64 0, .int .i64 t, .string X] 29))
  replace B1 := Lib.hid (B1.out.more (Obj.cells #[.int .u64 d, .int .u64 s, .bool false, .int .i64 0, .int .i64 0, .int .i64 t, .string X] 29))
  replace B2 := Lib.hid (B2.out.more (Obj.cells #[.int .u64 d, .int .u64 s, .bool false, .int .i64 0, .int .i64 0, .int .i64 t, .string X] 29))
  have B3 := Lib.hid (Bx.Blk.new w4 [.int .u64 d, .int .u64 s, .bool false, .int .i64 0, .int .i64 0, .int .i64 t, .string X] 29)
  replace bel := Bx.bel_box bel (Obj.cells #[.int .u64 d, .int .u64 s, .bool false, .int .i64 0, .int .i64 0, .int .i64 t, .string X] 29)
  clear c1_0 c1_1 c1_2 c1_3 c1_4 c1_5 c1_6 c2_0 c2_1 c2_2
  obtain ⟨c1_0, c1_1, c1_2, c1_3, c1_4, c1_5, c1_6⟩ := B1.out.all7
  obtain ⟨c2_0, c2_1, c2_2⟩ := B2.out.all3
  obtain ⟨c3_0, c3_1, c3_2, c3_3, c3_4, c3_5, c3_6⟩ := B3.out.all7
  go_wp2_with (first | ((with_reducible refine load_at ?_ ?_ (w.heap.size) ?_ o k A n c ?_ ?_); (· rfl); (· rfl); (· rfl); (· exact B0.out)))
  refine (HO2.out _ bel).mono ?_; rintro e w5 ⟨rfl, hb5⟩
  replace bel := Bx.then_below bel hb5
  replace B0 := Lib.hid (B0.out.keep hb5)
  replace B1 := Lib.hid (B1.out.keep hb5)
  replace B2 := Lib.hid (B2.out.keep hb5)
  replace B3 := Lib.hid (B3.out.keep hb5)
  clear hb5
  clear c1_0 c1_1 c1_2 c1_3 c1_4 c1_5 c1_6 c2_0 c2_1 c2_2 c3_0 c3_1 c3_2 c3_3 c3_4 c3_5 c3_6
  obtain ⟨c1_0, c1_1, c1_2, c1_3, c1_4, c1_5, c1_6⟩ := B1.out.all7
  obtain ⟨c2_0, c2_1, c2_2⟩ := B2.out.all3
  obtain ⟨c3_0, c3_1, c3_2, c3_3, c3_4, c3_5, c3_6⟩ := B3.out.all7
  go_wp2_with (first | ((with_reducible refine load_at ?_ ?_ (w.heap.size) ?_ o k A n c ?_ ?_); (· rfl); (· rfl); (· rfl); (· exact B0.out)))
  refine (HH2.out _).mono ?_; rintro e w' ⟨rfl, rfl⟩
  clear c1_0 c1_1 c1_2 c1_3 c1_4 c1_5 c1_6 c2_0 c2_1 c2_2 c3_0 c3_1 c3_2 c3_3 c3_4 c3_5 c3_6
  obtain ⟨c1_0, c1_1, c1_2, c1_3, c1_4, c1_5, c1_6⟩ := B1.out.all7
  obtain ⟨c2_0, c2_1, c2_2⟩ := B2.out.all3
  obtain ⟨c3_0, c3_1, c3_2, c3_3, c3_4, c3_5, c3_6⟩ := B3.out.all7
  have co := B0.out.at to (pc_own o k A n c h8)
  go_wp2_with (first | ((with_reducible refine load_at ?_ ?_ (w.heap.size) ?_ o k A n c ?_ ?_); (· rfl); (· rfl); (· rfl); (· exact B0.out)))
  go_quiet (fail)
  have hd := below_drewN (w5) nq
  replace bel := Bx.then_below bel hd
  replace B0 := Lib.hid (B0.out.keep hd)
  replace B1 := Lib.hid (B1.out.keep hd)
  replace B2 := Lib.hid (B2.out.keep hd)
  replace B3 := Lib.hid (B3.out.keep hd)
  clear hd c1_0 c1_1 c1_2 c1_3 c1_4 c1_5 c1_6 c2_0 c2_1 c2_2 c3_0 c3_1 c3_2 c3_3 c3_4 c3_5 c3_6
  generalize hg : (w5).drewN nq = W5 at *
  clear hg
  clear co
  obtain ⟨c1_0, c1_1, c1_2, c1_3, c1_4, c1_5, c1_6⟩ := B1.out.all7
  obtain ⟨c2_0, c2_1, c2_2⟩ := B2.out.all3
  obtain ⟨c3_0, c3_1, c3_2, c3_3, c3_4, c3_5, c3_6⟩ := B3.out.all7
  go_wp2_with (first | ((with_reducible refine load_at ?_ ?_ (w.heap.size) ?_ o k A n c ?_ ?_); (· rfl); (· rfl); (· rfl); (· exact B0.out)))
  refine (HT3.out _ bel).mono ?_; rintro e w7 ⟨rfl, hb7⟩
  replace bel := Bx.then_below bel hb7
  replace B0 := Lib.hid (B0.out.keep hb7)
  replace B1 := Lib.hid (B1.out.keep hb7)
  replace B2 := Lib.hid (B2.out.keep hb7)
  replace B3 := Lib.hid (B3.out.keep hb7)
  clear hb7
  clear c1_0 c1_1 c1_2 c1_3 c1_4 c1_5 c1_6 c2_0 c2_1 c2_2 c3_0 c3_1 c3_2 c3_3 c3_4 c3_5 c3_6
  obtain ⟨c1_0, c1_1, c1_2, c1_3, c1_4, c1_5, c1_6⟩ := B1.out.all7
  obtain ⟨c2_0, c2_1, c2_2⟩ := B2.out.all3
  obtain ⟨c3_0, c3_1, c3_2, c3_3, c3_4, c3_5, c3_6⟩ := B3.out.all7
  have ck := B0.out.at (8 + to) (pc_take o k A n c h8)
  go_wp2_with (first | ((with_reducible refine load_at ?_ ?_ (w.heap.size) ?_ o k A n c ?_ ?_); (· rfl); (· rfl); (· rfl); (· exact B0.out)))
  clear ck
  refine (HO2.out _ bel).mono ?_; rintro e w8 ⟨rfl, hb8⟩
  replace bel := Bx.then_below bel hb8
  replace B0 := Lib.hid (B0.out.keep hb8)
  replace B1 := Lib.hid (B1.out.keep hb8)
  replace B2 := Lib.hid (B2.out.keep hb8)
  replace B3 := Lib.hid (B3.out.keep hb8)
  clear hb8
  clear c1_0 c1_1 c1_2 c1_3 c1_4 c1_5 c1_6 c2_0 c2_1 c2_2 c3_0 c3_1 c3_2 c3_3 c3_4 c3_5 c3_6
  obtain ⟨c1_0, c1_1, c1_2, c1_3, c1_4, c1_5, c1_6⟩ := B1.out.all7
  obtain ⟨c2_0, c2_1, c2_2⟩ := B2.out.all3
  obtain ⟨c3_0, c3_1, c3_2, c3_3, c3_4, c3_5, c3_6⟩ := B3.out.all7
  go_wp2_with (first | ((with_reducible refine load_at ?_ ?_ (w.heap.size) ?_ o k A n c ?_ ?_); (· rfl); (· rfl); (· rfl); (· exact B0.out)))
  refine (HH3.out _).mono ?_; rintro e w' ⟨rfl, rfl⟩
  clear c1_0 c1_1 c1_2 c1_3 c1_4 c1_5 c1_6 c2_0 c2_1 c2_2 c3_0 c3_1 c3_2 c3_3 c3_4 c3_5 c3_6
  obtain ⟨c1_0, c1_1, c1_2, c1_3, c1_4, c1_5, c1_6⟩ := B1.out.all7
  obtain ⟨c2_0, c2_1, c2_2⟩ := B2.out.all3
  obtain ⟨c3_0, c3_1, c3_2, c3_3, c3_4, c3_5, c3_6⟩ := B3.out.all7
  go_wp2_with (first | ((with_reducible refine load_at ?_ ?_ (w.heap.size) ?_ o k A n c ?_ ?_); (· rfl); (· rfl); (· rfl); (· exact B0.out)))
  refine (awake_any _).mono ?_; rintro e w10 ⟨rfl, hb10⟩
  replace bel := Bx.then_below bel hb10
  replace B0 := Lib.hid (B0.out.keep hb10)
  replace B1 := Lib.hid (B1.out.keep hb10)
  replace B2 := Lib.hid (B2.out.keep hb10)
  replace B3 := Lib.hid (B3.out.keep hb10)
  clear hb10
  go_wp2_with (first | ((with_reducible refine load_at ?_ ?_ (w.heap.size) ?_ o k A n c ?_ ?_); (· rfl); (· rfl); (· rfl); (· exact B0.out)))
  go_ret
  exact ⟨rfl, bel⟩

end Mem
end Go.Proofs.Ytbighadkcmhplaa
