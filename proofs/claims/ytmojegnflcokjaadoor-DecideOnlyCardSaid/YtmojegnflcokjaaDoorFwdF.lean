/-
  Where a frame goes, as decide.Ports and the document answer.
-/
import Derived.Test.YtmojegnflcokjaaDoorPkOctAwake
import Derived.Test.YtmojegnflcokjaaDoorPkFwdB
import Derived.Test.YtmojegnflcokjaaDoorPkMemB
import Derived.Test.YtmojegnflcokjaaDoorPkPorB
namespace Go.Proofs.YtmojegnflcokjaaDoor
open Go.RowKit
namespace Fwd
open Oct Eth Tab

set_option maxRecDepth 100000 in
set_option maxHeartbeats 4000000 in
theorem ports_kind (most long : Int) (A : Option Addr) (n c : Nat) (o k : Nat → Int) (AP : Option Addr) (np cp : Nat) (d s : Int) (g : Bool) (p vv t : Int) (X : ByteArray) (v q op : Int) (K : Int) (w : World) (hK : ¬ K = 0)
    (HK : Hid (∀ w', Below w.heap.size w w' → Calls Tryd.prog 12 #[fr d s g p vv t X] w' fun e w'' => e = .returned (.int .i64 K) ∧ Below w'.heap.size w' w'')) :
    Calls Tryd.prog 16 #[tv most long A n c, Mem.pv o k AP np cp, fr d s g p vv t X, .int .i64 v, .int .i64 q, .int .i64 op] w fun e w' => e = .returned (.int .i64 0) ∧ Below w.heap.size w w' := by
  have e1 : (K == 0) = false := by simpa using hK
  have e2 : (K != 0) = true := by simpa using hK
  have bel := Bx.bel_refl w
  have B0 := Lib.hid (Bx.Blk.new w [.int .i64 most, .int .i64 long, .slice A n c] 24)
  replace bel := Bx.bel_box bel (Obj.cells #[.int .i64 most, .int .i64 long, .slice A n c] 24)
  obtain ⟨c0_0, c0_1, c0_2⟩ := B0.out.all3
  replace B0 := Lib.hid (B0.out.more (Obj.cells (Mem.pc o k AP np cp).toArray 28))
  have B1 := Lib.hid (Bx.Blk.new_at (W := (w.alloc (Obj.cells #[.int .i64 most, .int .i64 long, .slice A n c] 24))) (k := w.heap.size + 1) (Mem.pc o k AP np cp) 28 (by simp))
  replace bel := Bx.bel_box bel (Obj.cells (Mem.pc o k AP np cp).toArray 28)
  clear c0_0 c0_1 c0_2
  obtain ⟨c0_0, c0_1, c0_2⟩ := B0.out.all3
  replace B0 := Lib.hid (B0.out.more (Obj.cells #[.int .u64 d, .int .u64 s, .bool g, .int .i64 p, .int .i64 vv, .int .i64 t, .string X] 32))
  replace B1 := Lib.hid (B1.out.more (Obj.cells #[.int .u64 d, .int .u64 s, .bool g, .int .i64 p, .int .i64 vv, .int .i64 t, .string X] 32))
  have B2 := Lib.hid (Bx.Blk.new_at (W := ((w.alloc (Obj.cells #[.int .i64 most, .int .i64 long, .slice A n c] 24)).alloc (Obj.cells (Mem.pc o k AP np cp).toArray 28))) (k := w.heap.size + 2) [.int .u64 d, .int .u64 s, .bool g, .int .i64 p, .int .i64 vv, .int .i64 t, .string X] 32 (by simp))
  replace bel := Bx.bel_box bel (Obj.cells #[.int .u64 d, .int .u64 s, .bool g, .int .i64 p, .int .i64 vv, .int .i64 t, .string X] 32)
  clear c0_0 c0_1 c0_2
  obtain ⟨c0_0, c0_1, c0_2⟩ := B0.out.all3
  obtain ⟨c2_0, c2_1, c2_2, c2_3, c2_4, c2_5, c2_6⟩ := B2.out.all7
  go_enter Tryd.func16, Tryd.ntmps16
  go_wp2_with (first | ((with_reducible refine Mem.load_at ?_ ?_ (w.heap.size + 1) ?_ o k AP np cp ?_ ?_); (· rfl); (· rfl); (· rfl); (· exact B1.out)))
  refine (HK.out _ bel).mono ?_; rintro e w1 ⟨rfl, hb1⟩
  replace bel := Bx.then_below bel hb1
  replace B0 := Lib.hid (B0.out.keep hb1)
  replace B1 := Lib.hid (B1.out.keep hb1)
  replace B2 := Lib.hid (B2.out.keep hb1)
  clear hb1
  clear c0_0 c0_1 c0_2 c2_0 c2_1 c2_2 c2_3 c2_4 c2_5 c2_6
  obtain ⟨c0_0, c0_1, c0_2⟩ := B0.out.all3
  obtain ⟨c2_0, c2_1, c2_2, c2_3, c2_4, c2_5, c2_6⟩ := B2.out.all7
  go_wp2_with (first | ((with_reducible refine Mem.load_at ?_ ?_ (w.heap.size + 1) ?_ o k AP np cp ?_ ?_); (· rfl); (· rfl); (· rfl); (· exact B1.out)))
  go_ret
  exact ⟨rfl, bel⟩

set_option maxRecDepth 100000 in
set_option maxHeartbeats 4000000 in
theorem ports_shut (most long : Int) (A : Option Addr) (n c : Nat) (o k : Nat → Int) (AP : Option Addr) (np cp : Nat) (d s : Int) (g : Bool) (p vv t : Int) (X : ByteArray) (v q op : Int) (w : World)
    (HK : Hid (∀ w', Below w.heap.size w w' → Calls Tryd.prog 12 #[fr d s g p vv t X] w' fun e w'' => e = .returned (.int .i64 0) ∧ Below w'.heap.size w' w''))
    (HH : Hid (∀ w, Calls Tryd.prog 22 #[.int .i64 op, .int .i64 q] w fun e w' => e = .returned (.bool false) ∧ w = w')) :
    Calls Tryd.prog 16 #[tv most long A n c, Mem.pv o k AP np cp, fr d s g p vv t X, .int .i64 v, .int .i64 q, .int .i64 op] w fun e w' => e = .returned (.int .i64 0) ∧ Below w.heap.size w w' := by
  have bel := Bx.bel_refl w
  have B0 := Lib.hid (Bx.Blk.new w [.int .i64 most, .int .i64 long, .slice A n c] 24)
  replace bel := Bx.bel_box bel (Obj.cells #[.int .i64 most, .int .i64 long, .slice A n c] 24)
  obtain ⟨c0_0, c0_1, c0_2⟩ := B0.out.all3
  replace B0 := Lib.hid (B0.out.more (Obj.cells (Mem.pc o k AP np cp).toArray 28))
  have B1 := Lib.hid (Bx.Blk.new_at (W := (w.alloc (Obj.cells #[.int .i64 most, .int .i64 long, .slice A n c] 24))) (k := w.heap.size + 1) (Mem.pc o k AP np cp) 28 (by simp))
  replace bel := Bx.bel_box bel (Obj.cells (Mem.pc o k AP np cp).toArray 28)
  clear c0_0 c0_1 c0_2
  obtain ⟨c0_0, c0_1, c0_2⟩ := B0.out.all3
  replace B0 := Lib.hid (B0.out.more (Obj.cells #[.int .u64 d, .int .u64 s, .bool g, .int .i64 p, .int .i64 vv, .int .i64 t, .string X] 32))
  replace B1 := Lib.hid (B1.out.more (Obj.cells #[.int .u64 d, .int .u64 s, .bool g, .int .i64 p, .int .i64 vv, .int .i64 t, .string X] 32))
  have B2 := Lib.hid (Bx.Blk.new_at (W := ((w.alloc (Obj.cells #[.int .i64 most, .int .i64 long, .slice A n c] 24)).alloc (Obj.cells (Mem.pc o k AP np cp).toArray 28))) (k := w.heap.size + 2) [.int .u64 d, .int .u64 s, .bool g, .int .i64 p, .int .i64 vv, .int .i64 t, .string X] 32 (by simp))
  replace bel := Bx.bel_box bel (Obj.cells #[.int .u64 d, .int .u64 s, .bool g, .int .i64 p, .int .i64 vv, .int .i64 t, .string X] 32)
  clear c0_0 c0_1 c0_2
  obtain ⟨c0_0, c0_1, c0_2⟩ := B0.out.all3
  obtain ⟨c2_0, c2_1, c2_2, c2_3, c2_4, c2_5, c2_6⟩ := B2.out.all7
  go_enter Tryd.func16, Tryd.ntmps16
  go_wp2_with (first | ((with_reducible refine Mem.load_at ?_ ?_ (w.heap.size + 1) ?_ o k AP np cp ?_ ?_); (· rfl); (· rfl); (· rfl); (· exact B1.out)))
  refine (HK.out _ bel).mono ?_; rintro e w1 ⟨rfl, hb1⟩
  replace bel := Bx.then_below bel hb1
  replace B0 := Lib.hid (B0.out.keep hb1)
  replace B1 := Lib.hid (B1.out.keep hb1)
  replace B2 := Lib.hid (B2.out.keep hb1)
  clear hb1
  clear c0_0 c0_1 c0_2 c2_0 c2_1 c2_2 c2_3 c2_4 c2_5 c2_6
  obtain ⟨c0_0, c0_1, c0_2⟩ := B0.out.all3
  obtain ⟨c2_0, c2_1, c2_2, c2_3, c2_4, c2_5, c2_6⟩ := B2.out.all7
  go_wp2_with (first | ((with_reducible refine Mem.load_at ?_ ?_ (w.heap.size + 1) ?_ o k AP np cp ?_ ?_); (· rfl); (· rfl); (· rfl); (· exact B1.out)))
  refine (HH.out _).mono ?_; rintro e w' ⟨rfl, rfl⟩
  clear c0_0 c0_1 c0_2 c2_0 c2_1 c2_2 c2_3 c2_4 c2_5 c2_6
  obtain ⟨c0_0, c0_1, c0_2⟩ := B0.out.all3
  obtain ⟨c2_0, c2_1, c2_2, c2_3, c2_4, c2_5, c2_6⟩ := B2.out.all7
  go_wp2_with (first | ((with_reducible refine Mem.load_at ?_ ?_ (w.heap.size + 1) ?_ o k AP np cp ?_ ?_); (· rfl); (· rfl); (· rfl); (· exact B1.out)))
  go_ret
  exact ⟨rfl, bel⟩

set_option maxRecDepth 100000 in
set_option maxHeartbeats 4000000 in
theorem ports_group (most long : Int) (A : Option Addr) (n c : Nat) (o k : Nat → Int) (AP : Option Addr) (np cp : Nat) (d s : Int) (g : Bool) (p vv t : Int) (X : ByteArray) (v q op : Int) (F O : Int) (e1 : Int) (e2 : Nat) (e3 e4 : Int) (is : Bool) (w : World)
    (HK : Hid (∀ w', Below w.heap.size w w' → Calls Tryd.prog 12 #[fr d s g p vv t X] w' fun e w'' => e = .returned (.int .i64 0) ∧ Below w'.heap.size w' w''))
    (HH : Hid (∀ w, Calls Tryd.prog 22 #[.int .i64 op, .int .i64 q] w fun e w' => e = .returned (.bool true) ∧ w = w'))
    (HO : Hid (∀ w', Below w.heap.size w w' → Calls Tryd.prog 27 #[Mem.pv o k AP np cp, .int .i64 v] w' fun e w'' => e = .returned (.int .i64 F) ∧ Below w'.heap.size w' w''))
    (HW : Hid (∀ w, Calls Tryd.prog 29 #[.int .i64 (bits .and .i64 F op), .int .i64 q] w fun e w' => e = .returned (.int .i64 O) ∧ w = w'))
    (HF : Hid (∀ w', Below w.heap.size w w' → Calls Tryd.prog 25 #[tv most long A n c, .int .i64 v, .int .u64 d] w' fun e w'' => e = .returned (.tuple #[.agg #[.int .i64 e1, .int .u64 e2, .int .i64 e3, .int .i64 e4], .bool is]) ∧ Below w'.heap.size w' w''))
    (HG : Hid (∀ w, Calls Tryd.prog 26 #[.int .u64 d] w fun e w' => e = .returned (.bool true) ∧ w = w')) :
    Calls Tryd.prog 16 #[tv most long A n c, Mem.pv o k AP np cp, fr d s g p vv t X, .int .i64 v, .int .i64 q, .int .i64 op] w fun e w' => e = .returned (.int .i64 O) ∧ Below w.heap.size w w' := by
  have bel := Bx.bel_refl w
  have B0 := Lib.hid (Bx.Blk.new w [.int .i64 most, .int .i64 long, .slice A n c] 24)
  replace bel := Bx.bel_box bel (Obj.cells #[.int .i64 most, .int .i64 long, .slice A n c] 24)
  obtain ⟨c0_0, c0_1, c0_2⟩ := B0.out.all3
  replace B0 := Lib.hid (B0.out.more (Obj.cells (Mem.pc o k AP np cp).toArray 28))
  have B1 := Lib.hid (Bx.Blk.new_at (W := (w.alloc (Obj.cells #[.int .i64 most, .int .i64 long, .slice A n c] 24))) (k := w.heap.size + 1) (Mem.pc o k AP np cp) 28 (by simp))
  replace bel := Bx.bel_box bel (Obj.cells (Mem.pc o k AP np cp).toArray 28)
  clear c0_0 c0_1 c0_2
  obtain ⟨c0_0, c0_1, c0_2⟩ := B0.out.all3
  replace B0 := Lib.hid (B0.out.more (Obj.cells #[.int .u64 d, .int .u64 s, .bool g, .int .i64 p, .int .i64 vv, .int .i64 t, .string X] 32))
  replace B1 := Lib.hid (B1.out.more (Obj.cells #[.int .u64 d, .int .u64 s, .bool g, .int .i64 p, .int .i64 vv, .int .i64 t, .string X] 32))
  have B2 := Lib.hid (Bx.Blk.new_at (W := ((w.alloc (Obj.cells #[.int .i64 most, .int .i64 long, .slice A n c] 24)).alloc (Obj.cells (Mem.pc o k AP np cp).toArray 28))) (k := w.heap.size + 2) [.int .u64 d, .int .u64 s, .bool g, .int .i64 p, .int .i64 vv, .int .i64 t, .string X] 32 (by simp))
  replace bel := Bx.bel_box bel (Obj.cells #[.int .u64 d, .int .u64 s, .bool g, .int .i64 p, .int .i64 vv, .int .i64 t, .string X] 32)
  clear c0_0 c0_1 c0_2
  obtain ⟨c0_0, c0_1, c0_2⟩ := B0.out.all3
  obtain ⟨c2_0, c2_1, c2_2, c2_3, c2_4, c2_5, c2_6⟩ := B2.out.all7
  go_enter Tryd.func16, Tryd.ntmps16
  go_wp2_with (first | ((with_reducible refine Mem.load_at ?_ ?_ (w.heap.size + 1) ?_ o k AP np cp ?_ ?_); (· rfl); (· rfl); (· rfl); (· exact B1.out)))
  refine (HK.out _ bel).mono ?_; rintro e w1 ⟨rfl, hb1⟩
  replace bel := Bx.then_below bel hb1
  replace B0 := Lib.hid (B0.out.keep hb1)
  replace B1 := Lib.hid (B1.out.keep hb1)
  replace B2 := Lib.hid (B2.out.keep hb1)
  clear hb1
  clear c0_0 c0_1 c0_2 c2_0 c2_1 c2_2 c2_3 c2_4 c2_5 c2_6
  obtain ⟨c0_0, c0_1, c0_2⟩ := B0.out.all3
  obtain ⟨c2_0, c2_1, c2_2, c2_3, c2_4, c2_5, c2_6⟩ := B2.out.all7
  go_wp2_with (first | ((with_reducible refine Mem.load_at ?_ ?_ (w.heap.size + 1) ?_ o k AP np cp ?_ ?_); (· rfl); (· rfl); (· rfl); (· exact B1.out)))
  refine (HH.out _).mono ?_; rintro e w' ⟨rfl, rfl⟩
  clear c0_0 c0_1 c0_2 c2_0 c2_1 c2_2 c2_3 c2_4 c2_5 c2_6
  obtain ⟨c0_0, c0_1, c0_2⟩ := B0.out.all3
  obtain ⟨c2_0, c2_1, c2_2, c2_3, c2_4, c2_5, c2_6⟩ := B2.out.all7
  go_wp2_with (first | ((with_reducible refine Mem.load_at ?_ ?_ (w.heap.size + 1) ?_ o k AP np cp ?_ ?_); (· rfl); (· rfl); (· rfl); (· exact B1.out)))
  refine (HO.out _ bel).mono ?_; rintro e w3 ⟨rfl, hb3⟩
  replace bel := Bx.then_below bel hb3
  replace B0 := Lib.hid (B0.out.keep hb3)
  replace B1 := Lib.hid (B1.out.keep hb3)
  replace B2 := Lib.hid (B2.out.keep hb3)
  clear hb3
  clear c0_0 c0_1 c0_2 c2_0 c2_1 c2_2 c2_3 c2_4 c2_5 c2_6
  obtain ⟨c0_0, c0_1, c0_2⟩ := B0.out.all3
  obtain ⟨c2_0, c2_1, c2_2, c2_3, c2_4, c2_5, c2_6⟩ := B2.out.all7
  go_wp2_with (first | ((with_reducible refine Mem.load_at ?_ ?_ (w.heap.size + 1) ?_ o k AP np cp ?_ ?_); (· rfl); (· rfl); (· rfl); (· exact B1.out)))
  refine (HW.out _).mono ?_; rintro e w' ⟨rfl, rfl⟩
  clear c0_0 c0_1 c0_2 c2_0 c2_1 c2_2 c2_3 c2_4 c2_5 c2_6
  obtain ⟨c0_0, c0_1, c0_2⟩ := B0.out.all3
  obtain ⟨c2_0, c2_1, c2_2, c2_3, c2_4, c2_5, c2_6⟩ := B2.out.all7
  go_wp2_with (first | ((with_reducible refine Mem.load_at ?_ ?_ (w.heap.size + 1) ?_ o k AP np cp ?_ ?_); (· rfl); (· rfl); (· rfl); (· exact B1.out)))
  refine (HF.out _ bel).mono ?_; rintro e w5 ⟨rfl, hb5⟩
  replace bel := Bx.then_below bel hb5
  replace B0 := Lib.hid (B0.out.keep hb5)
  replace B1 := Lib.hid (B1.out.keep hb5)
  replace B2 := Lib.hid (B2.out.keep hb5)
  clear hb5
  replace B0 := Lib.hid (B0.out.more (Obj.cells #[.int .i64 e1, .int .u64 e2, .int .i64 e3, .int .i64 e4] 62))
  replace B1 := Lib.hid (B1.out.more (Obj.cells #[.int .i64 e1, .int .u64 e2, .int .i64 e3, .int .i64 e4] 62))
  replace B2 := Lib.hid (B2.out.more (Obj.cells #[.int .i64 e1, .int .u64 e2, .int .i64 e3, .int .i64 e4] 62))
  have B3 := Lib.hid (Bx.Blk.new w5 [.int .i64 e1, .int .u64 e2, .int .i64 e3, .int .i64 e4] 62)
  replace bel := Bx.bel_box bel (Obj.cells #[.int .i64 e1, .int .u64 e2, .int .i64 e3, .int .i64 e4] 62)
  clear c0_0 c0_1 c0_2 c2_0 c2_1 c2_2 c2_3 c2_4 c2_5 c2_6
  obtain ⟨c0_0, c0_1, c0_2⟩ := B0.out.all3
  obtain ⟨c2_0, c2_1, c2_2, c2_3, c2_4, c2_5, c2_6⟩ := B2.out.all7
  obtain ⟨c3_0, c3_1, c3_2, c3_3⟩ := B3.out.all4
  go_wp2_with (first | ((with_reducible refine Mem.load_at ?_ ?_ (w.heap.size + 1) ?_ o k AP np cp ?_ ?_); (· rfl); (· rfl); (· rfl); (· exact B1.out)))
  refine (HG.out _).mono ?_; rintro e w' ⟨rfl, rfl⟩
  clear c0_0 c0_1 c0_2 c2_0 c2_1 c2_2 c2_3 c2_4 c2_5 c2_6 c3_0 c3_1 c3_2 c3_3
  obtain ⟨c0_0, c0_1, c0_2⟩ := B0.out.all3
  obtain ⟨c2_0, c2_1, c2_2, c2_3, c2_4, c2_5, c2_6⟩ := B2.out.all7
  obtain ⟨c3_0, c3_1, c3_2, c3_3⟩ := B3.out.all4
  go_wp2_with (first | ((with_reducible refine Mem.load_at ?_ ?_ (w.heap.size + 1) ?_ o k AP np cp ?_ ?_); (· rfl); (· rfl); (· rfl); (· exact B1.out)))
  go_ret
  exact ⟨rfl, bel⟩

set_option maxRecDepth 100000 in
set_option maxHeartbeats 4000000 in
theorem ports_new (most long : Int) (A : Option Addr) (n c : Nat) (o k : Nat → Int) (AP : Option Addr) (np cp : Nat) (d s : Int) (g : Bool) (p vv t : Int) (X : ByteArray) (v q op : Int) (F O : Int) (e1 : Int) (e2 : Nat) (e3 e4 : Int) (w : World)
    (HK : Hid (∀ w', Below w.heap.size w w' → Calls Tryd.prog 12 #[fr d s g p vv t X] w' fun e w'' => e = .returned (.int .i64 0) ∧ Below w'.heap.size w' w''))
    (HH : Hid (∀ w, Calls Tryd.prog 22 #[.int .i64 op, .int .i64 q] w fun e w' => e = .returned (.bool true) ∧ w = w'))
    (HO : Hid (∀ w', Below w.heap.size w w' → Calls Tryd.prog 27 #[Mem.pv o k AP np cp, .int .i64 v] w' fun e w'' => e = .returned (.int .i64 F) ∧ Below w'.heap.size w' w''))
    (HW : Hid (∀ w, Calls Tryd.prog 29 #[.int .i64 (bits .and .i64 F op), .int .i64 q] w fun e w' => e = .returned (.int .i64 O) ∧ w = w'))
    (HF : Hid (∀ w', Below w.heap.size w w' → Calls Tryd.prog 25 #[tv most long A n c, .int .i64 v, .int .u64 d] w' fun e w'' => e = .returned (.tuple #[.agg #[.int .i64 e1, .int .u64 e2, .int .i64 e3, .int .i64 e4], .bool false]) ∧ Below w'.heap.size w' w''))
    (HG : Hid (∀ w, Calls Tryd.prog 26 #[.int .u64 d] w fun e w' => e = .returned (.bool false) ∧ w = w')) :
    Calls Tryd.prog 16 #[tv most long A n c, Mem.pv o k AP np cp, fr d s g p vv t X, .int .i64 v, .int .i64 q, .int .i64 op] w fun e w' => e = .returned (.int .i64 O) ∧ Below w.heap.size w w' := by
  have bel := Bx.bel_refl w
  have B0 := Lib.hid (Bx.Blk.new w [.int .i64 most, .int .i64 long, .slice A n c] 24)
  replace bel := Bx.bel_box bel (Obj.cells #[.int .i64 most, .int .i64 long, .slice A n c] 24)
  obtain ⟨c0_0, c0_1, c0_2⟩ := B0.out.all3
  replace B0 := Lib.hid (B0.out.more (Obj.cells (Mem.pc o k AP np cp).toArray 28))
  have B1 := Lib.hid (Bx.Blk.new_at (W := (w.alloc (Obj.cells #[.int .i64 most, .int .i64 long, .slice A n c] 24))) (k := w.heap.size + 1) (Mem.pc o k AP np cp) 28 (by simp))
  replace bel := Bx.bel_box bel (Obj.cells (Mem.pc o k AP np cp).toArray 28)
  clear c0_0 c0_1 c0_2
  obtain ⟨c0_0, c0_1, c0_2⟩ := B0.out.all3
  replace B0 := Lib.hid (B0.out.more (Obj.cells #[.int .u64 d, .int .u64 s, .bool g, .int .i64 p, .int .i64 vv, .int .i64 t, .string X] 32))
  replace B1 := Lib.hid (B1.out.more (Obj.cells #[.int .u64 d, .int .u64 s, .bool g, .int .i64 p, .int .i64 vv, .int .i64 t, .string X] 32))
  have B2 := Lib.hid (Bx.Blk.new_at (W := ((w.alloc (Obj.cells #[.int .i64 most, .int .i64 long, .slice A n c] 24)).alloc (Obj.cells (Mem.pc o k AP np cp).toArray 28))) (k := w.heap.size + 2) [.int .u64 d, .int .u64 s, .bool g, .int .i64 p, .int .i64 vv, .int .i64 t, .string X] 32 (by simp))
  replace bel := Bx.bel_box bel (Obj.cells #[.int .u64 d, .int .u64 s, .bool g, .int .i64 p, .int .i64 vv, .int .i64 t, .string X] 32)
  clear c0_0 c0_1 c0_2
  obtain ⟨c0_0, c0_1, c0_2⟩ := B0.out.all3
  obtain ⟨c2_0, c2_1, c2_2, c2_3, c2_4, c2_5, c2_6⟩ := B2.out.all7
  go_enter Tryd.func16, Tryd.ntmps16
  go_wp2_with (first | ((with_reducible refine Mem.load_at ?_ ?_ (w.heap.size + 1) ?_ o k AP np cp ?_ ?_); (· rfl); (· rfl); (· rfl); (· exact B1.out)))
  refine (HK.out _ bel).mono ?_; rintro e w1 ⟨rfl, hb1⟩
  replace bel := Bx.then_below bel hb1
  replace B0 := Lib.hid (B0.out.keep hb1)
  replace B1 := Lib.hid (B1.out.keep hb1)
  replace B2 := Lib.hid (B2.out.keep hb1)
  clear hb1
  clear c0_0 c0_1 c0_2 c2_0 c2_1 c2_2 c2_3 c2_4 c2_5 c2_6
  obtain ⟨c0_0, c0_1, c0_2⟩ := B0.out.all3
  obtain ⟨c2_0, c2_1, c2_2, c2_3, c2_4, c2_5, c2_6⟩ := B2.out.all7
  go_wp2_with (first | ((with_reducible refine Mem.load_at ?_ ?_ (w.heap.size + 1) ?_ o k AP np cp ?_ ?_); (· rfl); (· rfl); (· rfl); (· exact B1.out)))
  refine (HH.out _).mono ?_; rintro e w' ⟨rfl, rfl⟩
  clear c0_0 c0_1 c0_2 c2_0 c2_1 c2_2 c2_3 c2_4 c2_5 c2_6
  obtain ⟨c0_0, c0_1, c0_2⟩ := B0.out.all3
  obtain ⟨c2_0, c2_1, c2_2, c2_3, c2_4, c2_5, c2_6⟩ := B2.out.all7
  go_wp2_with (first | ((with_reducible refine Mem.load_at ?_ ?_ (w.heap.size + 1) ?_ o k AP np cp ?_ ?_); (· rfl); (· rfl); (· rfl); (· exact B1.out)))
  refine (HO.out _ bel).mono ?_; rintro e w3 ⟨rfl, hb3⟩
  replace bel := Bx.then_below bel hb3
  replace B0 := Lib.hid (B0.out.keep hb3)
  replace B1 := Lib.hid (B1.out.keep hb3)
  replace B2 := Lib.hid (B2.out.keep hb3)
  clear hb3
  clear c0_0 c0_1 c0_2 c2_0 c2_1 c2_2 c2_3 c2_4 c2_5 c2_6
  obtain ⟨c0_0, c0_1, c0_2⟩ := B0.out.all3
  obtain ⟨c2_0, c2_1, c2_2, c2_3, c2_4, c2_5, c2_6⟩ := B2.out.all7
  go_wp2_with (first | ((with_reducible refine Mem.load_at ?_ ?_ (w.heap.size + 1) ?_ o k AP np cp ?_ ?_); (· rfl); (· rfl); (· rfl); (· exact B1.out)))
  refine (HW.out _).mono ?_; rintro e w' ⟨rfl, rfl⟩
  clear c0_0 c0_1 c0_2 c2_0 c2_1 c2_2 c2_3 c2_4 c2_5 c2_6
  obtain ⟨c0_0, c0_1, c0_2⟩ := B0.out.all3
  obtain ⟨c2_0, c2_1, c2_2, c2_3, c2_4, c2_5, c2_6⟩ := B2.out.all7
  go_wp2_with (first | ((with_reducible refine Mem.load_at ?_ ?_ (w.heap.size + 1) ?_ o k AP np cp ?_ ?_); (· rfl); (· rfl); (· rfl); (· exact B1.out)))
  refine (HF.out _ bel).mono ?_; rintro e w5 ⟨rfl, hb5⟩
  replace bel := Bx.then_below bel hb5
  replace B0 := Lib.hid (B0.out.keep hb5)
  replace B1 := Lib.hid (B1.out.keep hb5)
  replace B2 := Lib.hid (B2.out.keep hb5)
  clear hb5
  replace B0 := Lib.hid (B0.out.more (Obj.cells #[.int .i64 e1, .int .u64 e2, .int .i64 e3, .int .i64 e4] 62))
  replace B1 := Lib.hid (B1.out.more (Obj.cells #[.int .i64 e1, .int .u64 e2, .int .i64 e3, .int .i64 e4] 62))
  replace B2 := Lib.hid (B2.out.more (Obj.cells #[.int .i64 e1, .int .u64 e2, .int .i64 e3, .int .i64 e4] 62))
  have B3 := Lib.hid (Bx.Blk.new w5 [.int .i64 e1, .int .u64 e2, .int .i64 e3, .int .i64 e4] 62)
  replace bel := Bx.bel_box bel (Obj.cells #[.int .i64 e1, .int .u64 e2, .int .i64 e3, .int .i64 e4] 62)
  clear c0_0 c0_1 c0_2 c2_0 c2_1 c2_2 c2_3 c2_4 c2_5 c2_6
  obtain ⟨c0_0, c0_1, c0_2⟩ := B0.out.all3
  obtain ⟨c2_0, c2_1, c2_2, c2_3, c2_4, c2_5, c2_6⟩ := B2.out.all7
  obtain ⟨c3_0, c3_1, c3_2, c3_3⟩ := B3.out.all4
  go_wp2_with (first | ((with_reducible refine Mem.load_at ?_ ?_ (w.heap.size + 1) ?_ o k AP np cp ?_ ?_); (· rfl); (· rfl); (· rfl); (· exact B1.out)))
  refine (HG.out _).mono ?_; rintro e w' ⟨rfl, rfl⟩
  clear c0_0 c0_1 c0_2 c2_0 c2_1 c2_2 c2_3 c2_4 c2_5 c2_6 c3_0 c3_1 c3_2 c3_3
  obtain ⟨c0_0, c0_1, c0_2⟩ := B0.out.all3
  obtain ⟨c2_0, c2_1, c2_2, c2_3, c2_4, c2_5, c2_6⟩ := B2.out.all7
  obtain ⟨c3_0, c3_1, c3_2, c3_3⟩ := B3.out.all4
  go_wp2_with (first | ((with_reducible refine Mem.load_at ?_ ?_ (w.heap.size + 1) ?_ o k AP np cp ?_ ?_); (· rfl); (· rfl); (· rfl); (· exact B1.out)))
  go_ret
  exact ⟨rfl, bel⟩

set_option maxRecDepth 100000 in
set_option maxHeartbeats 4000000 in
theorem ports_at (most long : Int) (A : Option Addr) (n c : Nat) (o k : Nat → Int) (AP : Option Addr) (np cp : Nat) (d s : Int) (g : Bool) (p vv t : Int) (X : ByteArray) (v q op : Int) (F O : Int) (e1 : Int) (e2 : Nat) (e3 e4 : Int) (Z : Int) (w : World)
    (HK : Hid (∀ w', Below w.heap.size w w' → Calls Tryd.prog 12 #[fr d s g p vv t X] w' fun e w'' => e = .returned (.int .i64 0) ∧ Below w'.heap.size w' w''))
    (HH : Hid (∀ w, Calls Tryd.prog 22 #[.int .i64 op, .int .i64 q] w fun e w' => e = .returned (.bool true) ∧ w = w'))
    (HO : Hid (∀ w', Below w.heap.size w w' → Calls Tryd.prog 27 #[Mem.pv o k AP np cp, .int .i64 v] w' fun e w'' => e = .returned (.int .i64 F) ∧ Below w'.heap.size w' w''))
    (HW : Hid (∀ w, Calls Tryd.prog 29 #[.int .i64 (bits .and .i64 F op), .int .i64 q] w fun e w' => e = .returned (.int .i64 O) ∧ w = w'))
    (HF : Hid (∀ w', Below w.heap.size w w' → Calls Tryd.prog 25 #[tv most long A n c, .int .i64 v, .int .u64 d] w' fun e w'' => e = .returned (.tuple #[.agg #[.int .i64 e1, .int .u64 e2, .int .i64 e3, .int .i64 e4], .bool true]) ∧ Below w'.heap.size w' w''))
    (HG : Hid (∀ w, Calls Tryd.prog 26 #[.int .u64 d] w fun e w' => e = .returned (.bool false) ∧ w = w'))
    (HX : Hid (∀ w, Calls Tryd.prog 22 #[.int .i64 O, .int .i64 e3] w fun e w' => e = .returned (.bool true) ∧ w = w'))
    (HY : Hid (∀ w, Calls Tryd.prog 44 #[.int .i64 0, .int .i64 e3] w fun e w' => e = .returned (.int .i64 Z) ∧ w = w')) :
    Calls Tryd.prog 16 #[tv most long A n c, Mem.pv o k AP np cp, fr d s g p vv t X, .int .i64 v, .int .i64 q, .int .i64 op] w fun e w' => e = .returned (.int .i64 Z) ∧ Below w.heap.size w w' := by
  have bel := Bx.bel_refl w
  have B0 := Lib.hid (Bx.Blk.new w [.int .i64 most, .int .i64 long, .slice A n c] 24)
  replace bel := Bx.bel_box bel (Obj.cells #[.int .i64 most, .int .i64 long, .slice A n c] 24)
  obtain ⟨c0_0, c0_1, c0_2⟩ := B0.out.all3
  replace B0 := Lib.hid (B0.out.more (Obj.cells (Mem.pc o k AP np cp).toArray 28))
  have B1 := Lib.hid (Bx.Blk.new_at (W := (w.alloc (Obj.cells #[.int .i64 most, .int .i64 long, .slice A n c] 24))) (k := w.heap.size + 1) (Mem.pc o k AP np cp) 28 (by simp))
  replace bel := Bx.bel_box bel (Obj.cells (Mem.pc o k AP np cp).toArray 28)
  clear c0_0 c0_1 c0_2
  obtain ⟨c0_0, c0_1, c0_2⟩ := B0.out.all3
  replace B0 := Lib.hid (B0.out.more (Obj.cells #[.int .u64 d, .int .u64 s, .bool g, .int .i64 p, .int .i64 vv, .int .i64 t, .string X] 32))
  replace B1 := Lib.hid (B1.out.more (Obj.cells #[.int .u64 d, .int .u64 s, .bool g, .int .i64 p, .int .i64 vv, .int .i64 t, .string X] 32))
  have B2 := Lib.hid (Bx.Blk.new_at (W := ((w.alloc (Obj.cells #[.int .i64 most, .int .i64 long, .slice A n c] 24)).alloc (Obj.cells (Mem.pc o k AP np cp).toArray 28))) (k := w.heap.size + 2) [.int .u64 d, .int .u64 s, .bool g, .int .i64 p, .int .i64 vv, .int .i64 t, .string X] 32 (by simp))
  replace bel := Bx.bel_box bel (Obj.cells #[.int .u64 d, .int .u64 s, .bool g, .int .i64 p, .int .i64 vv, .int .i64 t, .string X] 32)
  clear c0_0 c0_1 c0_2
  obtain ⟨c0_0, c0_1, c0_2⟩ := B0.out.all3
  obtain ⟨c2_0, c2_1, c2_2, c2_3, c2_4, c2_5, c2_6⟩ := B2.out.all7
  go_enter Tryd.func16, Tryd.ntmps16
  go_wp2_with (first | ((with_reducible refine Mem.load_at ?_ ?_ (w.heap.size + 1) ?_ o k AP np cp ?_ ?_); (· rfl); (· rfl); (· rfl); (· exact B1.out)))
  refine (HK.out _ bel).mono ?_; rintro e w1 ⟨rfl, hb1⟩
  replace bel := Bx.then_below bel hb1
  replace B0 := Lib.hid (B0.out.keep hb1)
  replace B1 := Lib.hid (B1.out.keep hb1)
  replace B2 := Lib.hid (B2.out.keep hb1)
  clear hb1
  clear c0_0 c0_1 c0_2 c2_0 c2_1 c2_2 c2_3 c2_4 c2_5 c2_6
  obtain ⟨c0_0, c0_1, c0_2⟩ := B0.out.all3
  obtain ⟨c2_0, c2_1, c2_2, c2_3, c2_4, c2_5, c2_6⟩ := B2.out.all7
  go_wp2_with (first | ((with_reducible refine Mem.load_at ?_ ?_ (w.heap.size + 1) ?_ o k AP np cp ?_ ?_); (· rfl); (· rfl); (· rfl); (· exact B1.out)))
  refine (HH.out _).mono ?_; rintro e w' ⟨rfl, rfl⟩
  clear c0_0 c0_1 c0_2 c2_0 c2_1 c2_2 c2_3 c2_4 c2_5 c2_6
  obtain ⟨c0_0, c0_1, c0_2⟩ := B0.out.all3
  obtain ⟨c2_0, c2_1, c2_2, c2_3, c2_4, c2_5, c2_6⟩ := B2.out.all7
  go_wp2_with (first | ((with_reducible refine Mem.load_at ?_ ?_ (w.heap.size + 1) ?_ o k AP np cp ?_ ?_); (· rfl); (· rfl); (· rfl); (· exact B1.out)))
  refine (HO.out _ bel).mono ?_; rintro e w3 ⟨rfl, hb3⟩
  replace bel := Bx.then_below bel hb3
  replace B0 := Lib.hid (B0.out.keep hb3)
  replace B1 := Lib.hid (B1.out.keep hb3)
  replace B2 := Lib.hid (B2.out.keep hb3)
  clear hb3
  clear c0_0 c0_1 c0_2 c2_0 c2_1 c2_2 c2_3 c2_4 c2_5 c2_6
  obtain ⟨c0_0, c0_1, c0_2⟩ := B0.out.all3
  obtain ⟨c2_0, c2_1, c2_2, c2_3, c2_4, c2_5, c2_6⟩ := B2.out.all7
  go_wp2_with (first | ((with_reducible refine Mem.load_at ?_ ?_ (w.heap.size + 1) ?_ o k AP np cp ?_ ?_); (· rfl); (· rfl); (· rfl); (· exact B1.out)))
  refine (HW.out _).mono ?_; rintro e w' ⟨rfl, rfl⟩
  clear c0_0 c0_1 c0_2 c2_0 c2_1 c2_2 c2_3 c2_4 c2_5 c2_6
  obtain ⟨c0_0, c0_1, c0_2⟩ := B0.out.all3
  obtain ⟨c2_0, c2_1, c2_2, c2_3, c2_4, c2_5, c2_6⟩ := B2.out.all7
  go_wp2_with (first | ((with_reducible refine Mem.load_at ?_ ?_ (w.heap.size + 1) ?_ o k AP np cp ?_ ?_); (· rfl); (· rfl); (· rfl); (· exact B1.out)))
  refine (HF.out _ bel).mono ?_; rintro e w5 ⟨rfl, hb5⟩
  replace bel := Bx.then_below bel hb5
  replace B0 := Lib.hid (B0.out.keep hb5)
  replace B1 := Lib.hid (B1.out.keep hb5)
  replace B2 := Lib.hid (B2.out.keep hb5)
  clear hb5
  replace B0 := Lib.hid (B0.out.more (Obj.cells #[.int .i64 e1, .int .u64 e2, .int .i64 e3, .int .i64 e4] 62))
  replace B1 := Lib.hid (B1.out.more (Obj.cells #[.int .i64 e1, .int .u64 e2, .int .i64 e3, .int .i64 e4] 62))
  replace B2 := Lib.hid (B2.out.more (Obj.cells #[.int .i64 e1, .int .u64 e2, .int .i64 e3, .int .i64 e4] 62))
  have B3 := Lib.hid (Bx.Blk.new w5 [.int .i64 e1, .int .u64 e2, .int .i64 e3, .int .i64 e4] 62)
  replace bel := Bx.bel_box bel (Obj.cells #[.int .i64 e1, .int .u64 e2, .int .i64 e3, .int .i64 e4] 62)
  clear c0_0 c0_1 c0_2 c2_0 c2_1 c2_2 c2_3 c2_4 c2_5 c2_6
  obtain ⟨c0_0, c0_1, c0_2⟩ := B0.out.all3
  obtain ⟨c2_0, c2_1, c2_2, c2_3, c2_4, c2_5, c2_6⟩ := B2.out.all7
  obtain ⟨c3_0, c3_1, c3_2, c3_3⟩ := B3.out.all4
  go_wp2_with (first | ((with_reducible refine Mem.load_at ?_ ?_ (w.heap.size + 1) ?_ o k AP np cp ?_ ?_); (· rfl); (· rfl); (· rfl); (· exact B1.out)))
  refine (HG.out _).mono ?_; rintro e w' ⟨rfl, rfl⟩
  clear c0_0 c0_1 c0_2 c2_0 c2_1 c2_2 c2_3 c2_4 c2_5 c2_6 c3_0 c3_1 c3_2 c3_3
  obtain ⟨c0_0, c0_1, c0_2⟩ := B0.out.all3
  obtain ⟨c2_0, c2_1, c2_2, c2_3, c2_4, c2_5, c2_6⟩ := B2.out.all7
  obtain ⟨c3_0, c3_1, c3_2, c3_3⟩ := B3.out.all4
  go_wp2_with (first | ((with_reducible refine Mem.load_at ?_ ?_ (w.heap.size + 1) ?_ o k AP np cp ?_ ?_); (· rfl); (· rfl); (· rfl); (· exact B1.out)))
  refine (HX.out _).mono ?_; rintro e w' ⟨rfl, rfl⟩
  clear c0_0 c0_1 c0_2 c2_0 c2_1 c2_2 c2_3 c2_4 c2_5 c2_6 c3_0 c3_1 c3_2 c3_3
  obtain ⟨c0_0, c0_1, c0_2⟩ := B0.out.all3
  obtain ⟨c2_0, c2_1, c2_2, c2_3, c2_4, c2_5, c2_6⟩ := B2.out.all7
  obtain ⟨c3_0, c3_1, c3_2, c3_3⟩ := B3.out.all4
  go_wp2_with (first | ((with_reducible refine Mem.load_at ?_ ?_ (w.heap.size + 1) ?_ o k AP np cp ?_ ?_); (· rfl); (· rfl); (· rfl); (· exact B1.out)))
  refine (HY.out _).mono ?_; rintro e w' ⟨rfl, rfl⟩
  clear c0_0 c0_1 c0_2 c2_0 c2_1 c2_2 c2_3 c2_4 c2_5 c2_6 c3_0 c3_1 c3_2 c3_3
  obtain ⟨c0_0, c0_1, c0_2⟩ := B0.out.all3
  obtain ⟨c2_0, c2_1, c2_2, c2_3, c2_4, c2_5, c2_6⟩ := B2.out.all7
  obtain ⟨c3_0, c3_1, c3_2, c3_3⟩ := B3.out.all4
  go_wp2_with (first | ((with_reducible refine Mem.load_at ?_ ?_ (w.heap.size + 1) ?_ o k AP np cp ?_ ?_); (· rfl); (· rfl); (· rfl); (· exact B1.out)))
  go_ret
  exact ⟨rfl, bel⟩

set_option maxRecDepth 100000 in
set_option maxHeartbeats 4000000 in
theorem ports_off (most long : Int) (A : Option Addr) (n c : Nat) (o k : Nat → Int) (AP : Option Addr) (np cp : Nat) (d s : Int) (g : Bool) (p vv t : Int) (X : ByteArray) (v q op : Int) (F O : Int) (e1 : Int) (e2 : Nat) (e3 e4 : Int) (w : World)
    (HK : Hid (∀ w', Below w.heap.size w w' → Calls Tryd.prog 12 #[fr d s g p vv t X] w' fun e w'' => e = .returned (.int .i64 0) ∧ Below w'.heap.size w' w''))
    (HH : Hid (∀ w, Calls Tryd.prog 22 #[.int .i64 op, .int .i64 q] w fun e w' => e = .returned (.bool true) ∧ w = w'))
    (HO : Hid (∀ w', Below w.heap.size w w' → Calls Tryd.prog 27 #[Mem.pv o k AP np cp, .int .i64 v] w' fun e w'' => e = .returned (.int .i64 F) ∧ Below w'.heap.size w' w''))
    (HW : Hid (∀ w, Calls Tryd.prog 29 #[.int .i64 (bits .and .i64 F op), .int .i64 q] w fun e w' => e = .returned (.int .i64 O) ∧ w = w'))
    (HF : Hid (∀ w', Below w.heap.size w w' → Calls Tryd.prog 25 #[tv most long A n c, .int .i64 v, .int .u64 d] w' fun e w'' => e = .returned (.tuple #[.agg #[.int .i64 e1, .int .u64 e2, .int .i64 e3, .int .i64 e4], .bool true]) ∧ Below w'.heap.size w' w''))
    (HG : Hid (∀ w, Calls Tryd.prog 26 #[.int .u64 d] w fun e w' => e = .returned (.bool false) ∧ w = w'))
    (HX : Hid (∀ w, Calls Tryd.prog 22 #[.int .i64 O, .int .i64 e3] w fun e w' => e = .returned (.bool false) ∧ w = w')) :
    Calls Tryd.prog 16 #[tv most long A n c, Mem.pv o k AP np cp, fr d s g p vv t X, .int .i64 v, .int .i64 q, .int .i64 op] w fun e w' => e = .returned (.int .i64 0) ∧ Below w.heap.size w w' := by
  have bel := Bx.bel_refl w
  have B0 := Lib.hid (Bx.Blk.new w [.int .i64 most, .int .i64 long, .slice A n c] 24)
  replace bel := Bx.bel_box bel (Obj.cells #[.int .i64 most, .int .i64 long, .slice A n c] 24)
  obtain ⟨c0_0, c0_1, c0_2⟩ := B0.out.all3
  replace B0 := Lib.hid (B0.out.more (Obj.cells (Mem.pc o k AP np cp).toArray 28))
  have B1 := Lib.hid (Bx.Blk.new_at (W := (w.alloc (Obj.cells #[.int .i64 most, .int .i64 long, .slice A n c] 24))) (k := w.heap.size + 1) (Mem.pc o k AP np cp) 28 (by simp))
  replace bel := Bx.bel_box bel (Obj.cells (Mem.pc o k AP np cp).toArray 28)
  clear c0_0 c0_1 c0_2
  obtain ⟨c0_0, c0_1, c0_2⟩ := B0.out.all3
  replace B0 := Lib.hid (B0.out.more (Obj.cells #[.int .u64 d, .int .u64 s, .bool g, .int .i64 p, .int .i64 vv, .int .i64 t, .string X] 32))
  replace B1 := Lib.hid (B1.out.more (Obj.cells #[.int .u64 d, .int .u64 s, .bool g, .int .i64 p, .int .i64 vv, .int .i64 t, .string X] 32))
  have B2 := Lib.hid (Bx.Blk.new_at (W := ((w.alloc (Obj.cells #[.int .i64 most, .int .i64 long, .slice A n c] 24)).alloc (Obj.cells (Mem.pc o k AP np cp).toArray 28))) (k := w.heap.size + 2) [.int .u64 d, .int .u64 s, .bool g, .int .i64 p, .int .i64 vv, .int .i64 t, .string X] 32 (by simp))
  replace bel := Bx.bel_box bel (Obj.cells #[.int .u64 d, .int .u64 s, .bool g, .int .i64 p, .int .i64 vv, .int .i64 t, .string X] 32)
  clear c0_0 c0_1 c0_2
  obtain ⟨c0_0, c0_1, c0_2⟩ := B0.out.all3
  obtain ⟨c2_0, c2_1, c2_2, c2_3, c2_4, c2_5, c2_6⟩ := B2.out.all7
  go_enter Tryd.func16, Tryd.ntmps16
  go_wp2_with (first | ((with_reducible refine Mem.load_at ?_ ?_ (w.heap.size + 1) ?_ o k AP np cp ?_ ?_); (· rfl); (· rfl); (· rfl); (· exact B1.out)))
  refine (HK.out _ bel).mono ?_; rintro e w1 ⟨rfl, hb1⟩
  replace bel := Bx.then_below bel hb1
  replace B0 := Lib.hid (B0.out.keep hb1)
  replace B1 := Lib.hid (B1.out.keep hb1)
  replace B2 := Lib.hid (B2.out.keep hb1)
  clear hb1
  clear c0_0 c0_1 c0_2 c2_0 c2_1 c2_2 c2_3 c2_4 c2_5 c2_6
  obtain ⟨c0_0, c0_1, c0_2⟩ := B0.out.all3
  obtain ⟨c2_0, c2_1, c2_2, c2_3, c2_4, c2_5, c2_6⟩ := B2.out.all7
  go_wp2_with (first | ((with_reducible refine Mem.load_at ?_ ?_ (w.heap.size + 1) ?_ o k AP np cp ?_ ?_); (· rfl); (· rfl); (· rfl); (· exact B1.out)))
  refine (HH.out _).mono ?_; rintro e w' ⟨rfl, rfl⟩
  clear c0_0 c0_1 c0_2 c2_0 c2_1 c2_2 c2_3 c2_4 c2_5 c2_6
  obtain ⟨c0_0, c0_1, c0_2⟩ := B0.out.all3
  obtain ⟨c2_0, c2_1, c2_2, c2_3, c2_4, c2_5, c2_6⟩ := B2.out.all7
  go_wp2_with (first | ((with_reducible refine Mem.load_at ?_ ?_ (w.heap.size + 1) ?_ o k AP np cp ?_ ?_); (· rfl); (· rfl); (· rfl); (· exact B1.out)))
  refine (HO.out _ bel).mono ?_; rintro e w3 ⟨rfl, hb3⟩
  replace bel := Bx.then_below bel hb3
  replace B0 := Lib.hid (B0.out.keep hb3)
  replace B1 := Lib.hid (B1.out.keep hb3)
  replace B2 := Lib.hid (B2.out.keep hb3)
  clear hb3
  clear c0_0 c0_1 c0_2 c2_0 c2_1 c2_2 c2_3 c2_4 c2_5 c2_6
  obtain ⟨c0_0, c0_1, c0_2⟩ := B0.out.all3
  obtain ⟨c2_0, c2_1, c2_2, c2_3, c2_4, c2_5, c2_6⟩ := B2.out.all7
  go_wp2_with (first | ((with_reducible refine Mem.load_at ?_ ?_ (w.heap.size + 1) ?_ o k AP np cp ?_ ?_); (· rfl); (· rfl); (· rfl); (· exact B1.out)))
  refine (HW.out _).mono ?_; rintro e w' ⟨rfl, rfl⟩
  clear c0_0 c0_1 c0_2 c2_0 c2_1 c2_2 c2_3 c2_4 c2_5 c2_6
  obtain ⟨c0_0, c0_1, c0_2⟩ := B0.out.all3
  obtain ⟨c2_0, c2_1, c2_2, c2_3, c2_4, c2_5, c2_6⟩ := B2.out.all7
  go_wp2_with (first | ((with_reducible refine Mem.load_at ?_ ?_ (w.heap.size + 1) ?_ o k AP np cp ?_ ?_); (· rfl); (· rfl); (· rfl); (· exact B1.out)))
  refine (HF.out _ bel).mono ?_; rintro e w5 ⟨rfl, hb5⟩
  replace bel := Bx.then_below bel hb5
  replace B0 := Lib.hid (B0.out.keep hb5)
  replace B1 := Lib.hid (B1.out.keep hb5)
  replace B2 := Lib.hid (B2.out.keep hb5)
  clear hb5
  replace B0 := Lib.hid (B0.out.more (Obj.cells #[.int .i64 e1, .int .u64 e2, .int .i64 e3, .int .i64 e4] 62))
  replace B1 := Lib.hid (B1.out.more (Obj.cells #[.int .i64 e1, .int .u64 e2, .int .i64 e3, .int .i64 e4] 62))
  replace B2 := Lib.hid (B2.out.more (Obj.cells #[.int .i64 e1, .int .u64 e2, .int .i64 e3, .int .i64 e4] 62))
  have B3 := Lib.hid (Bx.Blk.new w5 [.int .i64 e1, .int .u64 e2, .int .i64 e3, .int .i64 e4] 62)
  replace bel := Bx.bel_box bel (Obj.cells #[.int .i64 e1, .int .u64 e2, .int .i64 e3, .int .i64 e4] 62)
  clear c0_0 c0_1 c0_2 c2_0 c2_1 c2_2 c2_3 c2_4 c2_5 c2_6
  obtain ⟨c0_0, c0_1, c0_2⟩ := B0.out.all3
  obtain ⟨c2_0, c2_1, c2_2, c2_3, c2_4, c2_5, c2_6⟩ := B2.out.all7
  obtain ⟨c3_0, c3_1, c3_2, c3_3⟩ := B3.out.all4
  go_wp2_with (first | ((with_reducible refine Mem.load_at ?_ ?_ (w.heap.size + 1) ?_ o k AP np cp ?_ ?_); (· rfl); (· rfl); (· rfl); (· exact B1.out)))
  refine (HG.out _).mono ?_; rintro e w' ⟨rfl, rfl⟩
  clear c0_0 c0_1 c0_2 c2_0 c2_1 c2_2 c2_3 c2_4 c2_5 c2_6 c3_0 c3_1 c3_2 c3_3
  obtain ⟨c0_0, c0_1, c0_2⟩ := B0.out.all3
  obtain ⟨c2_0, c2_1, c2_2, c2_3, c2_4, c2_5, c2_6⟩ := B2.out.all7
  obtain ⟨c3_0, c3_1, c3_2, c3_3⟩ := B3.out.all4
  go_wp2_with (first | ((with_reducible refine Mem.load_at ?_ ?_ (w.heap.size + 1) ?_ o k AP np cp ?_ ?_); (· rfl); (· rfl); (· rfl); (· exact B1.out)))
  refine (HX.out _).mono ?_; rintro e w' ⟨rfl, rfl⟩
  clear c0_0 c0_1 c0_2 c2_0 c2_1 c2_2 c2_3 c2_4 c2_5 c2_6 c3_0 c3_1 c3_2 c3_3
  obtain ⟨c0_0, c0_1, c0_2⟩ := B0.out.all3
  obtain ⟨c2_0, c2_1, c2_2, c2_3, c2_4, c2_5, c2_6⟩ := B2.out.all7
  obtain ⟨c3_0, c3_1, c3_2, c3_3⟩ := B3.out.all4
  go_wp2_with (first | ((with_reducible refine Mem.load_at ?_ ?_ (w.heap.size + 1) ?_ o k AP np cp ?_ ?_); (· rfl); (· rfl); (· rfl); (· exact B1.out)))
  go_ret
  exact ⟨rfl, bel⟩

set_option maxRecDepth 100000 in
set_option maxHeartbeats 4000000 in
theorem rports_kind (most long : Int) (A : Option Addr) (n c : Nat) (o k : Nat → Int) (AP : Option Addr) (np cp : Nat) (d s : Int) (g : Bool) (p vv t : Int) (X : ByteArray) (v q op : Int) (K : Int) (w : World) (hK : ¬ K = 0)
    (HK : Hid (∀ w', Below w.heap.size w w' → Calls Tryd.prog 13 #[fr d s g p vv t X] w' fun e w'' => e = .returned (.int .i64 K) ∧ Below w'.heap.size w' w'')) :
    Calls Tryd.prog 17 #[tv most long A n c, Mem.pv o k AP np cp, fr d s g p vv t X, .int .i64 v, .int .i64 q, .int .i64 op] w fun e w' => e = .returned (.int .i64 0) ∧ Below w.heap.size w w' := by
  have e1 : (K == 0) = false := by simpa using hK
  have e2 : (K != 0) = true := by simpa using hK
  have bel := Bx.bel_refl w
  have B0 := Lib.hid (Bx.Blk.new w [.int .i64 most, .int .i64 long, .slice A n c] 24)
  replace bel := Bx.bel_box bel (Obj.cells #[.int .i64 most, .int .i64 long, .slice A n c] 24)
  obtain ⟨c0_0, c0_1, c0_2⟩ := B0.out.all3
  replace B0 := Lib.hid (B0.out.more (Obj.cells (Mem.pc o k AP np cp).toArray 28))
  have B1 := Lib.hid (Bx.Blk.new_at (W := (w.alloc (Obj.cells #[.int .i64 most, .int .i64 long, .slice A n c] 24))) (k := w.heap.size + 1) (Mem.pc o k AP np cp) 28 (by simp))
  replace bel := Bx.bel_box bel (Obj.cells (Mem.pc o k AP np cp).toArray 28)
  clear c0_0 c0_1 c0_2
  obtain ⟨c0_0, c0_1, c0_2⟩ := B0.out.all3
  replace B0 := Lib.hid (B0.out.more (Obj.cells #[.int .u64 d, .int .u64 s, .bool g, .int .i64 p, .int .i64 vv, .int .i64 t, .string X] 32))
  replace B1 := Lib.hid (B1.out.more (Obj.cells #[.int .u64 d, .int .u64 s, .bool g, .int .i64 p, .int .i64 vv, .int .i64 t, .string X] 32))
  have B2 := Lib.hid (Bx.Blk.new_at (W := ((w.alloc (Obj.cells #[.int .i64 most, .int .i64 long, .slice A n c] 24)).alloc (Obj.cells (Mem.pc o k AP np cp).toArray 28))) (k := w.heap.size + 2) [.int .u64 d, .int .u64 s, .bool g, .int .i64 p, .int .i64 vv, .int .i64 t, .string X] 32 (by simp))
  replace bel := Bx.bel_box bel (Obj.cells #[.int .u64 d, .int .u64 s, .bool g, .int .i64 p, .int .i64 vv, .int .i64 t, .string X] 32)
  clear c0_0 c0_1 c0_2
  obtain ⟨c0_0, c0_1, c0_2⟩ := B0.out.all3
  obtain ⟨c2_0, c2_1, c2_2, c2_3, c2_4, c2_5, c2_6⟩ := B2.out.all7
  go_enter Tryd.func17, Tryd.ntmps17
  go_wp2_with (first | ((with_reducible refine Mem.load_at ?_ ?_ (w.heap.size + 1) ?_ o k AP np cp ?_ ?_); (· rfl); (· rfl); (· rfl); (· exact B1.out)))
  refine (HK.out _ bel).mono ?_; rintro e w1 ⟨rfl, hb1⟩
  replace bel := Bx.then_below bel hb1
  replace B0 := Lib.hid (B0.out.keep hb1)
  replace B1 := Lib.hid (B1.out.keep hb1)
  replace B2 := Lib.hid (B2.out.keep hb1)
  clear hb1
  clear c0_0 c0_1 c0_2 c2_0 c2_1 c2_2 c2_3 c2_4 c2_5 c2_6
  obtain ⟨c0_0, c0_1, c0_2⟩ := B0.out.all3
  obtain ⟨c2_0, c2_1, c2_2, c2_3, c2_4, c2_5, c2_6⟩ := B2.out.all7
  go_wp2_with (first | ((with_reducible refine Mem.load_at ?_ ?_ (w.heap.size + 1) ?_ o k AP np cp ?_ ?_); (· rfl); (· rfl); (· rfl); (· exact B1.out)))
  go_ret
  exact ⟨rfl, bel⟩

set_option maxRecDepth 100000 in
set_option maxHeartbeats 4000000 in
theorem rports_shut (most long : Int) (A : Option Addr) (n c : Nat) (o k : Nat → Int) (AP : Option Addr) (np cp : Nat) (d s : Int) (g : Bool) (p vv t : Int) (X : ByteArray) (v q op : Int) (w : World)
    (HK : Hid (∀ w', Below w.heap.size w w' → Calls Tryd.prog 13 #[fr d s g p vv t X] w' fun e w'' => e = .returned (.int .i64 0) ∧ Below w'.heap.size w' w''))
    (HH : Hid (∀ w, Calls Tryd.prog 42 #[.int .i64 op, .int .i64 q] w fun e w' => e = .returned (.bool false) ∧ w = w')) :
    Calls Tryd.prog 17 #[tv most long A n c, Mem.pv o k AP np cp, fr d s g p vv t X, .int .i64 v, .int .i64 q, .int .i64 op] w fun e w' => e = .returned (.int .i64 0) ∧ Below w.heap.size w w' := by
  have bel := Bx.bel_refl w
  have B0 := Lib.hid (Bx.Blk.new w [.int .i64 most, .int .i64 long, .slice A n c] 24)
  replace bel := Bx.bel_box bel (Obj.cells #[.int .i64 most, .int .i64 long, .slice A n c] 24)
  obtain ⟨c0_0, c0_1, c0_2⟩ := B0.out.all3
  replace B0 := Lib.hid (B0.out.more (Obj.cells (Mem.pc o k AP np cp).toArray 28))
  have B1 := Lib.hid (Bx.Blk.new_at (W := (w.alloc (Obj.cells #[.int .i64 most, .int .i64 long, .slice A n c] 24))) (k := w.heap.size + 1) (Mem.pc o k AP np cp) 28 (by simp))
  replace bel := Bx.bel_box bel (Obj.cells (Mem.pc o k AP np cp).toArray 28)
  clear c0_0 c0_1 c0_2
  obtain ⟨c0_0, c0_1, c0_2⟩ := B0.out.all3
  replace B0 := Lib.hid (B0.out.more (Obj.cells #[.int .u64 d, .int .u64 s, .bool g, .int .i64 p, .int .i64 vv, .int .i64 t, .string X] 32))
  replace B1 := Lib.hid (B1.out.more (Obj.cells #[.int .u64 d, .int .u64 s, .bool g, .int .i64 p, .int .i64 vv, .int .i64 t, .string X] 32))
  have B2 := Lib.hid (Bx.Blk.new_at (W := ((w.alloc (Obj.cells #[.int .i64 most, .int .i64 long, .slice A n c] 24)).alloc (Obj.cells (Mem.pc o k AP np cp).toArray 28))) (k := w.heap.size + 2) [.int .u64 d, .int .u64 s, .bool g, .int .i64 p, .int .i64 vv, .int .i64 t, .string X] 32 (by simp))
  replace bel := Bx.bel_box bel (Obj.cells #[.int .u64 d, .int .u64 s, .bool g, .int .i64 p, .int .i64 vv, .int .i64 t, .string X] 32)
  clear c0_0 c0_1 c0_2
  obtain ⟨c0_0, c0_1, c0_2⟩ := B0.out.all3
  obtain ⟨c2_0, c2_1, c2_2, c2_3, c2_4, c2_5, c2_6⟩ := B2.out.all7
  go_enter Tryd.func17, Tryd.ntmps17
  go_wp2_with (first | ((with_reducible refine Mem.load_at ?_ ?_ (w.heap.size + 1) ?_ o k AP np cp ?_ ?_); (· rfl); (· rfl); (· rfl); (· exact B1.out)))
  refine (HK.out _ bel).mono ?_; rintro e w1 ⟨rfl, hb1⟩
  replace bel := Bx.then_below bel hb1
  replace B0 := Lib.hid (B0.out.keep hb1)
  replace B1 := Lib.hid (B1.out.keep hb1)
  replace B2 := Lib.hid (B2.out.keep hb1)
  clear hb1
  clear c0_0 c0_1 c0_2 c2_0 c2_1 c2_2 c2_3 c2_4 c2_5 c2_6
  obtain ⟨c0_0, c0_1, c0_2⟩ := B0.out.all3
  obtain ⟨c2_0, c2_1, c2_2, c2_3, c2_4, c2_5, c2_6⟩ := B2.out.all7
  go_wp2_with (first | ((with_reducible refine Mem.load_at ?_ ?_ (w.heap.size + 1) ?_ o k AP np cp ?_ ?_); (· rfl); (· rfl); (· rfl); (· exact B1.out)))
  refine (HH.out _).mono ?_; rintro e w' ⟨rfl, rfl⟩
  clear c0_0 c0_1 c0_2 c2_0 c2_1 c2_2 c2_3 c2_4 c2_5 c2_6
  obtain ⟨c0_0, c0_1, c0_2⟩ := B0.out.all3
  obtain ⟨c2_0, c2_1, c2_2, c2_3, c2_4, c2_5, c2_6⟩ := B2.out.all7
  go_wp2_with (first | ((with_reducible refine Mem.load_at ?_ ?_ (w.heap.size + 1) ?_ o k AP np cp ?_ ?_); (· rfl); (· rfl); (· rfl); (· exact B1.out)))
  go_ret
  exact ⟨rfl, bel⟩

set_option maxRecDepth 100000 in
set_option maxHeartbeats 4000000 in
theorem rports_group (most long : Int) (A : Option Addr) (n c : Nat) (o k : Nat → Int) (AP : Option Addr) (np cp : Nat) (d s : Int) (g : Bool) (p vv t : Int) (X : ByteArray) (v q op : Int) (F O : Int) (w : World)
    (HK : Hid (∀ w', Below w.heap.size w w' → Calls Tryd.prog 13 #[fr d s g p vv t X] w' fun e w'' => e = .returned (.int .i64 0) ∧ Below w'.heap.size w' w''))
    (HH : Hid (∀ w, Calls Tryd.prog 42 #[.int .i64 op, .int .i64 q] w fun e w' => e = .returned (.bool true) ∧ w = w'))
    (HO : Hid (∀ w', Below w.heap.size w w' → Calls Tryd.prog 46 #[Mem.pv o k AP np cp, .int .i64 v] w' fun e w'' => e = .returned (.int .i64 F) ∧ Below w'.heap.size w' w''))
    (HW : Hid (∀ w, Calls Tryd.prog 45 #[.int .i64 (bits .and .i64 F op), .int .i64 q] w fun e w' => e = .returned (.int .i64 O) ∧ w = w'))
    (HG : Hid (∀ w, Calls Tryd.prog 31 #[.int .u64 d] w fun e w' => e = .returned (.bool true) ∧ w = w')) :
    Calls Tryd.prog 17 #[tv most long A n c, Mem.pv o k AP np cp, fr d s g p vv t X, .int .i64 v, .int .i64 q, .int .i64 op] w fun e w' => e = .returned (.int .i64 O) ∧ Below w.heap.size w w' := by
  have bel := Bx.bel_refl w
  have B0 := Lib.hid (Bx.Blk.new w [.int .i64 most, .int .i64 long, .slice A n c] 24)
  replace bel := Bx.bel_box bel (Obj.cells #[.int .i64 most, .int .i64 long, .slice A n c] 24)
  obtain ⟨c0_0, c0_1, c0_2⟩ := B0.out.all3
  replace B0 := Lib.hid (B0.out.more (Obj.cells (Mem.pc o k AP np cp).toArray 28))
  have B1 := Lib.hid (Bx.Blk.new_at (W := (w.alloc (Obj.cells #[.int .i64 most, .int .i64 long, .slice A n c] 24))) (k := w.heap.size + 1) (Mem.pc o k AP np cp) 28 (by simp))
  replace bel := Bx.bel_box bel (Obj.cells (Mem.pc o k AP np cp).toArray 28)
  clear c0_0 c0_1 c0_2
  obtain ⟨c0_0, c0_1, c0_2⟩ := B0.out.all3
  replace B0 := Lib.hid (B0.out.more (Obj.cells #[.int .u64 d, .int .u64 s, .bool g, .int .i64 p, .int .i64 vv, .int .i64 t, .string X] 32))
  replace B1 := Lib.hid (B1.out.more (Obj.cells #[.int .u64 d, .int .u64 s, .bool g, .int .i64 p, .int .i64 vv, .int .i64 t, .string X] 32))
  have B2 := Lib.hid (Bx.Blk.new_at (W := ((w.alloc (Obj.cells #[.int .i64 most, .int .i64 long, .slice A n c] 24)).alloc (Obj.cells (Mem.pc o k AP np cp).toArray 28))) (k := w.heap.size + 2) [.int .u64 d, .int .u64 s, .bool g, .int .i64 p, .int .i64 vv, .int .i64 t, .string X] 32 (by simp))
  replace bel := Bx.bel_box bel (Obj.cells #[.int .u64 d, .int .u64 s, .bool g, .int .i64 p, .int .i64 vv, .int .i64 t, .string X] 32)
  clear c0_0 c0_1 c0_2
  obtain ⟨c0_0, c0_1, c0_2⟩ := B0.out.all3
  obtain ⟨c2_0, c2_1, c2_2, c2_3, c2_4, c2_5, c2_6⟩ := B2.out.all7
  go_enter Tryd.func17, Tryd.ntmps17
  go_wp2_with (first | ((with_reducible refine Mem.load_at ?_ ?_ (w.heap.size + 1) ?_ o k AP np cp ?_ ?_); (· rfl); (· rfl); (· rfl); (· exact B1.out)))
  refine (HK.out _ bel).mono ?_; rintro e w1 ⟨rfl, hb1⟩
  replace bel := Bx.then_below bel hb1
  replace B0 := Lib.hid (B0.out.keep hb1)
  replace B1 := Lib.hid (B1.out.keep hb1)
  replace B2 := Lib.hid (B2.out.keep hb1)
  clear hb1
  clear c0_0 c0_1 c0_2 c2_0 c2_1 c2_2 c2_3 c2_4 c2_5 c2_6
  obtain ⟨c0_0, c0_1, c0_2⟩ := B0.out.all3
  obtain ⟨c2_0, c2_1, c2_2, c2_3, c2_4, c2_5, c2_6⟩ := B2.out.all7
  go_wp2_with (first | ((with_reducible refine Mem.load_at ?_ ?_ (w.heap.size + 1) ?_ o k AP np cp ?_ ?_); (· rfl); (· rfl); (· rfl); (· exact B1.out)))
  refine (HH.out _).mono ?_; rintro e w' ⟨rfl, rfl⟩
  clear c0_0 c0_1 c0_2 c2_0 c2_1 c2_2 c2_3 c2_4 c2_5 c2_6
  obtain ⟨c0_0, c0_1, c0_2⟩ := B0.out.all3
  obtain ⟨c2_0, c2_1, c2_2, c2_3, c2_4, c2_5, c2_6⟩ := B2.out.all7
  go_wp2_with (first | ((with_reducible refine Mem.load_at ?_ ?_ (w.heap.size + 1) ?_ o k AP np cp ?_ ?_); (· rfl); (· rfl); (· rfl); (· exact B1.out)))
  refine (HO.out _ bel).mono ?_; rintro e w3 ⟨rfl, hb3⟩
  replace bel := Bx.then_below bel hb3
  replace B0 := Lib.hid (B0.out.keep hb3)
  replace B1 := Lib.hid (B1.out.keep hb3)
  replace B2 := Lib.hid (B2.out.keep hb3)
  clear hb3
  clear c0_0 c0_1 c0_2 c2_0 c2_1 c2_2 c2_3 c2_4 c2_5 c2_6
  obtain ⟨c0_0, c0_1, c0_2⟩ := B0.out.all3
  obtain ⟨c2_0, c2_1, c2_2, c2_3, c2_4, c2_5, c2_6⟩ := B2.out.all7
  go_wp2_with (first | ((with_reducible refine Mem.load_at ?_ ?_ (w.heap.size + 1) ?_ o k AP np cp ?_ ?_); (· rfl); (· rfl); (· rfl); (· exact B1.out)))
  refine (HW.out _).mono ?_; rintro e w' ⟨rfl, rfl⟩
  clear c0_0 c0_1 c0_2 c2_0 c2_1 c2_2 c2_3 c2_4 c2_5 c2_6
  obtain ⟨c0_0, c0_1, c0_2⟩ := B0.out.all3
  obtain ⟨c2_0, c2_1, c2_2, c2_3, c2_4, c2_5, c2_6⟩ := B2.out.all7
  go_wp2_with (first | ((with_reducible refine Mem.load_at ?_ ?_ (w.heap.size + 1) ?_ o k AP np cp ?_ ?_); (· rfl); (· rfl); (· rfl); (· exact B1.out)))
  refine (HG.out _).mono ?_; rintro e w' ⟨rfl, rfl⟩
  clear c0_0 c0_1 c0_2 c2_0 c2_1 c2_2 c2_3 c2_4 c2_5 c2_6
  obtain ⟨c0_0, c0_1, c0_2⟩ := B0.out.all3
  obtain ⟨c2_0, c2_1, c2_2, c2_3, c2_4, c2_5, c2_6⟩ := B2.out.all7
  go_wp2_with (first | ((with_reducible refine Mem.load_at ?_ ?_ (w.heap.size + 1) ?_ o k AP np cp ?_ ?_); (· rfl); (· rfl); (· rfl); (· exact B1.out)))
  go_ret
  exact ⟨rfl, bel⟩

set_option maxRecDepth 100000 in
set_option maxHeartbeats 4000000 in
theorem rports_new (most long : Int) (A : Option Addr) (n c : Nat) (o k : Nat → Int) (AP : Option Addr) (np cp : Nat) (d s : Int) (g : Bool) (p vv t : Int) (X : ByteArray) (v q op : Int) (F O : Int) (e1 : Int) (e2 : Nat) (e3 e4 : Int) (w : World)
    (HK : Hid (∀ w', Below w.heap.size w w' → Calls Tryd.prog 13 #[fr d s g p vv t X] w' fun e w'' => e = .returned (.int .i64 0) ∧ Below w'.heap.size w' w''))
    (HH : Hid (∀ w, Calls Tryd.prog 42 #[.int .i64 op, .int .i64 q] w fun e w' => e = .returned (.bool true) ∧ w = w'))
    (HO : Hid (∀ w', Below w.heap.size w w' → Calls Tryd.prog 46 #[Mem.pv o k AP np cp, .int .i64 v] w' fun e w'' => e = .returned (.int .i64 F) ∧ Below w'.heap.size w' w''))
    (HW : Hid (∀ w, Calls Tryd.prog 45 #[.int .i64 (bits .and .i64 F op), .int .i64 q] w fun e w' => e = .returned (.int .i64 O) ∧ w = w'))
    (HF : Hid (∀ w', Below w.heap.size w w' → Calls Tryd.prog 47 #[tv most long A n c, .int .i64 v, .int .u64 d] w' fun e w'' => e = .returned (.tuple #[.agg #[.int .i64 e1, .int .u64 e2, .int .i64 e3, .int .i64 e4], .bool false]) ∧ Below w'.heap.size w' w''))
    (HG : Hid (∀ w, Calls Tryd.prog 31 #[.int .u64 d] w fun e w' => e = .returned (.bool false) ∧ w = w')) :
    Calls Tryd.prog 17 #[tv most long A n c, Mem.pv o k AP np cp, fr d s g p vv t X, .int .i64 v, .int .i64 q, .int .i64 op] w fun e w' => e = .returned (.int .i64 O) ∧ Below w.heap.size w w' := by
  have bel := Bx.bel_refl w
  have B0 := Lib.hid (Bx.Blk.new w [.int .i64 most, .int .i64 long, .slice A n c] 24)
  replace bel := Bx.bel_box bel (Obj.cells #[.int .i64 most, .int .i64 long, .slice A n c] 24)
  obtain ⟨c0_0, c0_1, c0_2⟩ := B0.out.all3
  replace B0 := Lib.hid (B0.out.more (Obj.cells (Mem.pc o k AP np cp).toArray 28))
  have B1 := Lib.hid (Bx.Blk.new_at (W := (w.alloc (Obj.cells #[.int .i64 most, .int .i64 long, .slice A n c] 24))) (k := w.heap.size + 1) (Mem.pc o k AP np cp) 28 (by simp))
  replace bel := Bx.bel_box bel (Obj.cells (Mem.pc o k AP np cp).toArray 28)
  clear c0_0 c0_1 c0_2
  obtain ⟨c0_0, c0_1, c0_2⟩ := B0.out.all3
  replace B0 := Lib.hid (B0.out.more (Obj.cells #[.int .u64 d, .int .u64 s, .bool g, .int .i64 p, .int .i64 vv, .int .i64 t, .string X] 32))
  replace B1 := Lib.hid (B1.out.more (Obj.cells #[.int .u64 d, .int .u64 s, .bool g, .int .i64 p, .int .i64 vv, .int .i64 t, .string X] 32))
  have B2 := Lib.hid (Bx.Blk.new_at (W := ((w.alloc (Obj.cells #[.int .i64 most, .int .i64 long, .slice A n c] 24)).alloc (Obj.cells (Mem.pc o k AP np cp).toArray 28))) (k := w.heap.size + 2) [.int .u64 d, .int .u64 s, .bool g, .int .i64 p, .int .i64 vv, .int .i64 t, .string X] 32 (by simp))
  replace bel := Bx.bel_box bel (Obj.cells #[.int .u64 d, .int .u64 s, .bool g, .int .i64 p, .int .i64 vv, .int .i64 t, .string X] 32)
  clear c0_0 c0_1 c0_2
  obtain ⟨c0_0, c0_1, c0_2⟩ := B0.out.all3
  obtain ⟨c2_0, c2_1, c2_2, c2_3, c2_4, c2_5, c2_6⟩ := B2.out.all7
  go_enter Tryd.func17, Tryd.ntmps17
  go_wp2_with (first | ((with_reducible refine Mem.load_at ?_ ?_ (w.heap.size + 1) ?_ o k AP np cp ?_ ?_); (· rfl); (· rfl); (· rfl); (· exact B1.out)))
  refine (HK.out _ bel).mono ?_; rintro e w1 ⟨rfl, hb1⟩
  replace bel := Bx.then_below bel hb1
  replace B0 := Lib.hid (B0.out.keep hb1)
  replace B1 := Lib.hid (B1.out.keep hb1)
  replace B2 := Lib.hid (B2.out.keep hb1)
  clear hb1
  clear c0_0 c0_1 c0_2 c2_0 c2_1 c2_2 c2_3 c2_4 c2_5 c2_6
  obtain ⟨c0_0, c0_1, c0_2⟩ := B0.out.all3
  obtain ⟨c2_0, c2_1, c2_2, c2_3, c2_4, c2_5, c2_6⟩ := B2.out.all7
  go_wp2_with (first | ((with_reducible refine Mem.load_at ?_ ?_ (w.heap.size + 1) ?_ o k AP np cp ?_ ?_); (· rfl); (· rfl); (· rfl); (· exact B1.out)))
  refine (HH.out _).mono ?_; rintro e w' ⟨rfl, rfl⟩
  clear c0_0 c0_1 c0_2 c2_0 c2_1 c2_2 c2_3 c2_4 c2_5 c2_6
  obtain ⟨c0_0, c0_1, c0_2⟩ := B0.out.all3
  obtain ⟨c2_0, c2_1, c2_2, c2_3, c2_4, c2_5, c2_6⟩ := B2.out.all7
  go_wp2_with (first | ((with_reducible refine Mem.load_at ?_ ?_ (w.heap.size + 1) ?_ o k AP np cp ?_ ?_); (· rfl); (· rfl); (· rfl); (· exact B1.out)))
  refine (HO.out _ bel).mono ?_; rintro e w3 ⟨rfl, hb3⟩
  replace bel := Bx.then_below bel hb3
  replace B0 := Lib.hid (B0.out.keep hb3)
  replace B1 := Lib.hid (B1.out.keep hb3)
  replace B2 := Lib.hid (B2.out.keep hb3)
  clear hb3
  clear c0_0 c0_1 c0_2 c2_0 c2_1 c2_2 c2_3 c2_4 c2_5 c2_6
  obtain ⟨c0_0, c0_1, c0_2⟩ := B0.out.all3
  obtain ⟨c2_0, c2_1, c2_2, c2_3, c2_4, c2_5, c2_6⟩ := B2.out.all7
  go_wp2_with (first | ((with_reducible refine Mem.load_at ?_ ?_ (w.heap.size + 1) ?_ o k AP np cp ?_ ?_); (· rfl); (· rfl); (· rfl); (· exact B1.out)))
  refine (HW.out _).mono ?_; rintro e w' ⟨rfl, rfl⟩
  clear c0_0 c0_1 c0_2 c2_0 c2_1 c2_2 c2_3 c2_4 c2_5 c2_6
  obtain ⟨c0_0, c0_1, c0_2⟩ := B0.out.all3
  obtain ⟨c2_0, c2_1, c2_2, c2_3, c2_4, c2_5, c2_6⟩ := B2.out.all7
  go_wp2_with (first | ((with_reducible refine Mem.load_at ?_ ?_ (w.heap.size + 1) ?_ o k AP np cp ?_ ?_); (· rfl); (· rfl); (· rfl); (· exact B1.out)))
  refine (HG.out _).mono ?_; rintro e w' ⟨rfl, rfl⟩
  clear c0_0 c0_1 c0_2 c2_0 c2_1 c2_2 c2_3 c2_4 c2_5 c2_6
  obtain ⟨c0_0, c0_1, c0_2⟩ := B0.out.all3
  obtain ⟨c2_0, c2_1, c2_2, c2_3, c2_4, c2_5, c2_6⟩ := B2.out.all7
  go_wp2_with (first | ((with_reducible refine Mem.load_at ?_ ?_ (w.heap.size + 1) ?_ o k AP np cp ?_ ?_); (· rfl); (· rfl); (· rfl); (· exact B1.out)))
  refine (HF.out _ bel).mono ?_; rintro e w6 ⟨rfl, hb6⟩
  replace bel := Bx.then_below bel hb6
  replace B0 := Lib.hid (B0.out.keep hb6)
  replace B1 := Lib.hid (B1.out.keep hb6)
  replace B2 := Lib.hid (B2.out.keep hb6)
  clear hb6
  replace B0 := Lib.hid (B0.out.more (Obj.cells #[.int .i64 e1, .int .u64 e2, .int .i64 e3, .int .i64 e4] 62))
  replace B1 := Lib.hid (B1.out.more (Obj.cells #[.int .i64 e1, .int .u64 e2, .int .i64 e3, .int .i64 e4] 62))
  replace B2 := Lib.hid (B2.out.more (Obj.cells #[.int .i64 e1, .int .u64 e2, .int .i64 e3, .int .i64 e4] 62))
  have B3 := Lib.hid (Bx.Blk.new w6 [.int .i64 e1, .int .u64 e2, .int .i64 e3, .int .i64 e4] 62)
  replace bel := Bx.bel_box bel (Obj.cells #[.int .i64 e1, .int .u64 e2, .int .i64 e3, .int .i64 e4] 62)
  clear c0_0 c0_1 c0_2 c2_0 c2_1 c2_2 c2_3 c2_4 c2_5 c2_6
  obtain ⟨c0_0, c0_1, c0_2⟩ := B0.out.all3
  obtain ⟨c2_0, c2_1, c2_2, c2_3, c2_4, c2_5, c2_6⟩ := B2.out.all7
  obtain ⟨c3_0, c3_1, c3_2, c3_3⟩ := B3.out.all4
  go_wp2_with (first | ((with_reducible refine Mem.load_at ?_ ?_ (w.heap.size + 1) ?_ o k AP np cp ?_ ?_); (· rfl); (· rfl); (· rfl); (· exact B1.out)))
  go_ret
  exact ⟨rfl, bel⟩

set_option maxRecDepth 100000 in
set_option maxHeartbeats 4000000 in
theorem rports_at (most long : Int) (A : Option Addr) (n c : Nat) (o k : Nat → Int) (AP : Option Addr) (np cp : Nat) (d s : Int) (g : Bool) (p vv t : Int) (X : ByteArray) (v q op : Int) (F O : Int) (e1 : Int) (e2 : Nat) (e3 e4 : Int) (Z : Int) (w : World)
    (HK : Hid (∀ w', Below w.heap.size w w' → Calls Tryd.prog 13 #[fr d s g p vv t X] w' fun e w'' => e = .returned (.int .i64 0) ∧ Below w'.heap.size w' w''))
    (HH : Hid (∀ w, Calls Tryd.prog 42 #[.int .i64 op, .int .i64 q] w fun e w' => e = .returned (.bool true) ∧ w = w'))
    (HO : Hid (∀ w', Below w.heap.size w w' → Calls Tryd.prog 46 #[Mem.pv o k AP np cp, .int .i64 v] w' fun e w'' => e = .returned (.int .i64 F) ∧ Below w'.heap.size w' w''))
    (HW : Hid (∀ w, Calls Tryd.prog 45 #[.int .i64 (bits .and .i64 F op), .int .i64 q] w fun e w' => e = .returned (.int .i64 O) ∧ w = w'))
    (HF : Hid (∀ w', Below w.heap.size w w' → Calls Tryd.prog 47 #[tv most long A n c, .int .i64 v, .int .u64 d] w' fun e w'' => e = .returned (.tuple #[.agg #[.int .i64 e1, .int .u64 e2, .int .i64 e3, .int .i64 e4], .bool true]) ∧ Below w'.heap.size w' w''))
    (HG : Hid (∀ w, Calls Tryd.prog 31 #[.int .u64 d] w fun e w' => e = .returned (.bool false) ∧ w = w'))
    (HX : Hid (∀ w, Calls Tryd.prog 42 #[.int .i64 O, .int .i64 e3] w fun e w' => e = .returned (.bool true) ∧ w = w'))
    (HY : Hid (∀ w, Calls Tryd.prog 48 #[.int .i64 0, .int .i64 e3] w fun e w' => e = .returned (.int .i64 Z) ∧ w = w')) :
    Calls Tryd.prog 17 #[tv most long A n c, Mem.pv o k AP np cp, fr d s g p vv t X, .int .i64 v, .int .i64 q, .int .i64 op] w fun e w' => e = .returned (.int .i64 Z) ∧ Below w.heap.size w w' := by
  have bel := Bx.bel_refl w
  have B0 := Lib.hid (Bx.Blk.new w [.int .i64 most, .int .i64 long, .slice A n c] 24)
  replace bel := Bx.bel_box bel (Obj.cells #[.int .i64 most, .int .i64 long, .slice A n c] 24)
  obtain ⟨c0_0, c0_1, c0_2⟩ := B0.out.all3
  replace B0 := Lib.hid (B0.out.more (Obj.cells (Mem.pc o k AP np cp).toArray 28))
  have B1 := Lib.hid (Bx.Blk.new_at (W := (w.alloc (Obj.cells #[.int .i64 most, .int .i64 long, .slice A n c] 24))) (k := w.heap.size + 1) (Mem.pc o k AP np cp) 28 (by simp))
  replace bel := Bx.bel_box bel (Obj.cells (Mem.pc o k AP np cp).toArray 28)
  clear c0_0 c0_1 c0_2
  obtain ⟨c0_0, c0_1, c0_2⟩ := B0.out.all3
  replace B0 := Lib.hid (B0.out.more (Obj.cells #[.int .u64 d, .int .u64 s, .bool g, .int .i64 p, .int .i64 vv, .int .i64 t, .string X] 32))
  replace B1 := Lib.hid (B1.out.more (Obj.cells #[.int .u64 d, .int .u64 s, .bool g, .int .i64 p, .int .i64 vv, .int .i64 t, .string X] 32))
  have B2 := Lib.hid (Bx.Blk.new_at (W := ((w.alloc (Obj.cells #[.int .i64 most, .int .i64 long, .slice A n c] 24)).alloc (Obj.cells (Mem.pc o k AP np cp).toArray 28))) (k := w.heap.size + 2) [.int .u64 d, .int .u64 s, .bool g, .int .i64 p, .int .i64 vv, .int .i64 t, .string X] 32 (by simp))
  replace bel := Bx.bel_box bel (Obj.cells #[.int .u64 d, .int .u64 s, .bool g, .int .i64 p, .int .i64 vv, .int .i64 t, .string X] 32)
  clear c0_0 c0_1 c0_2
  obtain ⟨c0_0, c0_1, c0_2⟩ := B0.out.all3
  obtain ⟨c2_0, c2_1, c2_2, c2_3, c2_4, c2_5, c2_6⟩ := B2.out.all7
  go_enter Tryd.func17, Tryd.ntmps17
  go_wp2_with (first | ((with_reducible refine Mem.load_at ?_ ?_ (w.heap.size + 1) ?_ o k AP np cp ?_ ?_); (· rfl); (· rfl); (· rfl); (· exact B1.out)))
  refine (HK.out _ bel).mono ?_; rintro e w1 ⟨rfl, hb1⟩
  replace bel := Bx.then_below bel hb1
  replace B0 := Lib.hid (B0.out.keep hb1)
  replace B1 := Lib.hid (B1.out.keep hb1)
  replace B2 := Lib.hid (B2.out.keep hb1)
  clear hb1
  clear c0_0 c0_1 c0_2 c2_0 c2_1 c2_2 c2_3 c2_4 c2_5 c2_6
  obtain ⟨c0_0, c0_1, c0_2⟩ := B0.out.all3
  obtain ⟨c2_0, c2_1, c2_2, c2_3, c2_4, c2_5, c2_6⟩ := B2.out.all7
  go_wp2_with (first | ((with_reducible refine Mem.load_at ?_ ?_ (w.heap.size + 1) ?_ o k AP np cp ?_ ?_); (· rfl); (· rfl); (· rfl); (· exact B1.out)))
  refine (HH.out _).mono ?_; rintro e w' ⟨rfl, rfl⟩
  clear c0_0 c0_1 c0_2 c2_0 c2_1 c2_2 c2_3 c2_4 c2_5 c2_6
  obtain ⟨c0_0, c0_1, c0_2⟩ := B0.out.all3
  obtain ⟨c2_0, c2_1, c2_2, c2_3, c2_4, c2_5, c2_6⟩ := B2.out.all7
  go_wp2_with (first | ((with_reducible refine Mem.load_at ?_ ?_ (w.heap.size + 1) ?_ o k AP np cp ?_ ?_); (· rfl); (· rfl); (· rfl); (· exact B1.out)))
  refine (HO.out _ bel).mono ?_; rintro e w3 ⟨rfl, hb3⟩
  replace bel := Bx.then_below bel hb3
  replace B0 := Lib.hid (B0.out.keep hb3)
  replace B1 := Lib.hid (B1.out.keep hb3)
  replace B2 := Lib.hid (B2.out.keep hb3)
  clear hb3
  clear c0_0 c0_1 c0_2 c2_0 c2_1 c2_2 c2_3 c2_4 c2_5 c2_6
  obtain ⟨c0_0, c0_1, c0_2⟩ := B0.out.all3
  obtain ⟨c2_0, c2_1, c2_2, c2_3, c2_4, c2_5, c2_6⟩ := B2.out.all7
  go_wp2_with (first | ((with_reducible refine Mem.load_at ?_ ?_ (w.heap.size + 1) ?_ o k AP np cp ?_ ?_); (· rfl); (· rfl); (· rfl); (· exact B1.out)))
  refine (HW.out _).mono ?_; rintro e w' ⟨rfl, rfl⟩
  clear c0_0 c0_1 c0_2 c2_0 c2_1 c2_2 c2_3 c2_4 c2_5 c2_6
  obtain ⟨c0_0, c0_1, c0_2⟩ := B0.out.all3
  obtain ⟨c2_0, c2_1, c2_2, c2_3, c2_4, c2_5, c2_6⟩ := B2.out.all7
  go_wp2_with (first | ((with_reducible refine Mem.load_at ?_ ?_ (w.heap.size + 1) ?_ o k AP np cp ?_ ?_); (· rfl); (· rfl); (· rfl); (· exact B1.out)))
  refine (HG.out _).mono ?_; rintro e w' ⟨rfl, rfl⟩
  clear c0_0 c0_1 c0_2 c2_0 c2_1 c2_2 c2_3 c2_4 c2_5 c2_6
  obtain ⟨c0_0, c0_1, c0_2⟩ := B0.out.all3
  obtain ⟨c2_0, c2_1, c2_2, c2_3, c2_4, c2_5, c2_6⟩ := B2.out.all7
  go_wp2_with (first | ((with_reducible refine Mem.load_at ?_ ?_ (w.heap.size + 1) ?_ o k AP np cp ?_ ?_); (· rfl); (· rfl); (· rfl); (· exact B1.out)))
  refine (HF.out _ bel).mono ?_; rintro e w6 ⟨rfl, hb6⟩
  replace bel := Bx.then_below bel hb6
  replace B0 := Lib.hid (B0.out.keep hb6)
  replace B1 := Lib.hid (B1.out.keep hb6)
  replace B2 := Lib.hid (B2.out.keep hb6)
  clear hb6
  replace B0 := Lib.hid (B0.out.more (Obj.cells #[.int .i64 e1, .int .u64 e2, .int .i64 e3, .int .i64 e4] 62))
  replace B1 := Lib.hid (B1.out.more (Obj.cells #[.int .i64 e1, .int .u64 e2, .int .i64 e3, .int .i64 e4] 62))
  replace B2 := Lib.hid (B2.out.more (Obj.cells #[.int .i64 e1, .int .u64 e2, .int .i64 e3, .int .i64 e4] 62))
  have B3 := Lib.hid (Bx.Blk.new w6 [.int .i64 e1, .int .u64 e2, .int .i64 e3, .int .i64 e4] 62)
  replace bel := Bx.bel_box bel (Obj.cells #[.int .i64 e1, .int .u64 e2, .int .i64 e3, .int .i64 e4] 62)
  clear c0_0 c0_1 c0_2 c2_0 c2_1 c2_2 c2_3 c2_4 c2_5 c2_6
  obtain ⟨c0_0, c0_1, c0_2⟩ := B0.out.all3
  obtain ⟨c2_0, c2_1, c2_2, c2_3, c2_4, c2_5, c2_6⟩ := B2.out.all7
  obtain ⟨c3_0, c3_1, c3_2, c3_3⟩ := B3.out.all4
  go_wp2_with (first | ((with_reducible refine Mem.load_at ?_ ?_ (w.heap.size + 1) ?_ o k AP np cp ?_ ?_); (· rfl); (· rfl); (· rfl); (· exact B1.out)))
  refine (HX.out _).mono ?_; rintro e w' ⟨rfl, rfl⟩
  clear c0_0 c0_1 c0_2 c2_0 c2_1 c2_2 c2_3 c2_4 c2_5 c2_6 c3_0 c3_1 c3_2 c3_3
  obtain ⟨c0_0, c0_1, c0_2⟩ := B0.out.all3
  obtain ⟨c2_0, c2_1, c2_2, c2_3, c2_4, c2_5, c2_6⟩ := B2.out.all7
  obtain ⟨c3_0, c3_1, c3_2, c3_3⟩ := B3.out.all4
  go_wp2_with (first | ((with_reducible refine Mem.load_at ?_ ?_ (w.heap.size + 1) ?_ o k AP np cp ?_ ?_); (· rfl); (· rfl); (· rfl); (· exact B1.out)))
  refine (HY.out _).mono ?_; rintro e w' ⟨rfl, rfl⟩
  clear c0_0 c0_1 c0_2 c2_0 c2_1 c2_2 c2_3 c2_4 c2_5 c2_6 c3_0 c3_1 c3_2 c3_3
  obtain ⟨c0_0, c0_1, c0_2⟩ := B0.out.all3
  obtain ⟨c2_0, c2_1, c2_2, c2_3, c2_4, c2_5, c2_6⟩ := B2.out.all7
  obtain ⟨c3_0, c3_1, c3_2, c3_3⟩ := B3.out.all4
  go_wp2_with (first | ((with_reducible refine Mem.load_at ?_ ?_ (w.heap.size + 1) ?_ o k AP np cp ?_ ?_); (· rfl); (· rfl); (· rfl); (· exact B1.out)))
  go_ret
  exact ⟨rfl, bel⟩

set_option maxRecDepth 100000 in
set_option maxHeartbeats 4000000 in
theorem rports_off (most long : Int) (A : Option Addr) (n c : Nat) (o k : Nat → Int) (AP : Option Addr) (np cp : Nat) (d s : Int) (g : Bool) (p vv t : Int) (X : ByteArray) (v q op : Int) (F O : Int) (e1 : Int) (e2 : Nat) (e3 e4 : Int) (w : World)
    (HK : Hid (∀ w', Below w.heap.size w w' → Calls Tryd.prog 13 #[fr d s g p vv t X] w' fun e w'' => e = .returned (.int .i64 0) ∧ Below w'.heap.size w' w''))
    (HH : Hid (∀ w, Calls Tryd.prog 42 #[.int .i64 op, .int .i64 q] w fun e w' => e = .returned (.bool true) ∧ w = w'))
    (HO : Hid (∀ w', Below w.heap.size w w' → Calls Tryd.prog 46 #[Mem.pv o k AP np cp, .int .i64 v] w' fun e w'' => e = .returned (.int .i64 F) ∧ Below w'.heap.size w' w''))
    (HW : Hid (∀ w, Calls Tryd.prog 45 #[.int .i64 (bits .and .i64 F op), .int .i64 q] w fun e w' => e = .returned (.int .i64 O) ∧ w = w'))
    (HF : Hid (∀ w', Below w.heap.size w w' → Calls Tryd.prog 47 #[tv most long A n c, .int .i64 v, .int .u64 d] w' fun e w'' => e = .returned (.tuple #[.agg #[.int .i64 e1, .int .u64 e2, .int .i64 e3, .int .i64 e4], .bool true]) ∧ Below w'.heap.size w' w''))
    (HG : Hid (∀ w, Calls Tryd.prog 31 #[.int .u64 d] w fun e w' => e = .returned (.bool false) ∧ w = w'))
    (HX : Hid (∀ w, Calls Tryd.prog 42 #[.int .i64 O, .int .i64 e3] w fun e w' => e = .returned (.bool false) ∧ w = w')) :
    Calls Tryd.prog 17 #[tv most long A n c, Mem.pv o k AP np cp, fr d s g p vv t X, .int .i64 v, .int .i64 q, .int .i64 op] w fun e w' => e = .returned (.int .i64 0) ∧ Below w.heap.size w w' := by
  have bel := Bx.bel_refl w
  have B0 := Lib.hid (Bx.Blk.new w [.int .i64 most, .int .i64 long, .slice A n c] 24)
  replace bel := Bx.bel_box bel (Obj.cells #[.int .i64 most, .int .i64 long, .slice A n c] 24)
  obtain ⟨c0_0, c0_1, c0_2⟩ := B0.out.all3
  replace B0 := Lib.hid (B0.out.more (Obj.cells (Mem.pc o k AP np cp).toArray 28))
  have B1 := Lib.hid (Bx.Blk.new_at (W := (w.alloc (Obj.cells #[.int .i64 most, .int .i64 long, .slice A n c] 24))) (k := w.heap.size + 1) (Mem.pc o k AP np cp) 28 (by simp))
  replace bel := Bx.bel_box bel (Obj.cells (Mem.pc o k AP np cp).toArray 28)
  clear c0_0 c0_1 c0_2
  obtain ⟨c0_0, c0_1, c0_2⟩ := B0.out.all3
  replace B0 := Lib.hid (B0.out.more (Obj.cells #[.int .u64 d, .int .u64 s, .bool g, .int .i64 p, .int .i64 vv, .int .i64 t, .string X] 32))
  replace B1 := Lib.hid (B1.out.more (Obj.cells #[.int .u64 d, .int .u64 s, .bool g, .int .i64 p, .int .i64 vv, .int .i64 t, .string X] 32))
  have B2 := Lib.hid (Bx.Blk.new_at (W := ((w.alloc (Obj.cells #[.int .i64 most, .int .i64 long, .slice A n c] 24)).alloc (Obj.cells (Mem.pc o k AP np cp).toArray 28))) (k := w.heap.size + 2) [.int .u64 d, .int .u64 s, .bool g, .int .i64 p, .int .i64 vv, .int .i64 t, .string X] 32 (by simp))
  replace bel := Bx.bel_box bel (Obj.cells #[.int .u64 d, .int .u64 s, .bool g, .int .i64 p, .int .i64 vv, .int .i64 t, .string X] 32)
  clear c0_0 c0_1 c0_2
  obtain ⟨c0_0, c0_1, c0_2⟩ := B0.out.all3
  obtain ⟨c2_0, c2_1, c2_2, c2_3, c2_4, c2_5, c2_6⟩ := B2.out.all7
  go_enter Tryd.func17, Tryd.ntmps17
  go_wp2_with (first | ((with_reducible refine Mem.load_at ?_ ?_ (w.heap.size + 1) ?_ o k AP np cp ?_ ?_); (· rfl); (· rfl); (· rfl); (· exact B1.out)))
  refine (HK.out _ bel).mono ?_; rintro e w1 ⟨rfl, hb1⟩
  replace bel := Bx.then_below bel hb1
  replace B0 := Lib.hid (B0.out.keep hb1)
  replace B1 := Lib.hid (B1.out.keep hb1)
  replace B2 := Lib.hid (B2.out.keep hb1)
  clear hb1
  clear c0_0 c0_1 c0_2 c2_0 c2_1 c2_2 c2_3 c2_4 c2_5 c2_6
  obtain ⟨c0_0, c0_1, c0_2⟩ := B0.out.all3
  obtain ⟨c2_0, c2_1, c2_2, c2_3, c2_4, c2_5, c2_6⟩ := B2.out.all7
  go_wp2_with (first | ((with_reducible refine Mem.load_at ?_ ?_ (w.heap.size + 1) ?_ o k AP np cp ?_ ?_); (· rfl); (· rfl); (· rfl); (· exact B1.out)))
  refine (HH.out _).mono ?_; rintro e w' ⟨rfl, rfl⟩
  clear c0_0 c0_1 c0_2 c2_0 c2_1 c2_2 c2_3 c2_4 c2_5 c2_6
  obtain ⟨c0_0, c0_1, c0_2⟩ := B0.out.all3
  obtain ⟨c2_0, c2_1, c2_2, c2_3, c2_4, c2_5, c2_6⟩ := B2.out.all7
  go_wp2_with (first | ((with_reducible refine Mem.load_at ?_ ?_ (w.heap.size + 1) ?_ o k AP np cp ?_ ?_); (· rfl); (· rfl); (· rfl); (· exact B1.out)))
  refine (HO.out _ bel).mono ?_; rintro e w3 ⟨rfl, hb3⟩
  replace bel := Bx.then_below bel hb3
  replace B0 := Lib.hid (B0.out.keep hb3)
  replace B1 := Lib.hid (B1.out.keep hb3)
  replace B2 := Lib.hid (B2.out.keep hb3)
  clear hb3
  clear c0_0 c0_1 c0_2 c2_0 c2_1 c2_2 c2_3 c2_4 c2_5 c2_6
  obtain ⟨c0_0, c0_1, c0_2⟩ := B0.out.all3
  obtain ⟨c2_0, c2_1, c2_2, c2_3, c2_4, c2_5, c2_6⟩ := B2.out.all7
  go_wp2_with (first | ((with_reducible refine Mem.load_at ?_ ?_ (w.heap.size + 1) ?_ o k AP np cp ?_ ?_); (· rfl); (· rfl); (· rfl); (· exact B1.out)))
  refine (HW.out _).mono ?_; rintro e w' ⟨rfl, rfl⟩
  clear c0_0 c0_1 c0_2 c2_0 c2_1 c2_2 c2_3 c2_4 c2_5 c2_6
  obtain ⟨c0_0, c0_1, c0_2⟩ := B0.out.all3
  obtain ⟨c2_0, c2_1, c2_2, c2_3, c2_4, c2_5, c2_6⟩ := B2.out.all7
  go_wp2_with (first | ((with_reducible refine Mem.load_at ?_ ?_ (w.heap.size + 1) ?_ o k AP np cp ?_ ?_); (· rfl); (· rfl); (· rfl); (· exact B1.out)))
  refine (HG.out _).mono ?_; rintro e w' ⟨rfl, rfl⟩
  clear c0_0 c0_1 c0_2 c2_0 c2_1 c2_2 c2_3 c2_4 c2_5 c2_6
  obtain ⟨c0_0, c0_1, c0_2⟩ := B0.out.all3
  obtain ⟨c2_0, c2_1, c2_2, c2_3, c2_4, c2_5, c2_6⟩ := B2.out.all7
  go_wp2_with (first | ((with_reducible refine Mem.load_at ?_ ?_ (w.heap.size + 1) ?_ o k AP np cp ?_ ?_); (· rfl); (· rfl); (· rfl); (· exact B1.out)))
  refine (HF.out _ bel).mono ?_; rintro e w6 ⟨rfl, hb6⟩
  replace bel := Bx.then_below bel hb6
  replace B0 := Lib.hid (B0.out.keep hb6)
  replace B1 := Lib.hid (B1.out.keep hb6)
  replace B2 := Lib.hid (B2.out.keep hb6)
  clear hb6
  replace B0 := Lib.hid (B0.out.more (Obj.cells #[.int .i64 e1, .int .u64 e2, .int .i64 e3, .int .i64 e4] 62))
  replace B1 := Lib.hid (B1.out.more (Obj.cells #[.int .i64 e1, .int .u64 e2, .int .i64 e3, .int .i64 e4] 62))
  replace B2 := Lib.hid (B2.out.more (Obj.cells #[.int .i64 e1, .int .u64 e2, .int .i64 e3, .int .i64 e4] 62))
  have B3 := Lib.hid (Bx.Blk.new w6 [.int .i64 e1, .int .u64 e2, .int .i64 e3, .int .i64 e4] 62)
  replace bel := Bx.bel_box bel (Obj.cells #[.int .i64 e1, .int .u64 e2, .int .i64 e3, .int .i64 e4] 62)
  clear c0_0 c0_1 c0_2 c2_0 c2_1 c2_2 c2_3 c2_4 c2_5 c2_6
  obtain ⟨c0_0, c0_1, c0_2⟩ := B0.out.all3
  obtain ⟨c2_0, c2_1, c2_2, c2_3, c2_4, c2_5, c2_6⟩ := B2.out.all7
  obtain ⟨c3_0, c3_1, c3_2, c3_3⟩ := B3.out.all4
  go_wp2_with (first | ((with_reducible refine Mem.load_at ?_ ?_ (w.heap.size + 1) ?_ o k AP np cp ?_ ?_); (· rfl); (· rfl); (· rfl); (· exact B1.out)))
  refine (HX.out _).mono ?_; rintro e w' ⟨rfl, rfl⟩
  clear c0_0 c0_1 c0_2 c2_0 c2_1 c2_2 c2_3 c2_4 c2_5 c2_6 c3_0 c3_1 c3_2 c3_3
  obtain ⟨c0_0, c0_1, c0_2⟩ := B0.out.all3
  obtain ⟨c2_0, c2_1, c2_2, c2_3, c2_4, c2_5, c2_6⟩ := B2.out.all7
  obtain ⟨c3_0, c3_1, c3_2, c3_3⟩ := B3.out.all4
  go_wp2_with (first | ((with_reducible refine Mem.load_at ?_ ?_ (w.heap.size + 1) ?_ o k AP np cp ?_ ?_); (· rfl); (· rfl); (· rfl); (· exact B1.out)))
  go_ret
  exact ⟨rfl, bel⟩

theorem ports_hit {l : List Tab.En} {L : List Mem.Vl} {t : Int} {d : Nat} {v q op : Int} (hk : kindN t d = 0) (ho : Por.hasZ (Por.low op) q = true) (hg : Mac.groupB d = false) (hi : isE l v d = true) (hx : Por.hasZ (Por.low (othersI L v op q)) (gotE l v d).p = true) : portsI l L t d v q op = Por.withI 0 (gotE l v d).p := by
  unfold portsI
  rw [if_pos ⟨hk, ho⟩, if_neg (by rw [hg, hi]; simp), if_pos hx]

theorem ports_miss {l : List Tab.En} {L : List Mem.Vl} {t : Int} {d : Nat} {v q op : Int} (hk : kindN t d = 0) (ho : Por.hasZ (Por.low op) q = true) (hg : Mac.groupB d = false) (hi : isE l v d = true) (hx : Por.hasZ (Por.low (othersI L v op q)) (gotE l v d).p = false) : portsI l L t d v q op = 0 := by
  unfold portsI
  rw [if_pos ⟨hk, ho⟩, if_neg (by rw [hg, hi]; simp), if_neg (by rw [hx]; simp)]

theorem ports_any (most long : Int) (l : List Tab.En) (hl : l.length ≤ maxLen) (A : Option Addr) (c : Nat) (o k : Nat → Int) (L : List Mem.Vl) (hL : L.length ≤ maxLen) (AP : Option Addr) (cp : Nat) (d : Nat) (hd : d < 18446744073709551616) (s : Int) (g : Bool) (p vv t : Int) (X : ByteArray) (v q op : Int) (w : World) (hA : Tab.Ents w A l) (hP : Mem.Vls w AP L) (hm : Home w) :
    Calls Tryd.prog 16 #[tv most long A l.length c, Mem.pv o k AP L.length cp, fr d s g p vv t X, .int .i64 v, .int .i64 q, .int .i64 op] w fun e w' => e = .returned (.int .i64 (portsI l L t d v q op)) ∧ Below w.heap.size w w' := by
  have HK := Lib.hid (fun w' (hb : Below w.heap.size w w') => kind_any d s g p vv t X w' (hm.below hb))
  have HH := Lib.hid (fun w => Por.has_any op q w)
  by_cases hk : kindN t d = 0
  · rw [hk] at HK
    cases ho : Por.hasZ (Por.low op) q with
    | false =>
      rw [ho] at HH
      rw [ports_none (by rw [ho]; simp)]
      exact ports_shut most long A l.length c o k AP L.length cp d s g p vv t X v q op w HK HH
    | true =>
      rw [ho] at HH
      have HO := Lib.hid (fun w' (hb : Below w.heap.size w w') => Mem.of_any o k L hL AP cp v w' (hP.below hb))
      have HW := Lib.hid (fun w => Por.without_any (bits .and .i64 (Mem.ofV L v) op) q w)
      have HF := Lib.hid (fun w' (hb : Below w.heap.size w w') => Tab.find_any most long l hl v d A c w' (hA.below hb))
      have HG := Lib.hid (fun w => Mac.group_any d hd w)
      cases hg : Mac.groupB d with
      | true =>
        rw [hg] at HG
        rw [ports_all hk ho (.inl hg)]
        exact ports_group most long A l.length c o k AP L.length cp d s g p vv t X v q op _ _ (gotE l v d).v (gotE l v d).m (gotE l v d).p (gotE l v d).a _ w HK HH HO HW HF HG
      | false =>
        rw [hg] at HG
        cases hi : isE l v d with
        | false =>
          rw [hi] at HF
          rw [ports_all hk ho (.inr hi)]
          exact ports_new most long A l.length c o k AP L.length cp d s g p vv t X v q op _ _ (gotE l v d).v (gotE l v d).m (gotE l v d).p (gotE l v d).a w HK HH HO HW HF HG
        | true =>
          rw [hi] at HF
          have HX := Lib.hid (fun w => Por.has_any (othersI L v op q) (gotE l v d).p w)
          cases hx : Por.hasZ (Por.low (othersI L v op q)) (gotE l v d).p with
          | true =>
            rw [hx] at HX
            rw [ports_hit hk ho hg hi hx]
            exact ports_at most long A l.length c o k AP L.length cp d s g p vv t X v q op _ _ (gotE l v d).v (gotE l v d).m (gotE l v d).p (gotE l v d).a _ w HK HH HO HW HF HG HX (Lib.hid fun w => Por.with_any 0 (gotE l v d).p w)
          | false =>
            rw [hx] at HX
            rw [ports_miss hk ho hg hi hx]
            exact ports_off most long A l.length c o k AP L.length cp d s g p vv t X v q op _ _ (gotE l v d).v (gotE l v d).m (gotE l v d).p (gotE l v d).a w HK HH HO HW HF HG HX
  · rw [ports_none (fun h => hk h.1)]
    exact ports_kind most long A l.length c o k AP L.length cp d s g p vv t X v q op _ w hk HK

theorem rports_any (most long : Int) (l : List Tab.En) (hl : l.length ≤ maxLen) (A : Option Addr) (c : Nat) (o k : Nat → Int) (L : List Mem.Vl) (hL : L.length ≤ maxLen) (AP : Option Addr) (cp : Nat) (d : Nat) (hd : d < 18446744073709551616) (s : Int) (g : Bool) (p vv t : Int) (X : ByteArray) (v q op : Int) (w : World) (hA : Tab.Ents w A l) (hP : Mem.Vls w AP L)  :
    Calls Tryd.prog 17 #[tv most long A l.length c, Mem.pv o k AP L.length cp, fr d s g p vv t X, .int .i64 v, .int .i64 q, .int .i64 op] w fun e w' => e = .returned (.int .i64 (portsI l L t d v q op)) ∧ Below w.heap.size w w' := by
  have HK := Lib.hid (fun w' (hb : Below w.heap.size w w') => rkind_any d hd s g p vv t X w')
  have HH := Lib.hid (fun w => Por.rhas_any op q w)
  by_cases hk : kindN t d = 0
  · rw [hk] at HK
    cases ho : Por.hasZ (Por.low op) q with
    | false =>
      rw [ho] at HH
      rw [ports_none (by rw [ho]; simp)]
      exact rports_shut most long A l.length c o k AP L.length cp d s g p vv t X v q op w HK HH
    | true =>
      rw [ho] at HH
      have HO := Lib.hid (fun w' (hb : Below w.heap.size w w') => Mem.rof_any o k L hL AP cp v w' (hP.below hb))
      have HW := Lib.hid (fun w => Por.rwithout_any (bits .and .i64 (Mem.ofV L v) op) q w)
      have HF := Lib.hid (fun w' (hb : Below w.heap.size w w') => Tab.rfind_any most long l hl v d A c w' (hA.below hb))
      have HG := Lib.hid (fun w => Mac.rgroup_any d hd w)
      cases hg : Mac.groupB d with
      | true =>
        rw [hg] at HG
        rw [ports_all hk ho (.inl hg)]
        exact rports_group most long A l.length c o k AP L.length cp d s g p vv t X v q op _ _ w HK HH HO HW HG
      | false =>
        rw [hg] at HG
        cases hi : isE l v d with
        | false =>
          rw [hi] at HF
          rw [ports_all hk ho (.inr hi)]
          exact rports_new most long A l.length c o k AP L.length cp d s g p vv t X v q op _ _ (gotE l v d).v (gotE l v d).m (gotE l v d).p (gotE l v d).a w HK HH HO HW HF HG
        | true =>
          rw [hi] at HF
          have HX := Lib.hid (fun w => Por.rhas_any (othersI L v op q) (gotE l v d).p w)
          cases hx : Por.hasZ (Por.low (othersI L v op q)) (gotE l v d).p with
          | true =>
            rw [hx] at HX
            rw [ports_hit hk ho hg hi hx]
            exact rports_at most long A l.length c o k AP L.length cp d s g p vv t X v q op _ _ (gotE l v d).v (gotE l v d).m (gotE l v d).p (gotE l v d).a _ w HK HH HO HW HF HG HX (Lib.hid fun w => Por.rwith_any 0 (gotE l v d).p w)
          | false =>
            rw [hx] at HX
            rw [ports_miss hk ho hg hi hx]
            exact rports_off most long A l.length c o k AP L.length cp d s g p vv t X v q op _ _ (gotE l v d).v (gotE l v d).m (gotE l v d).p (gotE l v d).a w HK HH HO HW HF HG HX
  · rw [ports_none (fun h => hk h.1)]
    exact rports_kind most long A l.length c o k AP L.length cp d s g p vv t X v q op _ w hk HK

end Fwd
end Go.Proofs.YtmojegnflcokjaaDoor
