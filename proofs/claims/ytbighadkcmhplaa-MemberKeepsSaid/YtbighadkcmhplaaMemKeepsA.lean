/-
  The law MemberKeeps, way by way.
-/
import Derived.Test.YtbighadkcmhplaaMemL
import Derived.Test.YtbighadkcmhplaaMemK
namespace Go.Proofs.Ytbighadkcmhplaa
open Go.RowKit
namespace Mem
open Oct Eth

set_option maxRecDepth 100000 in
set_option maxHeartbeats 4000000 in
theorem keeps_big1 (o k : Nat → Int) (A : Option Addr) (n c : Nat) (d s : Int) (g : Bool) (p v t : Int) (X : ByteArray) (a b m : Int) (w : World)
    (HL : Hid (∀ w', Below w.heap.size w w' → Calls Try.prog 5 #[pv o k A n c] w' fun e w'' => e = .returned (.bool true) ∧ Below w'.heap.size w' w'')) :
    Calls Try.prog 4 #[pv o k A n c, fr d s g p v t X, .agg #[.int .i64 a, .int .i64 b, .int .i64 m]] w fun e w' => e = .returned (.bool true) ∧ Below w.heap.size w w' := by
  have bel := Bx.bel_refl w
  have B0 := Lib.hid (Bx.Blk.new w (pc o k A n c) 25)
  replace bel := Bx.bel_box bel (Obj.cells (pc o k A n c).toArray 25)
  replace B0 := Lib.hid (B0.out.more (Obj.cells #[.int .u64 d, .int .u64 s, .bool g, .int .i64 p, .int .i64 v, .int .i64 t, .string X] 29))
  have B1 := Lib.hid (Bx.Blk.new_at (W := (w.alloc (Obj.cells (pc o k A n c).toArray 25))) (k := w.heap.size + 1) [.int .u64 d, .int .u64 s, .bool g, .int .i64 p, .int .i64 v, .int .i64 t, .string X] 29 (by simp))
  replace bel := Bx.bel_box bel (Obj.cells #[.int .u64 d, .int .u64 s, .bool g, .int .i64 p, .int .i64 v, .int .i64 t, .string X] 29)
  obtain ⟨c1_0, c1_1, c1_2, c1_3, c1_4, c1_5, c1_6⟩ := B1.out.all7
  replace B0 := Lib.hid (B0.out.more (Obj.cells #[.int .i64 a, .int .i64 b, .int .i64 m] 45))
  replace B1 := Lib.hid (B1.out.more (Obj.cells #[.int .i64 a, .int .i64 b, .int .i64 m] 45))
  have B2 := Lib.hid (Bx.Blk.new_at (W := ((w.alloc (Obj.cells (pc o k A n c).toArray 25)).alloc (Obj.cells #[.int .u64 d, .int .u64 s, .bool g, .int .i64 p, .int .i64 v, .int .i64 t, .string X] 29))) (k := w.heap.size + 2) [.int .i64 a, .int .i64 b, .int .i64 m] 45 (by simp))
  replace bel := Bx.bel_box bel (Obj.cells #[.int .i64 a, .int .i64 b, .int .i64 m] 45)
  clear c1_0 c1_1 c1_2 c1_3 c1_4 c1_5 c1_6
  obtain ⟨c1_0, c1_1, c1_2, c1_3, c1_4, c1_5, c1_6⟩ := B1.out.all7
  obtain ⟨c2_0, c2_1, c2_2⟩ := B2.out.all3
  go_enter Try.func4, Try.ntmps4
  go_wp2_with (first | ((with_reducible refine load_at ?_ ?_ (w.heap.size) ?_ o k A n c ?_ ?_); (· rfl); (· rfl); (· rfl); (· exact B0.out)))
  refine (HL.out _ bel).mono ?_; rintro e w1 ⟨rfl, hb1⟩
  replace bel := Bx.then_below bel hb1
  replace B0 := Lib.hid (B0.out.keep hb1)
  replace B1 := Lib.hid (B1.out.keep hb1)
  replace B2 := Lib.hid (B2.out.keep hb1)
  clear hb1
  clear c1_0 c1_1 c1_2 c1_3 c1_4 c1_5 c1_6 c2_0 c2_1 c2_2
  obtain ⟨c1_0, c1_1, c1_2, c1_3, c1_4, c1_5, c1_6⟩ := B1.out.all7
  obtain ⟨c2_0, c2_1, c2_2⟩ := B2.out.all3
  go_wp2_with (first | ((with_reducible refine load_at ?_ ?_ (w.heap.size) ?_ o k A n c ?_ ?_); (· rfl); (· rfl); (· rfl); (· exact B0.out)))
  refine (awake_any _).mono ?_; rintro e w2 ⟨rfl, hb2⟩
  replace bel := Bx.then_below bel hb2
  replace B0 := Lib.hid (B0.out.keep hb2)
  replace B1 := Lib.hid (B1.out.keep hb2)
  replace B2 := Lib.hid (B2.out.keep hb2)
  clear hb2
  go_wp2_with (first | ((with_reducible refine load_at ?_ ?_ (w.heap.size) ?_ o k A n c ?_ ?_); (· rfl); (· rfl); (· rfl); (· exact B0.out)))
  go_ret
  exact ⟨rfl, bel⟩

set_option maxRecDepth 100000 in
set_option maxHeartbeats 4000000 in
theorem keeps_big2 (o k : Nat → Int) (A : Option Addr) (n c : Nat) (d s : Int) (g : Bool) (p v t : Int) (X : ByteArray) (a b m : Int) (w : World)
    (HL : Hid (∀ w', Below w.heap.size w w' → Calls Try.prog 5 #[pv o k A n c] w' fun e w'' => e = .returned (.bool false) ∧ Below w'.heap.size w' w''))
    (HR : Hid (∀ w', Below w.heap.size w w' → Calls Try.prog 13 #[pv o k A n c] w' fun e w'' => e = .returned (.bool false) ∧ Below w'.heap.size w' w'')) :
    Calls Try.prog 4 #[pv o k A n c, fr d s g p v t X, .agg #[.int .i64 a, .int .i64 b, .int .i64 m]] w fun e w' => e = .returned (.bool true) ∧ Below w.heap.size w w' := by
  have bel := Bx.bel_refl w
  have B0 := Lib.hid (Bx.Blk.new w (pc o k A n c) 25)
  replace bel := Bx.bel_box bel (Obj.cells (pc o k A n c).toArray 25)
  replace B0 := Lib.hid (B0.out.more (Obj.cells #[.int .u64 d, .int .u64 s, .bool g, .int .i64 p, .int .i64 v, .int .i64 t, .string X] 29))
  have B1 := Lib.hid (Bx.Blk.new_at (W := (w.alloc (Obj.cells (pc o k A n c).toArray 25))) (k := w.heap.size + 1) [.int .u64 d, .int .u64 s, .bool g, .int .i64 p, .int .i64 v, .int .i64 t, .string X] 29 (by simp))
  replace bel := Bx.bel_box bel (Obj.cells #[.int .u64 d, .int .u64 s, .bool g, .int .i64 p, .int .i64 v, .int .i64 t, .string X] 29)
  obtain ⟨c1_0, c1_1, c1_2, c1_3, c1_4, c1_5, c1_6⟩ := B1.out.all7
  replace B0 := Lib.hid (B0.out.more (Obj.cells #[.int .i64 a, .int .i64 b, .int .i64 m] 45))
  replace B1 := Lib.hid (B1.out.more (Obj.cells #[.int .i64 a, .int .i64 b, .int .i64 m] 45))
  have B2 := Lib.hid (Bx.Blk.new_at (W := ((w.alloc (Obj.cells (pc o k A n c).toArray 25)).alloc (Obj.cells #[.int .u64 d, .int .u64 s, .bool g, .int .i64 p, .int .i64 v, .int .i64 t, .string X] 29))) (k := w.heap.size + 2) [.int .i64 a, .int .i64 b, .int .i64 m] 45 (by simp))
  replace bel := Bx.bel_box bel (Obj.cells #[.int .i64 a, .int .i64 b, .int .i64 m] 45)
  clear c1_0 c1_1 c1_2 c1_3 c1_4 c1_5 c1_6
  obtain ⟨c1_0, c1_1, c1_2, c1_3, c1_4, c1_5, c1_6⟩ := B1.out.all7
  obtain ⟨c2_0, c2_1, c2_2⟩ := B2.out.all3
  go_enter Try.func4, Try.ntmps4
  go_wp2_with (first | ((with_reducible refine load_at ?_ ?_ (w.heap.size) ?_ o k A n c ?_ ?_); (· rfl); (· rfl); (· rfl); (· exact B0.out)))
  refine (HL.out _ bel).mono ?_; rintro e w1 ⟨rfl, hb1⟩
  replace bel := Bx.then_below bel hb1
  replace B0 := Lib.hid (B0.out.keep hb1)
  replace B1 := Lib.hid (B1.out.keep hb1)
  replace B2 := Lib.hid (B2.out.keep hb1)
  clear hb1
  clear c1_0 c1_1 c1_2 c1_3 c1_4 c1_5 c1_6 c2_0 c2_1 c2_2
  obtain ⟨c1_0, c1_1, c1_2, c1_3, c1_4, c1_5, c1_6⟩ := B1.out.all7
  obtain ⟨c2_0, c2_1, c2_2⟩ := B2.out.all3
  go_wp2_with (first | ((with_reducible refine load_at ?_ ?_ (w.heap.size) ?_ o k A n c ?_ ?_); (· rfl); (· rfl); (· rfl); (· exact B0.out)))
  refine (HR.out _ bel).mono ?_; rintro e w2 ⟨rfl, hb2⟩
  replace bel := Bx.then_below bel hb2
  replace B0 := Lib.hid (B0.out.keep hb2)
  replace B1 := Lib.hid (B1.out.keep hb2)
  replace B2 := Lib.hid (B2.out.keep hb2)
  clear hb2
  clear c1_0 c1_1 c1_2 c1_3 c1_4 c1_5 c1_6 c2_0 c2_1 c2_2
  obtain ⟨c1_0, c1_1, c1_2, c1_3, c1_4, c1_5, c1_6⟩ := B1.out.all7
  obtain ⟨c2_0, c2_1, c2_2⟩ := B2.out.all3
  go_wp2_with (first | ((with_reducible refine load_at ?_ ?_ (w.heap.size) ?_ o k A n c ?_ ?_); (· rfl); (· rfl); (· rfl); (· exact B0.out)))
  refine (awake_any _).mono ?_; rintro e w3 ⟨rfl, hb3⟩
  replace bel := Bx.then_below bel hb3
  replace B0 := Lib.hid (B0.out.keep hb3)
  replace B1 := Lib.hid (B1.out.keep hb3)
  replace B2 := Lib.hid (B2.out.keep hb3)
  clear hb3
  go_wp2_with (first | ((with_reducible refine load_at ?_ ?_ (w.heap.size) ?_ o k A n c ?_ ?_); (· rfl); (· rfl); (· rfl); (· exact B0.out)))
  go_ret
  exact ⟨rfl, bel⟩

set_option maxRecDepth 100000 in
set_option maxHeartbeats 4000000 in
theorem keeps_big3 (o k : Nat → Int) (A : Option Addr) (n c : Nat) (d s : Int) (g : Bool) (p v t : Int) (X : ByteArray) (a b m : Int) (w : World) (hX : 12000 < X.size)
    (HL : Hid (∀ w', Below w.heap.size w w' → Calls Try.prog 5 #[pv o k A n c] w' fun e w'' => e = .returned (.bool false) ∧ Below w'.heap.size w' w''))
    (HR : Hid (∀ w', Below w.heap.size w w' → Calls Try.prog 13 #[pv o k A n c] w' fun e w'' => e = .returned (.bool true) ∧ Below w'.heap.size w' w'')) :
    Calls Try.prog 4 #[pv o k A n c, fr d s g p v t X, .agg #[.int .i64 a, .int .i64 b, .int .i64 m]] w fun e w' => e = .returned (.bool true) ∧ Below w.heap.size w w' := by
  have bel := Bx.bel_refl w
  have B0 := Lib.hid (Bx.Blk.new w (pc o k A n c) 25)
  replace bel := Bx.bel_box bel (Obj.cells (pc o k A n c).toArray 25)
  replace B0 := Lib.hid (B0.out.more (Obj.cells #[.int .u64 d, .int .u64 s, .bool g, .int .i64 p, .int .i64 v, .int .i64 t, .string X] 29))
  have B1 := Lib.hid (Bx.Blk.new_at (W := (w.alloc (Obj.cells (pc o k A n c).toArray 25))) (k := w.heap.size + 1) [.int .u64 d, .int .u64 s, .bool g, .int .i64 p, .int .i64 v, .int .i64 t, .string X] 29 (by simp))
  replace bel := Bx.bel_box bel (Obj.cells #[.int .u64 d, .int .u64 s, .bool g, .int .i64 p, .int .i64 v, .int .i64 t, .string X] 29)
  obtain ⟨c1_0, c1_1, c1_2, c1_3, c1_4, c1_5, c1_6⟩ := B1.out.all7
  replace B0 := Lib.hid (B0.out.more (Obj.cells #[.int .i64 a, .int .i64 b, .int .i64 m] 45))
  replace B1 := Lib.hid (B1.out.more (Obj.cells #[.int .i64 a, .int .i64 b, .int .i64 m] 45))
  have B2 := Lib.hid (Bx.Blk.new_at (W := ((w.alloc (Obj.cells (pc o k A n c).toArray 25)).alloc (Obj.cells #[.int .u64 d, .int .u64 s, .bool g, .int .i64 p, .int .i64 v, .int .i64 t, .string X] 29))) (k := w.heap.size + 2) [.int .i64 a, .int .i64 b, .int .i64 m] 45 (by simp))
  replace bel := Bx.bel_box bel (Obj.cells #[.int .i64 a, .int .i64 b, .int .i64 m] 45)
  clear c1_0 c1_1 c1_2 c1_3 c1_4 c1_5 c1_6
  obtain ⟨c1_0, c1_1, c1_2, c1_3, c1_4, c1_5, c1_6⟩ := B1.out.all7
  obtain ⟨c2_0, c2_1, c2_2⟩ := B2.out.all3
  go_enter Try.func4, Try.ntmps4
  go_wp2_with (first | ((with_reducible refine load_at ?_ ?_ (w.heap.size) ?_ o k A n c ?_ ?_); (· rfl); (· rfl); (· rfl); (· exact B0.out)))
  refine (HL.out _ bel).mono ?_; rintro e w1 ⟨rfl, hb1⟩
  replace bel := Bx.then_below bel hb1
  replace B0 := Lib.hid (B0.out.keep hb1)
  replace B1 := Lib.hid (B1.out.keep hb1)
  replace B2 := Lib.hid (B2.out.keep hb1)
  clear hb1
  clear c1_0 c1_1 c1_2 c1_3 c1_4 c1_5 c1_6 c2_0 c2_1 c2_2
  obtain ⟨c1_0, c1_1, c1_2, c1_3, c1_4, c1_5, c1_6⟩ := B1.out.all7
  obtain ⟨c2_0, c2_1, c2_2⟩ := B2.out.all3
  go_wp2_with (first | ((with_reducible refine load_at ?_ ?_ (w.heap.size) ?_ o k A n c ?_ ?_); (· rfl); (· rfl); (· rfl); (· exact B0.out)))
  refine (HR.out _ bel).mono ?_; rintro e w2 ⟨rfl, hb2⟩
  replace bel := Bx.then_below bel hb2
  replace B0 := Lib.hid (B0.out.keep hb2)
  replace B1 := Lib.hid (B1.out.keep hb2)
  replace B2 := Lib.hid (B2.out.keep hb2)
  clear hb2
  clear c1_0 c1_1 c1_2 c1_3 c1_4 c1_5 c1_6 c2_0 c2_1 c2_2
  obtain ⟨c1_0, c1_1, c1_2, c1_3, c1_4, c1_5, c1_6⟩ := B1.out.all7
  obtain ⟨c2_0, c2_1, c2_2⟩ := B2.out.all3
  go_wp2_with (first | ((with_reducible refine load_at ?_ ?_ (w.heap.size) ?_ o k A n c ?_ ?_); (· rfl); (· rfl); (· rfl); (· exact B0.out)))
  refine (awake_any _).mono ?_; rintro e w3 ⟨rfl, hb3⟩
  replace bel := Bx.then_below bel hb3
  replace B0 := Lib.hid (B0.out.keep hb3)
  replace B1 := Lib.hid (B1.out.keep hb3)
  replace B2 := Lib.hid (B2.out.keep hb3)
  clear hb3
  go_wp2_with (first | ((with_reducible refine load_at ?_ ?_ (w.heap.size) ?_ o k A n c ?_ ?_); (· rfl); (· rfl); (· rfl); (· exact B0.out)))
  go_ret
  exact ⟨rfl, bel⟩

theorem rem_eight (n : Int) : ∃ r : Nat, r < 8 ∧ wrap64 ((IntKind.u64.wrap n).tmod 8) = r := by
  have h0 : 0 ≤ IntKind.u64.wrap n := by rw [IntKind.wrap_u64]; omega
  refine ⟨((IntKind.u64.wrap n) % 8).toNat, by omega, ?_⟩
  rw [Int.tmod_eq_emod_of_nonneg h0]
  unfold wrap64
  omega

end Mem
end Go.Proofs.Ytbighadkcmhplaa
