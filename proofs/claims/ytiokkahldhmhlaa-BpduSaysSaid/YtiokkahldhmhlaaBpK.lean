/-
  What bpdu.Wrap and bpdu.Of answer; and that they change nothing that was there.
-/
import Derived.Test.YtiokkahldhmhlaaBpE
import Derived.Test.YtiokkahldhmhlaaBpJ
import Derived.Test.YtiokkahldhmhlaaEthA
namespace Go.Proofs.Ytiokkahldhmhlaa
open Go.RowKit
namespace Bpd
open Oct Mac Eth Epl

set_option maxHeartbeats 1000000 in
theorem wrap_wrong (x : Int) (b : Bp) (w : World)
    (HB : Hid (∀ w, Calls Try.prog 7 #[bp b] w fun e w' => e = .returned (.tuple #[.string ⟨#[]⟩, .int .i64 1]) ∧ Below w.heap.size w w')) :
    Calls Try.prog 11 #[.int .u64 x, bp b] w fun e w' => e = .returned (.tuple #[fr 0 0 false 0 0 0 ⟨#[]⟩, .int .i64 1]) ∧ Below w.heap.size w w' := by
  have bel := Bx.bel_box (Bx.box_below w (Obj.cells (bpl b).toArray 26)) (Obj.cells #[.int .u64 0, .int .u64 0, .bool false, .int .i64 0, .int .i64 0, .int .i64 0, .string ⟨#[]⟩] 29)
  have B0 := Lib.hid ((Bx.Blk.new w (bpl b) 26).more (Obj.cells #[.int .u64 0, .int .u64 0, .bool false, .int .i64 0, .int .i64 0, .int .i64 0, .string ⟨#[]⟩] 29))
  go_enter Try.func11, Try.ntmps11
  go_wp2_with ((with_reducible refine load_at ?_ ?_ (w.heap.size) ?_ b ?_ ?_); (· rfl); (· rfl); (· rfl); (· exact B0.out))
  refine (HB.out _).mono ?_; rintro e w1 ⟨rfl, hb1⟩
  obtain ⟨hc, hf⟩ := bcell hb1
  have hz1 : w.heap.size + 1 < w1.heap.size := by have := hb1.size; simp at this; omega
  have HS := cell_set
  go_wp2_with fail
  refine bodyPost_ret (v := .tuple #[fr 0 0 false 0 0 0 ⟨#[]⟩, .int .i64 1]) ?_ rfl ⟨rfl, ?_⟩
  · simp [results, Try.results11, go_sem, hc, HS]
  · iterate 7 (refine Below.setCell ?_ (by simp) _)
    exact Bx.then_below bel hb1

set_option maxHeartbeats 1000000 in
theorem wrap_src (x : Int) (b : Bp) (X : ByteArray) (w : World)
    (HB : Hid (∀ w, Calls Try.prog 7 #[bp b] w fun e w' => e = .returned (.tuple #[.string X, .int .i64 0]) ∧ Below w.heap.size w w'))
    (HM : Hid (∀ w, Calls Try.prog 28 #[.int .u64 x] w fun e w' => e = .returned (.bool false) ∧ w = w')) :
    Calls Try.prog 11 #[.int .u64 x, bp b] w fun e w' => e = .returned (.tuple #[fr 0 0 false 0 0 0 ⟨#[]⟩, .int .i64 1]) ∧ Below w.heap.size w w' := by
  have bel := Bx.bel_box (Bx.box_below w (Obj.cells (bpl b).toArray 26)) (Obj.cells #[.int .u64 0, .int .u64 0, .bool false, .int .i64 0, .int .i64 0, .int .i64 0, .string ⟨#[]⟩] 29)
  have B0 := Lib.hid ((Bx.Blk.new w (bpl b) 26).more (Obj.cells #[.int .u64 0, .int .u64 0, .bool false, .int .i64 0, .int .i64 0, .int .i64 0, .string ⟨#[]⟩] 29))
  go_enter Try.func11, Try.ntmps11
  go_wp2_with ((with_reducible refine load_at ?_ ?_ (w.heap.size) ?_ b ?_ ?_); (· rfl); (· rfl); (· rfl); (· exact B0.out))
  refine (HB.out _).mono ?_; rintro e w1 ⟨rfl, hb1⟩
  obtain ⟨hc, hf⟩ := bcell hb1
  have hz1 : w.heap.size + 1 < w1.heap.size := by have := hb1.size; simp at this; omega
  have HS := cell_set
  go_wp2_with fail
  refine (HM.out _).mono ?_; rintro e w' ⟨rfl, rfl⟩
  go_wp2_with fail
  refine bodyPost_ret (v := .tuple #[fr 0 0 false 0 0 0 ⟨#[]⟩, .int .i64 1]) ?_ rfl ⟨rfl, ?_⟩
  · simp [results, Try.results11, go_sem, hc, HS]
  · iterate 7 (refine Below.setCell ?_ (by simp) _)
    exact Bx.then_below bel hb1

set_option maxHeartbeats 1000000 in
theorem wrap_ok (x : Int) (b : Bp) (X : ByteArray) (w : World) (hX : X.size ≤ 100)
    (HB : Hid (∀ w, Calls Try.prog 7 #[bp b] w fun e w' => e = .returned (.tuple #[.string X, .int .i64 0]) ∧ Below w.heap.size w w'))
    (HM : Hid (∀ w, Calls Try.prog 28 #[.int .u64 x] w fun e w' => e = .returned (.bool true) ∧ w = w')) :
    Calls Try.prog 11 #[.int .u64 x, bp b] w fun e w' => e = .returned (.tuple #[fr 1652522221568 x false 0 0 (3 + (X.size : Int)) (⟨#[66, 66, 3]⟩ ++ X), .int .i64 0]) ∧ Below w.heap.size w w' := by
  have z1 : ¬ (3 + X.size > 9223372036854775807) := by omega
  have q1 : IntKind.i64.wrap (3 + (X.size : Int)) = 3 + (X.size : Int) := IntWalk.i64_in _ (by omega)
  have bel := Bx.bel_box (Bx.box_below w (Obj.cells (bpl b).toArray 26)) (Obj.cells #[.int .u64 0, .int .u64 0, .bool false, .int .i64 0, .int .i64 0, .int .i64 0, .string ⟨#[]⟩] 29)
  have B0 := Lib.hid ((Bx.Blk.new w (bpl b) 26).more (Obj.cells #[.int .u64 0, .int .u64 0, .bool false, .int .i64 0, .int .i64 0, .int .i64 0, .string ⟨#[]⟩] 29))
  go_enter Try.func11, Try.ntmps11
  go_wp2_with ((with_reducible refine load_at ?_ ?_ (w.heap.size) ?_ b ?_ ?_); (· rfl); (· rfl); (· rfl); (· exact B0.out))
  refine (HB.out _).mono ?_; rintro e w1 ⟨rfl, hb1⟩
  obtain ⟨hc, hf⟩ := bcell hb1
  have hz1 : w.heap.size + 1 < w1.heap.size := by have := hb1.size; simp at this; omega
  have HS := cell_set
  go_wp2_with fail
  refine (HM.out _).mono ?_; rintro e w' ⟨rfl, rfl⟩
  go_wp2_with fail
  refine bodyPost_ret (v := .tuple #[fr 1652522221568 x false 0 0 (3 + (X.size : Int)) (⟨#[66, 66, 3]⟩ ++ X), .int .i64 0]) ?_ rfl ⟨rfl, ?_⟩
  · simp [results, Try.results11, go_sem, hc, HS]
  · iterate 7 (refine Below.setCell ?_ (by simp) _)
    exact Bx.then_below bel hb1

/-- What Wrap answers. -/
def wErr (x : Nat) (b : Bp) : Int := if rightB b = true ∧ x < 281474976710656 then 0 else 1
def wVal (x : Nat) (b : Bp) : Value := if rightB b = true ∧ x < 281474976710656 then fr 1652522221568 x false 0 0 (3 + ((wireL b).length : Int)) (ofL ([66, 66, 3] ++ wireL b)) else fr 0 0 false 0 0 0 ⟨#[]⟩

theorem wire_len (b : Bp) : (wireL b).length ≤ 36 := by
  by_cases h : b.k = 128
  · unfold wireL
    rw [if_pos h]
    simp
  · rw [front_wire b h, List.length_append, front_len]
    split <;> simp

theorem wrap_any (x : Nat) (b : Bp) (w : World) (hr : b.r < 18446744073709551616) (hg : b.g < 18446744073709551616) :
    Calls Try.prog 11 #[.int .u64 x, bp b] w fun e w' => e = .returned (.tuple #[wVal x b, .int .i64 (wErr x b)]) ∧ Below w.heap.size w w' := by
  have HB := fun w => bytes_any b w hr hg
  have HM := fun w => Mac.right_any x w
  unfold bTxt bErr at HB
  unfold Mac.rightB at HM
  unfold wVal wErr
  by_cases hR : rightB b = true
  case neg =>
    rw [if_neg hR, if_neg hR] at HB
    rw [if_neg (fun h => hR h.1), if_neg (fun h => hR h.1)]
    exact wrap_wrong x b w (Lib.hid HB)
  rw [if_pos hR, if_pos hR] at HB
  by_cases hx : x < 281474976710656
  · rw [if_pos ⟨hR, hx⟩, if_pos ⟨hR, hx⟩]
    rw [decide_eq_true hx] at HM
    have h := wrap_ok x b (ofL (wireL b)) w (by rw [ofL_size]; have := wire_len b; omega) (Lib.hid HB) (Lib.hid HM)
    rw [ofL_size] at h
    rw [show (⟨#[66, 66, 3]⟩ : ByteArray) ++ ofL (wireL b) = ofL ([66, 66, 3] ++ wireL b) from ofL_append [66, 66, 3] _] at h
    exact h
  · rw [if_neg (fun h => hx h.2), if_neg (fun h => hx h.2)]
    rw [decide_eq_false hx] at HM
    exact wrap_src x b _ w (Lib.hid HB) (Lib.hid HM)

set_option maxHeartbeats 1000000 in
theorem of_dst (D S : Int) (g : Bool) (p v t : Int) (X : ByteArray) (w : World) (e1 : (D != 1652522221568) = true) :
    Calls Try.prog 13 #[fr D S g p v t X] w fun e w' => e = .returned (.tuple #[bp zeroB, .int .i64 10]) ∧ Below w.heap.size w w' := by
  have bel := Bx.bel_box (Bx.box_below w (Obj.cells #[.int .u64 D, .int .u64 S, .bool g, .int .i64 p, .int .i64 v, .int .i64 t, .string X] 29)) (Obj.cells (bpl zeroB).toArray 26)
  have O0 := Lib.hid (Bx.Own.new_at (W := w.alloc (Obj.cells #[.int .u64 D, .int .u64 S, .bool g, .int .i64 p, .int .i64 v, .int .i64 t, .string X] 29)) (k := w.heap.size + 1) (bpl zeroB) 26 (by simp))
  have B0 := Lib.hid ((Bx.Blk.new w [.int .u64 D, .int .u64 S, .bool g, .int .i64 p, .int .i64 v, .int .i64 t, .string X] 29).more (Obj.cells (bpl zeroB).toArray 26))
  obtain ⟨c0, c1, c2, c3, c4, c5, c6⟩ := B0.out.all7
  go_enter Try.func13, Try.ntmps13
  go_wp2_with ((with_reducible refine store_at ?_ ?_ (w.heap.size + 1) zeroB zeroB ?_ ?_ ?_ ?_); (· rfl); (· rfl); (· rfl); (· rfl); (· exact O0.out))
  have O1 := Lib.hid (O0.out.put (m := bpl zeroB) rfl)
  exact bodyPost_ret (v := .tuple #[bp zeroB, .int .i64 10]) (results_bp Try.results13 rfl rfl O1.out.blk) rfl ⟨rfl, Bx.bel_cells (m := bpl zeroB) bel (Nat.le_succ _)⟩

set_option maxHeartbeats 1000000 in
theorem of_tag (D S : Int) (p v t : Int) (X : ByteArray) (w : World) (e1 : (D != 1652522221568) = false) :
    Calls Try.prog 13 #[fr D S true p v t X] w fun e w' => e = .returned (.tuple #[bp zeroB, .int .i64 10]) ∧ Below w.heap.size w w' := by
  have bel := Bx.bel_box (Bx.box_below w (Obj.cells #[.int .u64 D, .int .u64 S, .bool true, .int .i64 p, .int .i64 v, .int .i64 t, .string X] 29)) (Obj.cells (bpl zeroB).toArray 26)
  have O0 := Lib.hid (Bx.Own.new_at (W := w.alloc (Obj.cells #[.int .u64 D, .int .u64 S, .bool true, .int .i64 p, .int .i64 v, .int .i64 t, .string X] 29)) (k := w.heap.size + 1) (bpl zeroB) 26 (by simp))
  have B0 := Lib.hid ((Bx.Blk.new w [.int .u64 D, .int .u64 S, .bool true, .int .i64 p, .int .i64 v, .int .i64 t, .string X] 29).more (Obj.cells (bpl zeroB).toArray 26))
  obtain ⟨c0, c1, c2, c3, c4, c5, c6⟩ := B0.out.all7
  go_enter Try.func13, Try.ntmps13
  go_wp2_with ((with_reducible refine store_at ?_ ?_ (w.heap.size + 1) zeroB zeroB ?_ ?_ ?_ ?_); (· rfl); (· rfl); (· rfl); (· rfl); (· exact O0.out))
  have O1 := Lib.hid (O0.out.put (m := bpl zeroB) rfl)
  exact bodyPost_ret (v := .tuple #[bp zeroB, .int .i64 10]) (results_bp Try.results13 rfl rfl O1.out.blk) rfl ⟨rfl, Bx.bel_cells (m := bpl zeroB) bel (Nat.le_succ _)⟩

set_option maxHeartbeats 1000000 in
theorem of_long (D S : Int) (p v t : Int) (X : ByteArray) (w : World) (e1 : (D != 1652522221568) = false) (e3 : 1500 < t) :
    Calls Try.prog 13 #[fr D S false p v t X] w fun e w' => e = .returned (.tuple #[bp zeroB, .int .i64 10]) ∧ Below w.heap.size w w' := by
  have bel := Bx.bel_box (Bx.box_below w (Obj.cells #[.int .u64 D, .int .u64 S, .bool false, .int .i64 p, .int .i64 v, .int .i64 t, .string X] 29)) (Obj.cells (bpl zeroB).toArray 26)
  have O0 := Lib.hid (Bx.Own.new_at (W := w.alloc (Obj.cells #[.int .u64 D, .int .u64 S, .bool false, .int .i64 p, .int .i64 v, .int .i64 t, .string X] 29)) (k := w.heap.size + 1) (bpl zeroB) 26 (by simp))
  have B0 := Lib.hid ((Bx.Blk.new w [.int .u64 D, .int .u64 S, .bool false, .int .i64 p, .int .i64 v, .int .i64 t, .string X] 29).more (Obj.cells (bpl zeroB).toArray 26))
  obtain ⟨c0, c1, c2, c3, c4, c5, c6⟩ := B0.out.all7
  go_enter Try.func13, Try.ntmps13
  go_wp2_with ((with_reducible refine store_at ?_ ?_ (w.heap.size + 1) zeroB zeroB ?_ ?_ ?_ ?_); (· rfl); (· rfl); (· rfl); (· rfl); (· exact O0.out))
  have O1 := Lib.hid (O0.out.put (m := bpl zeroB) rfl)
  exact bodyPost_ret (v := .tuple #[bp zeroB, .int .i64 10]) (results_bp Try.results13 rfl rfl O1.out.blk) rfl ⟨rfl, Bx.bel_cells (m := bpl zeroB) bel (Nat.le_succ _)⟩

set_option maxHeartbeats 1000000 in
theorem of_link (D S : Int) (p v t : Int) (X : ByteArray) (w : World) (e1 : (D != 1652522221568) = false) (e3 : t ≤ 1500) 
    (HP : Hid (∀ w, Calls Try.prog 25 #[.string X, .string ⟨#[66, 66, 3]⟩] w fun e w' => e = .returned (.bool false) ∧ w = w')) :
    Calls Try.prog 13 #[fr D S false p v t X] w fun e w' => e = .returned (.tuple #[bp zeroB, .int .i64 10]) ∧ Below w.heap.size w w' := by
  have bel := Bx.bel_box (Bx.box_below w (Obj.cells #[.int .u64 D, .int .u64 S, .bool false, .int .i64 p, .int .i64 v, .int .i64 t, .string X] 29)) (Obj.cells (bpl zeroB).toArray 26)
  have O0 := Lib.hid (Bx.Own.new_at (W := w.alloc (Obj.cells #[.int .u64 D, .int .u64 S, .bool false, .int .i64 p, .int .i64 v, .int .i64 t, .string X] 29)) (k := w.heap.size + 1) (bpl zeroB) 26 (by simp))
  have B0 := Lib.hid ((Bx.Blk.new w [.int .u64 D, .int .u64 S, .bool false, .int .i64 p, .int .i64 v, .int .i64 t, .string X] 29).more (Obj.cells (bpl zeroB).toArray 26))
  obtain ⟨c0, c1, c2, c3, c4, c5, c6⟩ := B0.out.all7
  go_enter Try.func13, Try.ntmps13
  go_wp2_with fail
  refine (HP.out _).mono ?_; rintro e w' ⟨rfl, rfl⟩
  go_wp2_with ((with_reducible refine store_at ?_ ?_ (w.heap.size + 1) zeroB zeroB ?_ ?_ ?_ ?_); (· rfl); (· rfl); (· rfl); (· rfl); (· exact O0.out))
  have O1 := Lib.hid (O0.out.put (m := bpl zeroB) rfl)
  exact bodyPost_ret (v := .tuple #[bp zeroB, .int .i64 10]) (results_bp Try.results13 rfl rfl O1.out.blk) rfl ⟨rfl, Bx.bel_cells (m := bpl zeroB) bel (Nat.le_succ _)⟩

set_option maxHeartbeats 1000000 in
theorem of_low (D S : Int) (p v t : Int) (X : ByteArray) (w : World) (e1 : (D != 1652522221568) = false) (e3 : t ≤ 1500) (e4 : t < 3)
    (HP : Hid (∀ w, Calls Try.prog 25 #[.string X, .string ⟨#[66, 66, 3]⟩] w fun e w' => e = .returned (.bool true) ∧ w = w')) :
    Calls Try.prog 13 #[fr D S false p v t X] w fun e w' => e = .returned (.tuple #[bp zeroB, .int .i64 2]) ∧ Below w.heap.size w w' := by
  have bel := Bx.bel_box (Bx.box_below w (Obj.cells #[.int .u64 D, .int .u64 S, .bool false, .int .i64 p, .int .i64 v, .int .i64 t, .string X] 29)) (Obj.cells (bpl zeroB).toArray 26)
  have O0 := Lib.hid (Bx.Own.new_at (W := w.alloc (Obj.cells #[.int .u64 D, .int .u64 S, .bool false, .int .i64 p, .int .i64 v, .int .i64 t, .string X] 29)) (k := w.heap.size + 1) (bpl zeroB) 26 (by simp))
  have B0 := Lib.hid ((Bx.Blk.new w [.int .u64 D, .int .u64 S, .bool false, .int .i64 p, .int .i64 v, .int .i64 t, .string X] 29).more (Obj.cells (bpl zeroB).toArray 26))
  obtain ⟨c0, c1, c2, c3, c4, c5, c6⟩ := B0.out.all7
  go_enter Try.func13, Try.ntmps13
  go_wp2_with fail
  refine (HP.out _).mono ?_; rintro e w' ⟨rfl, rfl⟩
  go_wp2_with ((with_reducible refine store_at ?_ ?_ (w.heap.size + 1) zeroB zeroB ?_ ?_ ?_ ?_); (· rfl); (· rfl); (· rfl); (· rfl); (· exact O0.out))
  have O1 := Lib.hid (O0.out.put (m := bpl zeroB) rfl)
  exact bodyPost_ret (v := .tuple #[bp zeroB, .int .i64 2]) (results_bp Try.results13 rfl rfl O1.out.blk) rfl ⟨rfl, Bx.bel_cells (m := bpl zeroB) bel (Nat.le_succ _)⟩

set_option maxHeartbeats 1000000 in
theorem of_cut (D S : Int) (p v t : Int) (X : ByteArray) (w : World) (e1 : (D != 1652522221568) = false) (e3 : t ≤ 1500) (e4 : 3 ≤ t) (e5 : (X.size : Int) < t)
    (HP : Hid (∀ w, Calls Try.prog 25 #[.string X, .string ⟨#[66, 66, 3]⟩] w fun e w' => e = .returned (.bool true) ∧ w = w')) :
    Calls Try.prog 13 #[fr D S false p v t X] w fun e w' => e = .returned (.tuple #[bp zeroB, .int .i64 2]) ∧ Below w.heap.size w w' := by
  have bel := Bx.bel_box (Bx.box_below w (Obj.cells #[.int .u64 D, .int .u64 S, .bool false, .int .i64 p, .int .i64 v, .int .i64 t, .string X] 29)) (Obj.cells (bpl zeroB).toArray 26)
  have O0 := Lib.hid (Bx.Own.new_at (W := w.alloc (Obj.cells #[.int .u64 D, .int .u64 S, .bool false, .int .i64 p, .int .i64 v, .int .i64 t, .string X] 29)) (k := w.heap.size + 1) (bpl zeroB) 26 (by simp))
  have B0 := Lib.hid ((Bx.Blk.new w [.int .u64 D, .int .u64 S, .bool false, .int .i64 p, .int .i64 v, .int .i64 t, .string X] 29).more (Obj.cells (bpl zeroB).toArray 26))
  obtain ⟨c0, c1, c2, c3, c4, c5, c6⟩ := B0.out.all7
  go_enter Try.func13, Try.ntmps13
  go_wp2_with fail
  refine (HP.out _).mono ?_; rintro e w' ⟨rfl, rfl⟩
  go_wp2_with ((with_reducible refine store_at ?_ ?_ (w.heap.size + 1) zeroB zeroB ?_ ?_ ?_ ?_); (· rfl); (· rfl); (· rfl); (· rfl); (· exact O0.out))
  have O1 := Lib.hid (O0.out.put (m := bpl zeroB) rfl)
  exact bodyPost_ret (v := .tuple #[bp zeroB, .int .i64 2]) (results_bp Try.results13 rfl rfl O1.out.blk) rfl ⟨rfl, Bx.bel_cells (m := bpl zeroB) bel (Nat.le_succ _)⟩

set_option maxHeartbeats 1000000 in
theorem of_read (D S : Int) (p v t : Int) (X : ByteArray) (b : Bp) (E : Int) (w : World) (e1 : (D != 1652522221568) = false) (e3 : t ≤ 1500) (e4 : 3 ≤ t) (e5 : t ≤ (X.size : Int))
    (HP : Hid (∀ w, Calls Try.prog 25 #[.string X, .string ⟨#[66, 66, 3]⟩] w fun e w' => e = .returned (.bool true) ∧ w = w'))
    (HR : Hid (∀ w, Calls Try.prog 9 #[.string (X.extract 3 t.toNat)] w fun e w' => e = .returned (.tuple #[bp b, .int .i64 E]) ∧ Below w.heap.size w w')) :
    Calls Try.prog 13 #[fr D S false p v t X] w fun e w' => e = .returned (.tuple #[bp b, .int .i64 E]) ∧ Below w.heap.size w w' := by
  have bel := Bx.bel_box (Bx.box_below w (Obj.cells #[.int .u64 D, .int .u64 S, .bool false, .int .i64 p, .int .i64 v, .int .i64 t, .string X] 29)) (Obj.cells (bpl zeroB).toArray 26)
  have O0 := Lib.hid (Bx.Own.new_at (W := w.alloc (Obj.cells #[.int .u64 D, .int .u64 S, .bool false, .int .i64 p, .int .i64 v, .int .i64 t, .string X] 29)) (k := w.heap.size + 1) (bpl zeroB) 26 (by simp))
  have B0 := Lib.hid ((Bx.Blk.new w [.int .u64 D, .int .u64 S, .bool false, .int .i64 p, .int .i64 v, .int .i64 t, .string X] 29).more (Obj.cells (bpl zeroB).toArray 26))
  obtain ⟨c0, c1, c2, c3, c4, c5, c6⟩ := B0.out.all7
  go_enter Try.func13, Try.ntmps13
  go_wp2_with fail
  refine (HP.out _).mono ?_; rintro e w' ⟨rfl, rfl⟩
  go_wp2_with fail
  refine (HR.out _).mono ?_; rintro e w1 ⟨rfl, hb1⟩
  replace bel := Bx.then_below bel hb1
  replace O0 := Lib.hid (O0.out.keep hb1)
  clear hb1
  go_wp2_with ((with_reducible refine store_at ?_ ?_ (w.heap.size + 1) zeroB b ?_ ?_ ?_ ?_); (· rfl); (· rfl); (· rfl); (· rfl); (· exact O0.out))
  have O1 := Lib.hid (O0.out.put (m := bpl b) rfl)
  exact bodyPost_ret (v := .tuple #[bp b, .int .i64 E]) (results_bp Try.results13 rfl rfl O1.out.blk) rfl ⟨rfl, Bx.bel_cells (m := bpl b) bel (Nat.le_succ _)⟩

/-- What Of answers. -/
def linkB (X : ByteArray) : Bool := Lib.hasPrefix X.data.toList [66, 66, 3]
def oErr (d : Nat) (g : Bool) (t : Int) (X : ByteArray) : Int :=
  if d ≠ 1652522221568 ∨ g = true ∨ 1500 < t ∨ linkB X = false then 10 else if t < 3 ∨ (X.size : Int) < t then 2 else rErr (X.extract 3 t.toNat)
def oVal (d : Nat) (g : Bool) (t : Int) (X : ByteArray) : Bp :=
  if d ≠ 1652522221568 ∨ g = true ∨ 1500 < t ∨ linkB X = false then zeroB else if t < 3 ∨ (X.size : Int) < t then zeroB else rVal (X.extract 3 t.toNat)

theorem link_any (X : ByteArray) (w : World) :
    Calls Try.prog 25 #[.string X, .string ⟨#[66, 66, 3]⟩] w fun e w' => e = .returned (.bool (linkB X)) ∧ w = w' :=
  (Try.strings_HasPrefix X ⟨#[66, 66, 3]⟩ w).mono fun _ _ ⟨he, hw⟩ => ⟨he, hw.symm⟩

theorem of_any (d s : Nat) (g : Bool) (p v t : Int) (X : ByteArray) (w : World) (hX : X.size ≤ 9223372036854775807) :
    Calls Try.prog 13 #[fr d s g p v t X] w fun e w' => e = .returned (.tuple #[bp (oVal d g t X), .int .i64 (oErr d g t X)]) ∧ Below w.heap.size w w' := by
  have HP := fun w => link_any X w
  by_cases hd : d = 1652522221568
  case neg =>
    have c : d ≠ 1652522221568 ∨ g = true ∨ 1500 < t ∨ linkB X = false := Or.inl hd
    unfold oVal oErr
    rw [if_pos c, if_pos c]
    exact of_dst d s g p v t X w (by rw [bne_iff_ne]; omega)
  have e1 : ((d : Int) != 1652522221568) = false := by rw [hd]; rfl
  cases g
  case true =>
    have c : d ≠ 1652522221568 ∨ true = true ∨ 1500 < t ∨ linkB X = false := Or.inr (Or.inl rfl)
    unfold oVal oErr
    rw [if_pos c, if_pos c]
    exact of_tag d s p v t X w e1
  by_cases ht : 1500 < t
  · have c : d ≠ 1652522221568 ∨ false = true ∨ 1500 < t ∨ linkB X = false := Or.inr (Or.inr (Or.inl ht))
    unfold oVal oErr
    rw [if_pos c, if_pos c]
    exact of_long d s p v t X w e1 ht
  cases hl : linkB X
  · have c : d ≠ 1652522221568 ∨ false = true ∨ 1500 < t ∨ linkB X = false := Or.inr (Or.inr (Or.inr hl))
    unfold oVal oErr
    rw [if_pos c, if_pos c]
    rw [hl] at HP
    exact of_link d s p v t X w e1 (by omega) (Lib.hid HP)
  rw [hl] at HP
  have c : ¬ (d ≠ 1652522221568 ∨ false = true ∨ 1500 < t ∨ linkB X = false) := by rw [hl]; simp [hd]; omega
  unfold oVal oErr
  rw [if_neg c, if_neg c]
  by_cases h3 : t < 3
  · rw [if_pos (Or.inl h3), if_pos (Or.inl h3)]
    exact of_low d s p v t X w e1 (by omega) h3 (Lib.hid HP)
  by_cases hc : (X.size : Int) < t
  · rw [if_pos (Or.inr hc), if_pos (Or.inr hc)]
    exact of_cut d s p v t X w e1 (by omega) (by omega) hc (Lib.hid HP)
  rw [if_neg (by omega), if_neg (by omega)]
  exact of_read d s p v t X _ _ w e1 (by omega) (by omega) (by omega) (Lib.hid HP) (Lib.hid fun w => read_any (X.extract 3 t.toNat) w (by rw [ByteArray.size_extract]; omega))

end Bpd
end Go.Proofs.Ytiokkahldhmhlaa
