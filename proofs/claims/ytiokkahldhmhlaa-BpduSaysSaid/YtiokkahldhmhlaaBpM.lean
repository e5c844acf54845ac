/-
  What the document's answers of Read, Wrap and Of answer; and that they change nothing that was there.
-/
import Derived.Test.YtiokkahldhmhlaaBpI
import Derived.Test.YtiokkahldhmhlaaBpK
import Derived.Test.YtiokkahldhmhlaaBpF
namespace Go.Proofs.Ytiokkahldhmhlaa
open Go.RowKit
namespace Bpd
open Oct Mac Eth Epl

theorem rread_any (s : ByteArray) (w : World) (hz : s.size ≤ 9223372036854775807) :
    Calls Try.prog 10 #[.string s] w fun e w' => e = .returned (.tuple #[bp (rVal s), .int .i64 (rErr s)]) ∧ Below w.heap.size w w' := by
  by_cases hs : s.size < 4
  · have e : rErr s = 2 := by unfold rErr; rw [if_pos hs]
    rw [show rVal s = zeroB by unfold rVal; rw [e, if_pos (by decide)], e]
    exact rread_tiny s w hs
  have H0 := fun w => num_any s 0 2 w hz
  by_cases hp : n2 s 0 = 0
  case neg =>
    have e : rErr s = 3 := by unfold rErr; rw [if_neg hs, if_pos hp]
    rw [show rVal s = zeroB by unfold rVal; rw [e, if_pos (by decide)], e]
    exact rread_form s (n2 s 0 : Nat) w (by omega) hz (by rw [bne_iff_ne]; omega) (Lib.hid H0)
  have hp' : (getR s 0 2).1 = 0 := hp
  rw [hp'] at H0
  have H3 := Lib.hid fun w => num_any s 3 1 w hz
  have H2 := Lib.hid fun w => num_any s 2 1 w hz
  have hK := n1_lt s 3
  by_cases h1 : n1 s 3 = 128
  · have e : rErr s = 0 := by unfold rErr; rw [if_neg hs, if_neg (by omega), if_pos h1]
    rw [show rVal s = changeB by unfold rVal; rw [e, if_neg (by decide), if_pos h1], e]
    have h := rread_change s (n1 s 3) w (by omega) hz hK (by rw [h1]; rfl) (Lib.hid H0) H3
    rw [h1] at h
    exact h
  have e1 : (((n1 s 3 : Nat) : Int) == 128) = false := by simp; omega
  by_cases hk : n1 s 3 = 0 ∨ n1 s 3 = 2 ∧ 2 ≤ n1 s 2
  case neg =>
    have e : rErr s = 10 := by unfold rErr; rw [if_neg hs, if_neg (by omega), if_neg h1, if_pos hk]
    rw [show rVal s = zeroB by unfold rVal; rw [e, if_pos (by decide)], e]
    by_cases h2 : n1 s 3 = 2
    · exact rread_vers s (n1 s 3) (n1 s 2) w (by omega) hz hK e1 (by simp; omega) (by simp; omega) (by omega) (Lib.hid H0) H3 H2
    · exact rread_kind s (n1 s 3) w (by omega) hz hK e1 (by simp; omega) (by simp; omega) (Lib.hid H0) H3
  by_cases h2 : n1 s 3 = 2
  · have e2 : (((n1 s 3 : Nat) : Int) != 0) = true := by simp; omega
    have e3 : (((n1 s 3 : Nat) : Int) != 2) = false := by simp; omega
    have e4 : (((n1 s 3 : Nat) : Int) == 2) = true := by simp; omega
    by_cases hl : s.size < 36
    · have e : rErr s = 2 := by unfold rErr; rw [if_neg hs, if_neg (by omega), if_neg h1, if_neg (by omega), if_pos h2, if_pos hl]
      rw [show rVal s = zeroB by unfold rVal; rw [e, if_pos (by decide)], e]
      by_cases hl' : s.size < 35
      · exact rread_short2a s (n1 s 3) (n1 s 2) w (by omega) hz hK e1 e2 e3 e4 (by omega) hl' (Lib.hid H0) H3 H2
      · exact rread_short2b s (n1 s 3) (n1 s 2) w (by omega) hz hK e1 e2 e3 e4 (by omega) (by omega) hl (Lib.hid H0) H3 H2
    by_cases ho : n1 s 29 ≤ n1 s 27
    · have e : rErr s = 3 := by unfold rErr; rw [if_neg hs, if_neg (by omega), if_neg h1, if_neg (by omega), if_pos h2, if_neg hl, if_pos ho]
      rw [show rVal s = zeroB by unfold rVal; rw [e, if_pos (by decide)], e]
      exact rread_old2 s (n1 s 3) (n1 s 2) (n1 s 4) (n8 s 5) (n4 s 13) (n8 s 17) (n2 s 25) (n1 s 27) (n1 s 29) (n1 s 31) (n1 s 33) w (by omega) hz hK e1 e2 e3 e4 (by omega) (by omega) (by omega) (n1_lt s 4) (n2_lt s 25) (n1_lt s 27) (n1_lt s 29) (n1_lt s 31) (n1_lt s 33) ho (Lib.hid H0) H3 H2 (Lib.hid fun w => num_any s 4 1 w hz) (Lib.hid fun w => num_any s 5 8 w hz) (Lib.hid fun w => num_any s 13 4 w hz) (Lib.hid fun w => num_any s 17 8 w hz) (Lib.hid fun w => num_any s 25 2 w hz) (Lib.hid fun w => num_any s 27 1 w hz) (Lib.hid fun w => num_any s 29 1 w hz) (Lib.hid fun w => num_any s 31 1 w hz) (Lib.hid fun w => num_any s 33 1 w hz)
    · have e : rErr s = 0 := by unfold rErr; rw [if_neg hs, if_neg (by omega), if_neg h1, if_neg (by omega), if_pos h2, if_neg hl, if_neg ho]
      rw [show rVal s = fullB s by unfold rVal; rw [e, if_neg (by decide), if_neg h1], e]
      unfold fullB
      rw [if_pos h2]
      exact rread_full2 s (n1 s 3) (n1 s 2) (n1 s 4) (n8 s 5) (n4 s 13) (n8 s 17) (n2 s 25) (n1 s 27) (n1 s 29) (n1 s 31) (n1 s 33) w (by omega) hz hK e1 e2 e3 e4 (by omega) (by omega) (by omega) (n1_lt s 4) (n2_lt s 25) (n1_lt s 27) (n1_lt s 29) (n1_lt s 31) (n1_lt s 33) (by omega) (Lib.hid H0) H3 H2 (Lib.hid fun w => num_any s 4 1 w hz) (Lib.hid fun w => num_any s 5 8 w hz) (Lib.hid fun w => num_any s 13 4 w hz) (Lib.hid fun w => num_any s 17 8 w hz) (Lib.hid fun w => num_any s 25 2 w hz) (Lib.hid fun w => num_any s 27 1 w hz) (Lib.hid fun w => num_any s 29 1 w hz) (Lib.hid fun w => num_any s 31 1 w hz) (Lib.hid fun w => num_any s 33 1 w hz)
  · have e2 : (((n1 s 3 : Nat) : Int) != 0) = false := by simp; omega
    have e4 : (((n1 s 3 : Nat) : Int) == 2) = false := by simp; omega
    by_cases hl : s.size < 35
    · have e : rErr s = 2 := by unfold rErr; rw [if_neg hs, if_neg (by omega), if_neg h1, if_neg (by omega), if_neg h2, if_pos hl]
      rw [show rVal s = zeroB by unfold rVal; rw [e, if_pos (by decide)], e]
      exact rread_short0a s (n1 s 3) w (by omega) hz hK e1 e2 e4 hl (Lib.hid H0) H3
    by_cases ho : n1 s 29 ≤ n1 s 27
    · have e : rErr s = 3 := by unfold rErr; rw [if_neg hs, if_neg (by omega), if_neg h1, if_neg (by omega), if_neg h2, if_neg hl, if_pos ho]
      rw [show rVal s = zeroB by unfold rVal; rw [e, if_pos (by decide)], e]
      exact rread_old0 s (n1 s 3) (n1 s 4) (n8 s 5) (n4 s 13) (n8 s 17) (n2 s 25) (n1 s 27) (n1 s 29) (n1 s 31) (n1 s 33) w (by omega) hz hK e1 e2 e4 (by omega) (n1_lt s 4) (n2_lt s 25) (n1_lt s 27) (n1_lt s 29) (n1_lt s 31) (n1_lt s 33) ho (Lib.hid H0) H3 (Lib.hid fun w => num_any s 4 1 w hz) (Lib.hid fun w => num_any s 5 8 w hz) (Lib.hid fun w => num_any s 13 4 w hz) (Lib.hid fun w => num_any s 17 8 w hz) (Lib.hid fun w => num_any s 25 2 w hz) (Lib.hid fun w => num_any s 27 1 w hz) (Lib.hid fun w => num_any s 29 1 w hz) (Lib.hid fun w => num_any s 31 1 w hz) (Lib.hid fun w => num_any s 33 1 w hz)
    · have e : rErr s = 0 := by unfold rErr; rw [if_neg hs, if_neg (by omega), if_neg h1, if_neg (by omega), if_neg h2, if_neg hl, if_neg ho]
      rw [show rVal s = fullB s by unfold rVal; rw [e, if_neg (by decide), if_neg h1], e]
      unfold fullB
      rw [if_neg h2]
      exact rread_full0 s (n1 s 3) (n1 s 4) (n8 s 5) (n4 s 13) (n8 s 17) (n2 s 25) (n1 s 27) (n1 s 29) (n1 s 31) (n1 s 33) w (by omega) hz hK e1 e2 e4 (by omega) (n1_lt s 4) (n2_lt s 25) (n1_lt s 27) (n1_lt s 29) (n1_lt s 31) (n1_lt s 33) (by omega) (Lib.hid H0) H3 (Lib.hid fun w => num_any s 4 1 w hz) (Lib.hid fun w => num_any s 5 8 w hz) (Lib.hid fun w => num_any s 13 4 w hz) (Lib.hid fun w => num_any s 17 8 w hz) (Lib.hid fun w => num_any s 25 2 w hz) (Lib.hid fun w => num_any s 27 1 w hz) (Lib.hid fun w => num_any s 29 1 w hz) (Lib.hid fun w => num_any s 31 1 w hz) (Lib.hid fun w => num_any s 33 1 w hz)

set_option maxHeartbeats 1000000 in
theorem rwrap_wrong (x : Int) (b : Bp) (w : World)
    (HB : Hid (∀ w, Calls Try.prog 8 #[bp b] w fun e w' => e = .returned (.tuple #[.string ⟨#[]⟩, .int .i64 1]) ∧ Below w.heap.size w w')) :
    Calls Try.prog 12 #[.int .u64 x, bp b] w fun e w' => e = .returned (.tuple #[fr 0 0 false 0 0 0 ⟨#[]⟩, .int .i64 1]) ∧ Below w.heap.size w w' := by
  have bel := Bx.bel_box (Bx.box_below w (Obj.cells (bpl b).toArray 26)) (Obj.cells #[.int .u64 0, .int .u64 0, .bool false, .int .i64 0, .int .i64 0, .int .i64 0, .string ⟨#[]⟩] 29)
  have B0 := Lib.hid ((Bx.Blk.new w (bpl b) 26).more (Obj.cells #[.int .u64 0, .int .u64 0, .bool false, .int .i64 0, .int .i64 0, .int .i64 0, .string ⟨#[]⟩] 29))
  go_enter Try.func12, Try.ntmps12
  go_wp2_with ((with_reducible refine load_at ?_ ?_ (w.heap.size) ?_ b ?_ ?_); (· rfl); (· rfl); (· rfl); (· exact B0.out))
  refine (HB.out _).mono ?_; rintro e w1 ⟨rfl, hb1⟩
  obtain ⟨hc, hf⟩ := bcell hb1
  have hz1 : w.heap.size + 1 < w1.heap.size := by have := hb1.size; simp at this; omega
  have HS := cell_set
  go_wp2_with fail
  refine bodyPost_ret (v := .tuple #[fr 0 0 false 0 0 0 ⟨#[]⟩, .int .i64 1]) ?_ rfl ⟨rfl, ?_⟩
  · simp [results, Try.results12, go_sem, hc, HS]
  · iterate 7 (refine Below.setCell ?_ (by simp) _)
    exact Bx.then_below bel hb1

set_option maxHeartbeats 1000000 in
theorem rwrap_src (x : Int) (b : Bp) (X : ByteArray) (w : World)
    (HB : Hid (∀ w, Calls Try.prog 8 #[bp b] w fun e w' => e = .returned (.tuple #[.string X, .int .i64 0]) ∧ Below w.heap.size w w'))
    (HM : Hid (∀ w, Calls Try.prog 29 #[.int .u64 x] w fun e w' => e = .returned (.bool false) ∧ w = w')) :
    Calls Try.prog 12 #[.int .u64 x, bp b] w fun e w' => e = .returned (.tuple #[fr 0 0 false 0 0 0 ⟨#[]⟩, .int .i64 1]) ∧ Below w.heap.size w w' := by
  have bel := Bx.bel_box (Bx.box_below w (Obj.cells (bpl b).toArray 26)) (Obj.cells #[.int .u64 0, .int .u64 0, .bool false, .int .i64 0, .int .i64 0, .int .i64 0, .string ⟨#[]⟩] 29)
  have B0 := Lib.hid ((Bx.Blk.new w (bpl b) 26).more (Obj.cells #[.int .u64 0, .int .u64 0, .bool false, .int .i64 0, .int .i64 0, .int .i64 0, .string ⟨#[]⟩] 29))
  go_enter Try.func12, Try.ntmps12
  go_wp2_with ((with_reducible refine load_at ?_ ?_ (w.heap.size) ?_ b ?_ ?_); (· rfl); (· rfl); (· rfl); (· exact B0.out))
  refine (HB.out _).mono ?_; rintro e w1 ⟨rfl, hb1⟩
  obtain ⟨hc, hf⟩ := bcell hb1
  have hz1 : w.heap.size + 1 < w1.heap.size := by have := hb1.size; simp at this; omega
  have HS := cell_set
  go_wp2_with fail
  refine (HM.out _).mono ?_; rintro e w' ⟨rfl, rfl⟩
  go_wp2_with fail
  refine bodyPost_ret (v := .tuple #[fr 0 0 false 0 0 0 ⟨#[]⟩, .int .i64 1]) ?_ rfl ⟨rfl, ?_⟩
  · simp [results, Try.results12, go_sem, hc, HS]
  · iterate 7 (refine Below.setCell ?_ (by simp) _)
    exact Bx.then_below bel hb1

set_option maxHeartbeats 1000000 in
theorem rwrap_ok (x : Int) (b : Bp) (X : ByteArray) (w : World) (hX : X.size ≤ 100)
    (HB : Hid (∀ w, Calls Try.prog 8 #[bp b] w fun e w' => e = .returned (.tuple #[.string X, .int .i64 0]) ∧ Below w.heap.size w w'))
    (HM : Hid (∀ w, Calls Try.prog 29 #[.int .u64 x] w fun e w' => e = .returned (.bool true) ∧ w = w')) :
    Calls Try.prog 12 #[.int .u64 x, bp b] w fun e w' => e = .returned (.tuple #[fr 1652522221568 x false 0 0 (3 + (X.size : Int)) (⟨#[66, 66, 3]⟩ ++ X), .int .i64 0]) ∧ Below w.heap.size w w' := by
  have z1 : ¬ (3 + X.size > 9223372036854775807) := by omega
  have q1 : IntKind.i64.wrap (3 + (X.size : Int)) = 3 + (X.size : Int) := IntWalk.i64_in _ (by omega)
  have bel := Bx.bel_box (Bx.box_below w (Obj.cells (bpl b).toArray 26)) (Obj.cells #[.int .u64 0, .int .u64 0, .bool false, .int .i64 0, .int .i64 0, .int .i64 0, .string ⟨#[]⟩] 29)
  have B0 := Lib.hid ((Bx.Blk.new w (bpl b) 26).more (Obj.cells #[.int .u64 0, .int .u64 0, .bool false, .int .i64 0, .int .i64 0, .int .i64 0, .string ⟨#[]⟩] 29))
  go_enter Try.func12, Try.ntmps12
  go_wp2_with ((with_reducible refine load_at ?_ ?_ (w.heap.size) ?_ b ?_ ?_); (· rfl); (· rfl); (· rfl); (· exact B0.out))
  refine (HB.out _).mono ?_; rintro e w1 ⟨rfl, hb1⟩
  obtain ⟨hc, hf⟩ := bcell hb1
  have hz1 : w.heap.size + 1 < w1.heap.size := by have := hb1.size; simp at this; omega
  have HS := cell_set
  go_wp2_with fail
  refine (HM.out _).mono ?_; rintro e w' ⟨rfl, rfl⟩
  go_wp2_with fail
  refine bodyPost_ret (v := .tuple #[fr 1652522221568 x false 0 0 (3 + (X.size : Int)) (⟨#[66, 66, 3]⟩ ++ X), .int .i64 0]) ?_ rfl ⟨rfl, ?_⟩
  · simp [results, Try.results12, go_sem, hc, HS]
  · iterate 7 (refine Below.setCell ?_ (by simp) _)
    exact Bx.then_below bel hb1

theorem rwrap_any (x : Nat) (b : Bp) (w : World) (hr : b.r < 18446744073709551616) (hg : b.g < 18446744073709551616) :
    Calls Try.prog 12 #[.int .u64 x, bp b] w fun e w' => e = .returned (.tuple #[wVal x b, .int .i64 (wErr x b)]) ∧ Below w.heap.size w w' := by
  have HB := fun w => rbytes_any b w hr hg
  have HM := fun w => Mac.rright_any x w
  unfold bTxt bErr at HB
  unfold Mac.rightB at HM
  unfold wVal wErr
  by_cases hR : rightB b = true
  case neg =>
    rw [if_neg hR, if_neg hR] at HB
    rw [if_neg (fun h => hR h.1), if_neg (fun h => hR h.1)]
    exact rwrap_wrong x b w (Lib.hid HB)
  rw [if_pos hR, if_pos hR] at HB
  by_cases hx : x < 281474976710656
  · rw [if_pos ⟨hR, hx⟩, if_pos ⟨hR, hx⟩]
    rw [decide_eq_true hx] at HM
    have h := rwrap_ok x b (ofL (wireL b)) w (by rw [ofL_size]; have := wire_len b; omega) (Lib.hid HB) (Lib.hid HM)
    rw [ofL_size] at h
    rw [show (⟨#[66, 66, 3]⟩ : ByteArray) ++ ofL (wireL b) = ofL ([66, 66, 3] ++ wireL b) from ofL_append [66, 66, 3] _] at h
    exact h
  · rw [if_neg (fun h => hx h.2), if_neg (fun h => hx h.2)]
    rw [decide_eq_false hx] at HM
    exact rwrap_src x b _ w (Lib.hid HB) (Lib.hid HM)

set_option maxHeartbeats 1000000 in
theorem rof_dst (D S : Int) (g : Bool) (p v t : Int) (X : ByteArray) (w : World) (e1 : (D != 1652522221568) = true) :
    Calls Try.prog 14 #[fr D S g p v t X] w fun e w' => e = .returned (.tuple #[bp zeroB, .int .i64 10]) ∧ Below w.heap.size w w' := by
  have bel := Bx.bel_box (Bx.box_below w (Obj.cells #[.int .u64 D, .int .u64 S, .bool g, .int .i64 p, .int .i64 v, .int .i64 t, .string X] 29)) (Obj.cells (bpl zeroB).toArray 26)
  have O0 := Lib.hid (Bx.Own.new_at (W := w.alloc (Obj.cells #[.int .u64 D, .int .u64 S, .bool g, .int .i64 p, .int .i64 v, .int .i64 t, .string X] 29)) (k := w.heap.size + 1) (bpl zeroB) 26 (by simp))
  have B0 := Lib.hid ((Bx.Blk.new w [.int .u64 D, .int .u64 S, .bool g, .int .i64 p, .int .i64 v, .int .i64 t, .string X] 29).more (Obj.cells (bpl zeroB).toArray 26))
  obtain ⟨c0, c1, c2, c3, c4, c5, c6⟩ := B0.out.all7
  go_enter Try.func14, Try.ntmps14
  go_wp2_with ((with_reducible refine store_at ?_ ?_ (w.heap.size + 1) zeroB zeroB ?_ ?_ ?_ ?_); (· rfl); (· rfl); (· rfl); (· rfl); (· exact O0.out))
  have O1 := Lib.hid (O0.out.put (m := bpl zeroB) rfl)
  exact bodyPost_ret (v := .tuple #[bp zeroB, .int .i64 10]) (results_bp Try.results14 rfl rfl O1.out.blk) rfl ⟨rfl, Bx.bel_cells (m := bpl zeroB) bel (Nat.le_succ _)⟩

set_option maxHeartbeats 1000000 in
theorem rof_tag (D S : Int) (p v t : Int) (X : ByteArray) (w : World) (e1 : (D != 1652522221568) = false) :
    Calls Try.prog 14 #[fr D S true p v t X] w fun e w' => e = .returned (.tuple #[bp zeroB, .int .i64 10]) ∧ Below w.heap.size w w' := by
  have bel := Bx.bel_box (Bx.box_below w (Obj.cells #[.int .u64 D, .int .u64 S, .bool true, .int .i64 p, .int .i64 v, .int .i64 t, .string X] 29)) (Obj.cells (bpl zeroB).toArray 26)
  have O0 := Lib.hid (Bx.Own.new_at (W := w.alloc (Obj.cells #[.int .u64 D, .int .u64 S, .bool true, .int .i64 p, .int .i64 v, .int .i64 t, .string X] 29)) (k := w.heap.size + 1) (bpl zeroB) 26 (by simp))
  have B0 := Lib.hid ((Bx.Blk.new w [.int .u64 D, .int .u64 S, .bool true, .int .i64 p, .int .i64 v, .int .i64 t, .string X] 29).more (Obj.cells (bpl zeroB).toArray 26))
  obtain ⟨c0, c1, c2, c3, c4, c5, c6⟩ := B0.out.all7
  go_enter Try.func14, Try.ntmps14
  go_wp2_with ((with_reducible refine store_at ?_ ?_ (w.heap.size + 1) zeroB zeroB ?_ ?_ ?_ ?_); (· rfl); (· rfl); (· rfl); (· rfl); (· exact O0.out))
  have O1 := Lib.hid (O0.out.put (m := bpl zeroB) rfl)
  exact bodyPost_ret (v := .tuple #[bp zeroB, .int .i64 10]) (results_bp Try.results14 rfl rfl O1.out.blk) rfl ⟨rfl, Bx.bel_cells (m := bpl zeroB) bel (Nat.le_succ _)⟩

set_option maxHeartbeats 1000000 in
theorem rof_long (D S : Int) (p v t : Int) (X : ByteArray) (w : World) (e1 : (D != 1652522221568) = false) (e3 : 1500 < t) :
    Calls Try.prog 14 #[fr D S false p v t X] w fun e w' => e = .returned (.tuple #[bp zeroB, .int .i64 10]) ∧ Below w.heap.size w w' := by
  have bel := Bx.bel_box (Bx.box_below w (Obj.cells #[.int .u64 D, .int .u64 S, .bool false, .int .i64 p, .int .i64 v, .int .i64 t, .string X] 29)) (Obj.cells (bpl zeroB).toArray 26)
  have O0 := Lib.hid (Bx.Own.new_at (W := w.alloc (Obj.cells #[.int .u64 D, .int .u64 S, .bool false, .int .i64 p, .int .i64 v, .int .i64 t, .string X] 29)) (k := w.heap.size + 1) (bpl zeroB) 26 (by simp))
  have B0 := Lib.hid ((Bx.Blk.new w [.int .u64 D, .int .u64 S, .bool false, .int .i64 p, .int .i64 v, .int .i64 t, .string X] 29).more (Obj.cells (bpl zeroB).toArray 26))
  obtain ⟨c0, c1, c2, c3, c4, c5, c6⟩ := B0.out.all7
  go_enter Try.func14, Try.ntmps14
  go_wp2_with ((with_reducible refine store_at ?_ ?_ (w.heap.size + 1) zeroB zeroB ?_ ?_ ?_ ?_); (· rfl); (· rfl); (· rfl); (· rfl); (· exact O0.out))
  have O1 := Lib.hid (O0.out.put (m := bpl zeroB) rfl)
  exact bodyPost_ret (v := .tuple #[bp zeroB, .int .i64 10]) (results_bp Try.results14 rfl rfl O1.out.blk) rfl ⟨rfl, Bx.bel_cells (m := bpl zeroB) bel (Nat.le_succ _)⟩

set_option maxHeartbeats 1000000 in
theorem rof_tiny (D S : Int) (p v t : Int) (X : ByteArray) (w : World) (e1 : (D != 1652522221568) = false) (e3 : t ≤ 1500) (z3 : X.size < 3)  :
    Calls Try.prog 14 #[fr D S false p v t X] w fun e w' => e = .returned (.tuple #[bp zeroB, .int .i64 10]) ∧ Below w.heap.size w w' := by
  have bel := Bx.bel_box (Bx.box_below w (Obj.cells #[.int .u64 D, .int .u64 S, .bool false, .int .i64 p, .int .i64 v, .int .i64 t, .string X] 29)) (Obj.cells (bpl zeroB).toArray 26)
  have O0 := Lib.hid (Bx.Own.new_at (W := w.alloc (Obj.cells #[.int .u64 D, .int .u64 S, .bool false, .int .i64 p, .int .i64 v, .int .i64 t, .string X] 29)) (k := w.heap.size + 1) (bpl zeroB) 26 (by simp))
  have B0 := Lib.hid ((Bx.Blk.new w [.int .u64 D, .int .u64 S, .bool false, .int .i64 p, .int .i64 v, .int .i64 t, .string X] 29).more (Obj.cells (bpl zeroB).toArray 26))
  obtain ⟨c0, c1, c2, c3, c4, c5, c6⟩ := B0.out.all7
  go_enter Try.func14, Try.ntmps14
  go_wp2_with ((with_reducible refine store_at ?_ ?_ (w.heap.size + 1) zeroB zeroB ?_ ?_ ?_ ?_); (· rfl); (· rfl); (· rfl); (· rfl); (· exact O0.out))
  have O1 := Lib.hid (O0.out.put (m := bpl zeroB) rfl)
  exact bodyPost_ret (v := .tuple #[bp zeroB, .int .i64 10]) (results_bp Try.results14 rfl rfl O1.out.blk) rfl ⟨rfl, Bx.bel_cells (m := bpl zeroB) bel (Nat.le_succ _)⟩

set_option maxHeartbeats 1000000 in
theorem rof_link (D S : Int) (p v t : Int) (X : ByteArray) (w : World) (e1 : (D != 1652522221568) = false) (e3 : t ≤ 1500) (z3 : 3 ≤ X.size) (z4 : ((X.extract 0 3).toList == [66, 66, 3]) = false)  :
    Calls Try.prog 14 #[fr D S false p v t X] w fun e w' => e = .returned (.tuple #[bp zeroB, .int .i64 10]) ∧ Below w.heap.size w w' := by
  have bel := Bx.bel_box (Bx.box_below w (Obj.cells #[.int .u64 D, .int .u64 S, .bool false, .int .i64 p, .int .i64 v, .int .i64 t, .string X] 29)) (Obj.cells (bpl zeroB).toArray 26)
  have O0 := Lib.hid (Bx.Own.new_at (W := w.alloc (Obj.cells #[.int .u64 D, .int .u64 S, .bool false, .int .i64 p, .int .i64 v, .int .i64 t, .string X] 29)) (k := w.heap.size + 1) (bpl zeroB) 26 (by simp))
  have B0 := Lib.hid ((Bx.Blk.new w [.int .u64 D, .int .u64 S, .bool false, .int .i64 p, .int .i64 v, .int .i64 t, .string X] 29).more (Obj.cells (bpl zeroB).toArray 26))
  obtain ⟨c0, c1, c2, c3, c4, c5, c6⟩ := B0.out.all7
  go_enter Try.func14, Try.ntmps14
  go_wp2_with ((with_reducible refine store_at ?_ ?_ (w.heap.size + 1) zeroB zeroB ?_ ?_ ?_ ?_); (· rfl); (· rfl); (· rfl); (· rfl); (· exact O0.out))
  have O1 := Lib.hid (O0.out.put (m := bpl zeroB) rfl)
  exact bodyPost_ret (v := .tuple #[bp zeroB, .int .i64 10]) (results_bp Try.results14 rfl rfl O1.out.blk) rfl ⟨rfl, Bx.bel_cells (m := bpl zeroB) bel (Nat.le_succ _)⟩

set_option maxHeartbeats 1000000 in
theorem rof_low (D S : Int) (p v t : Int) (X : ByteArray) (w : World) (e1 : (D != 1652522221568) = false) (e3 : t ≤ 1500) (z3 : 3 ≤ X.size) (z4 : ((X.extract 0 3).toList == [66, 66, 3]) = true) (e4 : t < 3) :
    Calls Try.prog 14 #[fr D S false p v t X] w fun e w' => e = .returned (.tuple #[bp zeroB, .int .i64 2]) ∧ Below w.heap.size w w' := by
  have bel := Bx.bel_box (Bx.box_below w (Obj.cells #[.int .u64 D, .int .u64 S, .bool false, .int .i64 p, .int .i64 v, .int .i64 t, .string X] 29)) (Obj.cells (bpl zeroB).toArray 26)
  have O0 := Lib.hid (Bx.Own.new_at (W := w.alloc (Obj.cells #[.int .u64 D, .int .u64 S, .bool false, .int .i64 p, .int .i64 v, .int .i64 t, .string X] 29)) (k := w.heap.size + 1) (bpl zeroB) 26 (by simp))
  have B0 := Lib.hid ((Bx.Blk.new w [.int .u64 D, .int .u64 S, .bool false, .int .i64 p, .int .i64 v, .int .i64 t, .string X] 29).more (Obj.cells (bpl zeroB).toArray 26))
  obtain ⟨c0, c1, c2, c3, c4, c5, c6⟩ := B0.out.all7
  go_enter Try.func14, Try.ntmps14
  go_wp2_with ((with_reducible refine store_at ?_ ?_ (w.heap.size + 1) zeroB zeroB ?_ ?_ ?_ ?_); (· rfl); (· rfl); (· rfl); (· rfl); (· exact O0.out))
  have O1 := Lib.hid (O0.out.put (m := bpl zeroB) rfl)
  exact bodyPost_ret (v := .tuple #[bp zeroB, .int .i64 2]) (results_bp Try.results14 rfl rfl O1.out.blk) rfl ⟨rfl, Bx.bel_cells (m := bpl zeroB) bel (Nat.le_succ _)⟩

set_option maxHeartbeats 1000000 in
theorem rof_cut (D S : Int) (p v t : Int) (X : ByteArray) (w : World) (e1 : (D != 1652522221568) = false) (e3 : t ≤ 1500) (z3 : 3 ≤ X.size) (z4 : ((X.extract 0 3).toList == [66, 66, 3]) = true) (e4 : 3 ≤ t) (e5 : (X.size : Int) < t) :
    Calls Try.prog 14 #[fr D S false p v t X] w fun e w' => e = .returned (.tuple #[bp zeroB, .int .i64 2]) ∧ Below w.heap.size w w' := by
  have bel := Bx.bel_box (Bx.box_below w (Obj.cells #[.int .u64 D, .int .u64 S, .bool false, .int .i64 p, .int .i64 v, .int .i64 t, .string X] 29)) (Obj.cells (bpl zeroB).toArray 26)
  have O0 := Lib.hid (Bx.Own.new_at (W := w.alloc (Obj.cells #[.int .u64 D, .int .u64 S, .bool false, .int .i64 p, .int .i64 v, .int .i64 t, .string X] 29)) (k := w.heap.size + 1) (bpl zeroB) 26 (by simp))
  have B0 := Lib.hid ((Bx.Blk.new w [.int .u64 D, .int .u64 S, .bool false, .int .i64 p, .int .i64 v, .int .i64 t, .string X] 29).more (Obj.cells (bpl zeroB).toArray 26))
  obtain ⟨c0, c1, c2, c3, c4, c5, c6⟩ := B0.out.all7
  go_enter Try.func14, Try.ntmps14
  go_wp2_with ((with_reducible refine store_at ?_ ?_ (w.heap.size + 1) zeroB zeroB ?_ ?_ ?_ ?_); (· rfl); (· rfl); (· rfl); (· rfl); (· exact O0.out))
  have O1 := Lib.hid (O0.out.put (m := bpl zeroB) rfl)
  exact bodyPost_ret (v := .tuple #[bp zeroB, .int .i64 2]) (results_bp Try.results14 rfl rfl O1.out.blk) rfl ⟨rfl, Bx.bel_cells (m := bpl zeroB) bel (Nat.le_succ _)⟩

set_option maxHeartbeats 1000000 in
theorem rof_read (D S : Int) (p v t : Int) (X : ByteArray) (b : Bp) (E : Int) (w : World) (e1 : (D != 1652522221568) = false) (e3 : t ≤ 1500) (z3 : 3 ≤ X.size) (z4 : ((X.extract 0 3).toList == [66, 66, 3]) = true) (e4 : 3 ≤ t) (e5 : t ≤ (X.size : Int))
    (HR : Hid (∀ w, Calls Try.prog 10 #[.string (X.extract 3 t.toNat)] w fun e w' => e = .returned (.tuple #[bp b, .int .i64 E]) ∧ Below w.heap.size w w')) :
    Calls Try.prog 14 #[fr D S false p v t X] w fun e w' => e = .returned (.tuple #[bp b, .int .i64 E]) ∧ Below w.heap.size w w' := by
  have bel := Bx.bel_box (Bx.box_below w (Obj.cells #[.int .u64 D, .int .u64 S, .bool false, .int .i64 p, .int .i64 v, .int .i64 t, .string X] 29)) (Obj.cells (bpl zeroB).toArray 26)
  have O0 := Lib.hid (Bx.Own.new_at (W := w.alloc (Obj.cells #[.int .u64 D, .int .u64 S, .bool false, .int .i64 p, .int .i64 v, .int .i64 t, .string X] 29)) (k := w.heap.size + 1) (bpl zeroB) 26 (by simp))
  have B0 := Lib.hid ((Bx.Blk.new w [.int .u64 D, .int .u64 S, .bool false, .int .i64 p, .int .i64 v, .int .i64 t, .string X] 29).more (Obj.cells (bpl zeroB).toArray 26))
  obtain ⟨c0, c1, c2, c3, c4, c5, c6⟩ := B0.out.all7
  go_enter Try.func14, Try.ntmps14
  go_wp2_with fail
  refine (HR.out _).mono ?_; rintro e w1 ⟨rfl, hb1⟩
  replace bel := Bx.then_below bel hb1
  replace O0 := Lib.hid (O0.out.keep hb1)
  clear hb1
  go_wp2_with ((with_reducible refine store_at ?_ ?_ (w.heap.size + 1) zeroB b ?_ ?_ ?_ ?_); (· rfl); (· rfl); (· rfl); (· rfl); (· exact O0.out))
  have O1 := Lib.hid (O0.out.put (m := bpl b) rfl)
  exact bodyPost_ret (v := .tuple #[bp b, .int .i64 E]) (results_bp Try.results14 rfl rfl O1.out.blk) rfl ⟨rfl, Bx.bel_cells (m := bpl b) bel (Nat.le_succ _)⟩

theorem link_tiny (X : ByteArray) (h : X.size < 3) : linkB X = false := by
  have hl : X.data.toList.length < 3 := by rw [Array.length_toList]; exact h
  unfold linkB
  match X.data.toList, hl with
  | [], _ => rfl
  | [a], _ => simp [Lib.hasPrefix, List.isPrefixOf]
  | [a, b], _ => simp [Lib.hasPrefix, List.isPrefixOf]

theorem link_three (X : ByteArray) (h : 3 ≤ X.size) : linkB X = ((X.extract 0 3).toList == [66, 66, 3]) := by
  have hl : 3 ≤ X.data.toList.length := by rw [Array.length_toList]; exact h
  match hm : X.data.toList, hl with
  | a :: b :: c :: r, _ =>
    have e : X.extract 0 3 = ofL [a, b, c] := by
      have q := extract_within [] [a, b, c] r 0 3 rfl rfl
      simp only [List.nil_append, List.cons_append, Nat.zero_add] at q
      rw [← hm, ofL_self] at q
      exact q
    rw [e, ByteArray.toList_eq]
    unfold linkB
    rw [hm]
    rw [show (ofL [a, b, c]).data.toList = [a, b, c] by simp]
    have e2 : Lib.hasPrefix (a :: b :: c :: r) [66, 66, 3] = ((66 == a) && ((66 == b) && ((3 == c) && true))) := by simp [Lib.hasPrefix, List.isPrefixOf]
    rw [e2]
    rw [Bool.eq_iff_iff, Bool.and_eq_true, Bool.and_eq_true, Bool.and_eq_true, beq_iff_eq, beq_iff_eq, beq_iff_eq, beq_iff_eq]
    constructor
    · rintro ⟨rfl, rfl, rfl, _⟩
      rfl
    · intro q
      simp only [List.cons.injEq, and_true] at q
      exact ⟨q.1.symm, q.2.1.symm, q.2.2.symm, rfl⟩

theorem rof_any (d s : Nat) (g : Bool) (p v t : Int) (X : ByteArray) (w : World) (hX : X.size ≤ 9223372036854775807) :
    Calls Try.prog 14 #[fr d s g p v t X] w fun e w' => e = .returned (.tuple #[bp (oVal d g t X), .int .i64 (oErr d g t X)]) ∧ Below w.heap.size w w' := by
  by_cases hd : d = 1652522221568
  case neg =>
    have c : d ≠ 1652522221568 ∨ g = true ∨ 1500 < t ∨ linkB X = false := Or.inl hd
    unfold oVal oErr
    rw [if_pos c, if_pos c]
    exact rof_dst d s g p v t X w (by rw [bne_iff_ne]; omega)
  have e1 : ((d : Int) != 1652522221568) = false := by rw [hd]; rfl
  cases g
  case true =>
    have c : d ≠ 1652522221568 ∨ true = true ∨ 1500 < t ∨ linkB X = false := Or.inr (Or.inl rfl)
    unfold oVal oErr
    rw [if_pos c, if_pos c]
    exact rof_tag d s p v t X w e1
  by_cases ht : 1500 < t
  · have c : d ≠ 1652522221568 ∨ false = true ∨ 1500 < t ∨ linkB X = false := Or.inr (Or.inr (Or.inl ht))
    unfold oVal oErr
    rw [if_pos c, if_pos c]
    exact rof_long d s p v t X w e1 ht
  by_cases hz : X.size < 3
  · have c : d ≠ 1652522221568 ∨ false = true ∨ 1500 < t ∨ linkB X = false := Or.inr (Or.inr (Or.inr (link_tiny X hz)))
    unfold oVal oErr
    rw [if_pos c, if_pos c]
    exact rof_tiny d s p v t X w e1 (by omega) hz
  have lt := link_three X (by omega)
  cases hl : linkB X
  · have c : d ≠ 1652522221568 ∨ false = true ∨ 1500 < t ∨ linkB X = false := Or.inr (Or.inr (Or.inr hl))
    unfold oVal oErr
    rw [if_pos c, if_pos c]
    exact rof_link d s p v t X w e1 (by omega) (by omega) (by rw [← lt]; exact hl)
  have z4 : ((X.extract 0 3).toList == [66, 66, 3]) = true := by rw [← lt]; exact hl
  have c : ¬ (d ≠ 1652522221568 ∨ false = true ∨ 1500 < t ∨ linkB X = false) := by rw [hl]; simp [hd]; omega
  unfold oVal oErr
  rw [if_neg c, if_neg c]
  by_cases h3 : t < 3
  · rw [if_pos (Or.inl h3), if_pos (Or.inl h3)]
    exact rof_low d s p v t X w e1 (by omega) (by omega) z4 h3
  by_cases hc : (X.size : Int) < t
  · rw [if_pos (Or.inr hc), if_pos (Or.inr hc)]
    exact rof_cut d s p v t X w e1 (by omega) (by omega) z4 (by omega) hc
  rw [if_neg (by omega), if_neg (by omega)]
  exact rof_read d s p v t X _ _ w e1 (by omega) (by omega) z4 (by omega) (by omega) (Lib.hid fun w => rread_any (X.extract 3 t.toNat) w (by rw [ByteArray.size_extract]; omega))

end Bpd
end Go.Proofs.Ytiokkahldhmhlaa
