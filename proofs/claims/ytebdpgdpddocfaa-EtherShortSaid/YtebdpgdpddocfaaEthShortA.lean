/-
  The law EtherShort.
-/
import Derived.Test.YtebdpgdpddocfaaEthAwake
import Derived.Test.YtebdpgdpddocfaaEthOpen
import Derived.Test.YtebdpgdpddocfaaEthBox
import Derived.Test.YtebdpgdpddocfaaRows
import Derived.Deep.DeepCutAuto
namespace Go.Proofs.Ytebdpgdpddocfaa
open Go.RowKit
namespace Eth
open Oct Mac

theorem short_big (d s p v t y : Int) (g : Bool) (b : ByteArray) (w : World) (hz : 12000 < b.size) :
    Calls Try.prog 6 #[fr d s g p v t b, .int .u64 y] w fun e w' => e = .returned (.bool true) ∧ Below w.heap.size w w' := by
  go_enter Try.func6, Try.ntmps6
  go_wp2_with fail
  have bel := box_below w (Obj.cells #[Value.int IntKind.u64 d, Value.int IntKind.u64 s, Value.bool g, Value.int IntKind.i64 p, Value.int IntKind.i64 v, Value.int IntKind.i64 t, Value.string b] 25)
  refine (eawake_any _).mono ?_; rintro e w9 ⟨rfl, hb9⟩
  go_wp2_with fail
  go_ret
  exact ⟨rfl, then_below bel hb9⟩

set_option maxRecDepth 100000 in
set_option maxHeartbeats 4000000 in
theorem short_yes (d s p v t y : Int) (g : Bool) (b q : ByteArray) (w : World) (hz : b.size ≤ 12000) (hq1 : 46 ≤ q.size) (hq2 : b.size ≤ q.size) (hq3 : q.extract 0 b.size = b)
    (HS1 : Hid (∀ w, Calls Try.prog 19 #[fr d s g p v t b] w fun e w' => e = .returned (fr d s g p v t q) ∧ Below w.heap.size w w'))
    (HS2 : Hid (∀ w, Calls Try.prog 21 #[fr d s g p v t b] w fun e w' => e = .returned (fr d s g p v t q) ∧ Below w.heap.size w w'))
    (HR1 : Hid (∀ w, Calls Try.prog 13 #[fr d s g p v t b] w fun e w' => e = .returned (.bool true) ∧ Below w.heap.size w w'))
    (HR2 : Hid (∀ w, Calls Try.prog 13 #[fr d s g p v t q] w fun e w' => e = .returned (.bool true) ∧ Below w.heap.size w w')) :
    Calls Try.prog 6 #[fr d s g p v t b, .int .u64 y] w fun e w' => e = .returned (.bool true) ∧ Below w.heap.size w w' := by
  have x1 : decide ((q.size : Int) < 46) = false := by simp; omega
  have x2 : (0 : Int) ≤ (b.size : Int) := by omega
  have x3 : (b.size : Int) ≤ (q.size : Int) := by omega
  have x4 : (b.toList != b.toList) = false := by simp
  have x5 : (b.toList == b.toList) = true := by simp
  have x6 : (q.toList == q.toList) = true := by simp
  have x7 : (q.toList != q.toList) = false := by simp
  have xd : (d == d) = true := by simp
  have xs : (s == s) = true := by simp
  have xp : (p == p) = true := by simp
  have xv : (v == v) = true := by simp
  have xt : (t == t) = true := by simp
  have xy : (y == y) = true := by simp
  have xg : (g == g) = true := by simp
  have hfd : ∀ w : World, (Instr.field 25 (.agg #[.int .u64 y, .int .u64 d, .bool g, .int .i64 p, .int .i64 v, .int .i64 t, .string b]) 0).run Try.prog w = .ok (.int .u64 y) w := fun _ => by kernel_rfl
  have HTu : Hid (∀ w, Calls Try.prog 20 #[fr s y g p v t b, .int .u64 d] w fun e w' => e = .returned (.agg #[.int .u64 y, .int .u64 d, .bool g, .int .i64 p, .int .i64 v, .int .i64 t, .string b]) ∧ Below w.heap.size w w') := Lib.hid fun w => turn_any s y g p v t b d w
  go_enter Try.func6, Try.ntmps6
  go_upto_region 3 with fail
  go_cut [5, 6] (fun s5 s6 wx => ∃ k k2 : Nat, s5 = .pointer (some ⟨k, 0, none⟩) ∧ s6 = .pointer (some ⟨k2, 0, none⟩) ∧ Below w.heap.size w wx ∧ Has wx w.heap.size d s g p v t b ∧ Has wx k d s g p v t q ∧ Has wx k2 s y g p v t b)
  case first =>
    have HS := cell_set
    go_region_held3 (fun w' => w'.cell? ⟨w.heap.size, 0, none⟩ = some (.int .u64 d) ∧ w'.cell? ⟨w.heap.size, 1, none⟩ = some (.int .u64 s) ∧ w'.cell? ⟨w.heap.size, 2, none⟩ = some (.bool g) ∧ w'.cell? ⟨w.heap.size, 3, none⟩ = some (.int .i64 p) ∧ w'.cell? ⟨w.heap.size, 4, none⟩ = some (.int .i64 v) ∧ w'.cell? ⟨w.heap.size, 5, none⟩ = some (.int .i64 t) ∧ w'.cell? ⟨w.heap.size, 6, none⟩ = some (.string b))
      (with_reducible refine Has.out ?_; (repeat (first | with_reducible refine Has.draw ?_ | (with_reducible refine Has.new ?_; first | with_reducible rfl | (simp; done)) | with_reducible refine Has.put ?_ _ _ _ _ _ _ _ | with_reducible refine Has.more ?_ _ | (with_reducible refine Has.apart7 ?_ ?_; omega) | with_reducible refine Has.keep ?_ hb2 | with_reducible refine Has.keep ?_ hb1)); done)
      (first | (go_at_call 19; with_reducible refine (HS1.out _).mono ?_; rintro e w1 ⟨rfl, hb1⟩; obtain ⟨hc1, hf1⟩ := bcell hb1; (try (have za1 : w.heap.size < w1.heap.size := by (have zz := hb1.size; (try simp at zz); omega))); (try (have za2 : w.heap.size + 1 < w1.heap.size := by (have zz := hb1.size; (try simp at zz); omega))); (try (have za3 : w.heap.size + 1 + 1 < w1.heap.size := by (have zz := hb1.size; (try simp at zz); omega)))) | (go_at_call 20; with_reducible refine (turn_any d s g p v t b y _).mono ?_; rintro e w2 ⟨rfl, hb2⟩; obtain ⟨hc2, hf2⟩ := bcell hb2; (try (have zb1 : w.heap.size < w2.heap.size := by (have zz := hb2.size; (try simp at zz); omega))); (try (have zb2 : w.heap.size + 1 < w2.heap.size := by (have zz := hb2.size; (try simp at zz); omega))); (try (have zb3 : w.heap.size + 1 + 1 < w2.heap.size := by (have zz := hb2.size; (try simp at zz); omega))); (try (have zb4 : w1.heap.size < w2.heap.size := by (have zz := hb2.size; (try simp at zz); omega))); (try (have zb5 : w1.heap.size + 1 < w2.heap.size := by (have zz := hb2.size; (try simp at zz); omega))); (try (have zb6 : w1.heap.size ≤ w2.heap.size := by (have zz := hb2.size; (try simp at zz); omega))); (try (have n0 : ¬ w1.heap.size = w2.heap.size := by omega)); (try (have m0 : ¬ w2.heap.size = w1.heap.size := by omega)); (try (have n1 : ¬ w1.heap.size + 1 = w2.heap.size := by omega)); (try (have m1 : ¬ w2.heap.size = w1.heap.size + 1 := by omega)); (try (have n2 : ¬ w1.heap.size = w2.heap.size + 1 := by omega)); (try (have m2 : ¬ w2.heap.size + 1 = w1.heap.size := by omega)); (try (have n3 : ¬ w1.heap.size + 1 = w2.heap.size + 1 := by omega)); (try (have m3 : ¬ w2.heap.size + 1 = w1.heap.size + 1 := by omega)); (try (have n4 : ¬ w.heap.size + 1 = w2.heap.size := by omega)); (try (have m4 : ¬ w2.heap.size = w.heap.size + 1 := by omega)); (try (have n5 : ¬ w.heap.size + 1 + 1 = w2.heap.size := by omega)); (try (have m5 : ¬ w2.heap.size = w.heap.size + 1 + 1 := by omega)); (try (have n6 : ¬ w.heap.size + 1 = w1.heap.size := by omega)); (try (have m6 : ¬ w1.heap.size = w.heap.size + 1 := by omega)); (try (have n7 : ¬ w.heap.size + 1 + 1 = w1.heap.size := by omega)); (try (have m7 : ¬ w1.heap.size = w.heap.size + 1 + 1 := by omega)); (try (have n8 : ¬ w.heap.size + 1 = w1.heap.size + 1 := by omega)); (try (have m8 : ¬ w1.heap.size + 1 = w.heap.size + 1 := by omega))))
    all_goals (go_wp2_with fail; go_meet; refine ⟨_, _, rfl, rfl, ?_, ?_, ?_, ?_⟩)
    all_goals (try clear HS hc1 hf1 hc2 hf2)
    all_goals first | ((repeat (first | with_reducible refine bel_draw ?_ | with_reducible refine bel_alloc ?_ _ | (with_reducible refine bel_set7 ?_ ?_; omega) | with_reducible refine then_below ?_ hb2 | with_reducible refine then_below ?_ hb1 | with_reducible exact Below.refl _ _)); done) | ((repeat (first | with_reducible refine Has.draw ?_ | (with_reducible refine Has.new ?_; first | with_reducible rfl | (simp; done)) | with_reducible refine Has.put ?_ _ _ _ _ _ _ _ | with_reducible refine Has.more ?_ _ | (with_reducible refine Has.apart7 ?_ ?_; omega) | with_reducible refine Has.keep ?_ hb2 | with_reducible refine Has.keep ?_ hb1)); done)
  case rest =>
    obtain ⟨k, k2, rfl, rfl, bel, ⟨c0, c1, c2, c3, c4, c5, c6⟩, ⟨e0, e1, e2, e3, e4, e5, e6⟩, ⟨f0, f1, f2, f3, f4, f5, f6⟩⟩ := hcut
    go_wp2_with fail
    go_region_held3 (fun w' => w'.cell? ⟨w.heap.size, 0, none⟩ = some (.int .u64 d) ∧ w'.cell? ⟨w.heap.size, 1, none⟩ = some (.int .u64 s) ∧ w'.cell? ⟨w.heap.size, 2, none⟩ = some (.bool g) ∧ w'.cell? ⟨w.heap.size, 3, none⟩ = some (.int .i64 p) ∧ w'.cell? ⟨w.heap.size, 4, none⟩ = some (.int .i64 v) ∧ w'.cell? ⟨w.heap.size, 5, none⟩ = some (.int .i64 t) ∧ w'.cell? ⟨w.heap.size, 6, none⟩ = some (.string b) ∧ w'.cell? ⟨k, 0, none⟩ = some (.int .u64 d) ∧ w'.cell? ⟨k, 1, none⟩ = some (.int .u64 s) ∧ w'.cell? ⟨k, 2, none⟩ = some (.bool g) ∧ w'.cell? ⟨k, 3, none⟩ = some (.int .i64 p) ∧ w'.cell? ⟨k, 4, none⟩ = some (.int .i64 v) ∧ w'.cell? ⟨k, 5, none⟩ = some (.int .i64 t) ∧ w'.cell? ⟨k, 6, none⟩ = some (.string q) ∧ w'.cell? ⟨k2, 0, none⟩ = some (.int .u64 s) ∧ w'.cell? ⟨k2, 1, none⟩ = some (.int .u64 y) ∧ w'.cell? ⟨k2, 2, none⟩ = some (.bool g) ∧ w'.cell? ⟨k2, 3, none⟩ = some (.int .i64 p) ∧ w'.cell? ⟨k2, 4, none⟩ = some (.int .i64 v) ∧ w'.cell? ⟨k2, 5, none⟩ = some (.int .i64 t) ∧ w'.cell? ⟨k2, 6, none⟩ = some (.string b))
      (first | go_keep | (go_split_ands; exact ⟨keep_cell (by assumption) (by assumption), keep_cell (by assumption) (by assumption), keep_cell (by assumption) (by assumption), keep_cell (by assumption) (by assumption), keep_cell (by assumption) (by assumption), keep_cell (by assumption) (by assumption), keep_cell (by assumption) (by assumption), keep_cell (by assumption) (by assumption), keep_cell (by assumption) (by assumption), keep_cell (by assumption) (by assumption), keep_cell (by assumption) (by assumption), keep_cell (by assumption) (by assumption), keep_cell (by assumption) (by assumption), keep_cell (by assumption) (by assumption), keep_cell (by assumption) (by assumption), keep_cell (by assumption) (by assumption), keep_cell (by assumption) (by assumption), keep_cell (by assumption) (by assumption), keep_cell (by assumption) (by assumption), keep_cell (by assumption) (by assumption), keep_cell (by assumption) (by assumption)⟩))
      (first | (go_at_call 21; with_reducible refine (HS2.out _).mono ?_; rintro e w4 ⟨rfl, hb4⟩) | (go_at_call 22; with_reducible refine (rturn_any d s g p v t b y _).mono ?_; rintro e w5 ⟨rfl, hb5⟩) | (go_at_call 13; with_reducible refine (HR1.out _).mono ?_; rintro e w6 ⟨rfl, hb6⟩) | (go_at_call 13; with_reducible refine (HR2.out _).mono ?_; rintro e w7 ⟨rfl, hb7⟩))
    have bel := then_below (then_below (then_below (bel_drew bel hb4) hb5) hb6) hb7
    clear c0 c1 c2 c3 c4 c5 c6 e0 e1 e2 e3 e4 e5 e6 f0 f1 f2 f3 f4 f5 f6
    obtain ⟨c0, c1, c2, c3, c4, c5, c6, e0, e1, e2, e3, e4, e5, e6, f0, f1, f2, f3, f4, f5, f6⟩ : w7.cell? ⟨w.heap.size, 0, none⟩ = some (.int .u64 d) ∧ w7.cell? ⟨w.heap.size, 1, none⟩ = some (.int .u64 s) ∧ w7.cell? ⟨w.heap.size, 2, none⟩ = some (.bool g) ∧ w7.cell? ⟨w.heap.size, 3, none⟩ = some (.int .i64 p) ∧ w7.cell? ⟨w.heap.size, 4, none⟩ = some (.int .i64 v) ∧ w7.cell? ⟨w.heap.size, 5, none⟩ = some (.int .i64 t) ∧ w7.cell? ⟨w.heap.size, 6, none⟩ = some (.string b) ∧ w7.cell? ⟨k, 0, none⟩ = some (.int .u64 d) ∧ w7.cell? ⟨k, 1, none⟩ = some (.int .u64 s) ∧ w7.cell? ⟨k, 2, none⟩ = some (.bool g) ∧ w7.cell? ⟨k, 3, none⟩ = some (.int .i64 p) ∧ w7.cell? ⟨k, 4, none⟩ = some (.int .i64 v) ∧ w7.cell? ⟨k, 5, none⟩ = some (.int .i64 t) ∧ w7.cell? ⟨k, 6, none⟩ = some (.string q) ∧ w7.cell? ⟨k2, 0, none⟩ = some (.int .u64 s) ∧ w7.cell? ⟨k2, 1, none⟩ = some (.int .u64 y) ∧ w7.cell? ⟨k2, 2, none⟩ = some (.bool g) ∧ w7.cell? ⟨k2, 3, none⟩ = some (.int .i64 p) ∧ w7.cell? ⟨k2, 4, none⟩ = some (.int .i64 v) ∧ w7.cell? ⟨k2, 5, none⟩ = some (.int .i64 t) ∧ w7.cell? ⟨k2, 6, none⟩ = some (.string b) := by assumption
    go_wp2_with fail
    refine (HTu.out _).mono ?_; rintro e w8 ⟨rfl, hb8⟩
    go_wp2_with fail
    refine (eawake_any _).mono ?_; rintro e w9 ⟨rfl, hb9⟩
    go_wp2_with fail
    go_ret
    exact ⟨rfl, then_below (then_below bel hb8) hb9⟩

set_option maxRecDepth 100000 in
set_option maxHeartbeats 4000000 in
theorem short_not (d s p v t y : Int) (g : Bool) (b q : ByteArray) (w : World) (hz : b.size ≤ 12000) (hq1 : 46 ≤ q.size) (hq2 : b.size ≤ q.size) (hq3 : q.extract 0 b.size = b)
    (HS1 : Hid (∀ w, Calls Try.prog 19 #[fr d s g p v t b] w fun e w' => e = .returned (fr d s g p v t q) ∧ Below w.heap.size w w'))
    (HS2 : Hid (∀ w, Calls Try.prog 21 #[fr d s g p v t b] w fun e w' => e = .returned (fr d s g p v t q) ∧ Below w.heap.size w w'))
    (HR1 : Hid (∀ w, Calls Try.prog 13 #[fr d s g p v t b] w fun e w' => e = .returned (.bool false) ∧ Below w.heap.size w w')) :
    Calls Try.prog 6 #[fr d s g p v t b, .int .u64 y] w fun e w' => e = .returned (.bool true) ∧ Below w.heap.size w w' := by
  have x1 : decide ((q.size : Int) < 46) = false := by simp; omega
  have x2 : (0 : Int) ≤ (b.size : Int) := by omega
  have x3 : (b.size : Int) ≤ (q.size : Int) := by omega
  have x4 : (b.toList != b.toList) = false := by simp
  have x5 : (b.toList == b.toList) = true := by simp
  have x6 : (q.toList == q.toList) = true := by simp
  have x7 : (q.toList != q.toList) = false := by simp
  have xd : (d == d) = true := by simp
  have xs : (s == s) = true := by simp
  have xp : (p == p) = true := by simp
  have xv : (v == v) = true := by simp
  have xt : (t == t) = true := by simp
  have xy : (y == y) = true := by simp
  have xg : (g == g) = true := by simp
  have hfd : ∀ w : World, (Instr.field 25 (.agg #[.int .u64 y, .int .u64 d, .bool g, .int .i64 p, .int .i64 v, .int .i64 t, .string b]) 0).run Try.prog w = .ok (.int .u64 y) w := fun _ => by kernel_rfl
  have HTu : Hid (∀ w, Calls Try.prog 20 #[fr s y g p v t b, .int .u64 d] w fun e w' => e = .returned (.agg #[.int .u64 y, .int .u64 d, .bool g, .int .i64 p, .int .i64 v, .int .i64 t, .string b]) ∧ Below w.heap.size w w') := Lib.hid fun w => turn_any s y g p v t b d w
  go_enter Try.func6, Try.ntmps6
  go_upto_region 3 with fail
  go_cut [5, 6] (fun s5 s6 wx => ∃ k k2 : Nat, s5 = .pointer (some ⟨k, 0, none⟩) ∧ s6 = .pointer (some ⟨k2, 0, none⟩) ∧ Below w.heap.size w wx ∧ Has wx w.heap.size d s g p v t b ∧ Has wx k d s g p v t q ∧ Has wx k2 s y g p v t b)
  case first =>
    have HS := cell_set
    go_region_held3 (fun w' => w'.cell? ⟨w.heap.size, 0, none⟩ = some (.int .u64 d) ∧ w'.cell? ⟨w.heap.size, 1, none⟩ = some (.int .u64 s) ∧ w'.cell? ⟨w.heap.size, 2, none⟩ = some (.bool g) ∧ w'.cell? ⟨w.heap.size, 3, none⟩ = some (.int .i64 p) ∧ w'.cell? ⟨w.heap.size, 4, none⟩ = some (.int .i64 v) ∧ w'.cell? ⟨w.heap.size, 5, none⟩ = some (.int .i64 t) ∧ w'.cell? ⟨w.heap.size, 6, none⟩ = some (.string b))
      (with_reducible refine Has.out ?_; (repeat (first | with_reducible refine Has.draw ?_ | (with_reducible refine Has.new ?_; first | with_reducible rfl | (simp; done)) | with_reducible refine Has.put ?_ _ _ _ _ _ _ _ | with_reducible refine Has.more ?_ _ | (with_reducible refine Has.apart7 ?_ ?_; omega) | with_reducible refine Has.keep ?_ hb2 | with_reducible refine Has.keep ?_ hb1)); done)
      (first | (go_at_call 19; with_reducible refine (HS1.out _).mono ?_; rintro e w1 ⟨rfl, hb1⟩; obtain ⟨hc1, hf1⟩ := bcell hb1; (try (have za1 : w.heap.size < w1.heap.size := by (have zz := hb1.size; (try simp at zz); omega))); (try (have za2 : w.heap.size + 1 < w1.heap.size := by (have zz := hb1.size; (try simp at zz); omega))); (try (have za3 : w.heap.size + 1 + 1 < w1.heap.size := by (have zz := hb1.size; (try simp at zz); omega)))) | (go_at_call 20; with_reducible refine (turn_any d s g p v t b y _).mono ?_; rintro e w2 ⟨rfl, hb2⟩; obtain ⟨hc2, hf2⟩ := bcell hb2; (try (have zb1 : w.heap.size < w2.heap.size := by (have zz := hb2.size; (try simp at zz); omega))); (try (have zb2 : w.heap.size + 1 < w2.heap.size := by (have zz := hb2.size; (try simp at zz); omega))); (try (have zb3 : w.heap.size + 1 + 1 < w2.heap.size := by (have zz := hb2.size; (try simp at zz); omega))); (try (have zb4 : w1.heap.size < w2.heap.size := by (have zz := hb2.size; (try simp at zz); omega))); (try (have zb5 : w1.heap.size + 1 < w2.heap.size := by (have zz := hb2.size; (try simp at zz); omega))); (try (have zb6 : w1.heap.size ≤ w2.heap.size := by (have zz := hb2.size; (try simp at zz); omega))); (try (have n0 : ¬ w1.heap.size = w2.heap.size := by omega)); (try (have m0 : ¬ w2.heap.size = w1.heap.size := by omega)); (try (have n1 : ¬ w1.heap.size + 1 = w2.heap.size := by omega)); (try (have m1 : ¬ w2.heap.size = w1.heap.size + 1 := by omega)); (try (have n2 : ¬ w1.heap.size = w2.heap.size + 1 := by omega)); (try (have m2 : ¬ w2.heap.size + 1 = w1.heap.size := by omega)); (try (have n3 : ¬ w1.heap.size + 1 = w2.heap.size + 1 := by omega)); (try (have m3 : ¬ w2.heap.size + 1 = w1.heap.size + 1 := by omega)); (try (have n4 : ¬ w.heap.size + 1 = w2.heap.size := by omega)); (try (have m4 : ¬ w2.heap.size = w.heap.size + 1 := by omega)); (try (have n5 : ¬ w.heap.size + 1 + 1 = w2.heap.size := by omega)); (try (have m5 : ¬ w2.heap.size = w.heap.size + 1 + 1 := by omega)); (try (have n6 : ¬ w.heap.size + 1 = w1.heap.size := by omega)); (try (have m6 : ¬ w1.heap.size = w.heap.size + 1 := by omega)); (try (have n7 : ¬ w.heap.size + 1 + 1 = w1.heap.size := by omega)); (try (have m7 : ¬ w1.heap.size = w.heap.size + 1 + 1 := by omega)); (try (have n8 : ¬ w.heap.size + 1 = w1.heap.size + 1 := by omega)); (try (have m8 : ¬ w1.heap.size + 1 = w.heap.size + 1 := by omega))))
    all_goals (go_wp2_with fail; go_meet; refine ⟨_, _, rfl, rfl, ?_, ?_, ?_, ?_⟩)
    all_goals (try clear HS hc1 hf1 hc2 hf2)
    all_goals first | ((repeat (first | with_reducible refine bel_draw ?_ | with_reducible refine bel_alloc ?_ _ | (with_reducible refine bel_set7 ?_ ?_; omega) | with_reducible refine then_below ?_ hb2 | with_reducible refine then_below ?_ hb1 | with_reducible exact Below.refl _ _)); done) | ((repeat (first | with_reducible refine Has.draw ?_ | (with_reducible refine Has.new ?_; first | with_reducible rfl | (simp; done)) | with_reducible refine Has.put ?_ _ _ _ _ _ _ _ | with_reducible refine Has.more ?_ _ | (with_reducible refine Has.apart7 ?_ ?_; omega) | with_reducible refine Has.keep ?_ hb2 | with_reducible refine Has.keep ?_ hb1)); done)
  case rest =>
    obtain ⟨k, k2, rfl, rfl, bel, ⟨c0, c1, c2, c3, c4, c5, c6⟩, ⟨e0, e1, e2, e3, e4, e5, e6⟩, ⟨f0, f1, f2, f3, f4, f5, f6⟩⟩ := hcut
    go_wp2_with fail
    refine wp_region_noPanic ?_
    refine wp_region_held_drew (S := fun w' => w'.cell? ⟨w.heap.size, 0, none⟩ = some (.int .u64 d) ∧ w'.cell? ⟨w.heap.size, 1, none⟩ = some (.int .u64 s) ∧ w'.cell? ⟨w.heap.size, 2, none⟩ = some (.bool g) ∧ w'.cell? ⟨w.heap.size, 3, none⟩ = some (.int .i64 p) ∧ w'.cell? ⟨w.heap.size, 4, none⟩ = some (.int .i64 v) ∧ w'.cell? ⟨w.heap.size, 5, none⟩ = some (.int .i64 t) ∧ w'.cell? ⟨w.heap.size, 6, none⟩ = some (.string b) ∧ w'.cell? ⟨k, 0, none⟩ = some (.int .u64 d) ∧ w'.cell? ⟨k, 1, none⟩ = some (.int .u64 s) ∧ w'.cell? ⟨k, 2, none⟩ = some (.bool g) ∧ w'.cell? ⟨k, 3, none⟩ = some (.int .i64 p) ∧ w'.cell? ⟨k, 4, none⟩ = some (.int .i64 v) ∧ w'.cell? ⟨k, 5, none⟩ = some (.int .i64 t) ∧ w'.cell? ⟨k, 6, none⟩ = some (.string q) ∧ w'.cell? ⟨k2, 0, none⟩ = some (.int .u64 s) ∧ w'.cell? ⟨k2, 1, none⟩ = some (.int .u64 y) ∧ w'.cell? ⟨k2, 2, none⟩ = some (.bool g) ∧ w'.cell? ⟨k2, 3, none⟩ = some (.int .i64 p) ∧ w'.cell? ⟨k2, 4, none⟩ = some (.int .i64 v) ∧ w'.cell? ⟨k2, 5, none⟩ = some (.int .i64 t) ∧ w'.cell? ⟨k2, 6, none⟩ = some (.string b)) (by kernel_rfl) (by exact ⟨c0, c1, c2, c3, c4, c5, c6, e0, e1, e2, e3, e4, e5, e6, f0, f1, f2, f3, f4, f5, f6⟩) (fun hHeld => ?_)
    refine wpAnyH_take (i := 0) (oi := ?o0) (v := ?v0) ?hi0 (by kernel_rfl) (by kernel_rfl) (by kernel_rfl) (fun _ _ _ h => h) ?y0 (by assumption) ?r0
    case hi0 => (simp only [List.getElem?_toArray, List.getElem?_cons_zero]; rfl)
    case y0 => (refine Or.inl ⟨by rfl, ?_⟩; intro w' hSw; (try dsimp only at hSw); go_simp; (try with_reducible rfl))
    try simp only [Act.put, List.setIfInBounds_toArray, List.set_cons_zero, List.set_cons_succ]
    refine wpAnyH_take (i := 1) (oi := ?o1) (v := ?v1) ?hi1 (by kernel_rfl) (by kernel_rfl) (by kernel_rfl) (fun _ _ _ h => h) ?y1 (by assumption) ?r1
    case hi1 => (simp only [List.getElem?_toArray, List.getElem?_cons_succ, List.getElem?_cons_zero]; rfl)
    case y1 => (refine Or.inl ⟨by rfl, ?_⟩; intro w' hSw; (try dsimp only at hSw); go_simp; (try with_reducible rfl))
    try simp only [Act.put, List.setIfInBounds_toArray, List.set_cons_zero, List.set_cons_succ]
    refine wpAnyH_ready (rs := [2]) (by kernel_rfl) (by simp) ?_
    refine AllReadyH.cons (o := ?o2) ?hi2 ?hst2 AllReadyH.nil
    case hi2 => (simp only [List.getElem?_toArray, List.getElem?_cons_succ, List.getElem?_cons_zero]; rfl)
    intro K hK
    go_simp
    (go_at_call 21; with_reducible refine (HS2.out _).mono ?_; rintro e w4 ⟨rfl, hb4⟩)
    go_wp2_with fail
    refine hK.out _ _ ⟨keep_cell hb4 hHeld.1, keep_cell hb4 hHeld.2.1, keep_cell hb4 hHeld.2.2.1, keep_cell hb4 hHeld.2.2.2.1, keep_cell hb4 hHeld.2.2.2.2.1, keep_cell hb4 hHeld.2.2.2.2.2.1, keep_cell hb4 hHeld.2.2.2.2.2.2.1, keep_cell hb4 hHeld.2.2.2.2.2.2.2.1, keep_cell hb4 hHeld.2.2.2.2.2.2.2.2.1, keep_cell hb4 hHeld.2.2.2.2.2.2.2.2.2.1, keep_cell hb4 hHeld.2.2.2.2.2.2.2.2.2.2.1, keep_cell hb4 hHeld.2.2.2.2.2.2.2.2.2.2.2.1, keep_cell hb4 hHeld.2.2.2.2.2.2.2.2.2.2.2.2.1, keep_cell hb4 hHeld.2.2.2.2.2.2.2.2.2.2.2.2.2.1, keep_cell hb4 hHeld.2.2.2.2.2.2.2.2.2.2.2.2.2.2.1, keep_cell hb4 hHeld.2.2.2.2.2.2.2.2.2.2.2.2.2.2.2.1, keep_cell hb4 hHeld.2.2.2.2.2.2.2.2.2.2.2.2.2.2.2.2.1, keep_cell hb4 hHeld.2.2.2.2.2.2.2.2.2.2.2.2.2.2.2.2.2.1, keep_cell hb4 hHeld.2.2.2.2.2.2.2.2.2.2.2.2.2.2.2.2.2.2.1, keep_cell hb4 hHeld.2.2.2.2.2.2.2.2.2.2.2.2.2.2.2.2.2.2.2.1, keep_cell hb4 hHeld.2.2.2.2.2.2.2.2.2.2.2.2.2.2.2.2.2.2.2.2⟩ (fun hNew => ?_)
    clear hHeld
    have hHeld := hNew
    clear hNew
    refine wpAnyH_take (i := 3) (oi := ?o3) (v := ?v3) ?hi3 (by kernel_rfl) (by kernel_rfl) (by kernel_rfl) (fun _ _ _ h => h) ?y3 (by assumption) ?r3
    case hi3 => (simp only [List.getElem?_toArray, List.getElem?_cons_succ, List.getElem?_cons_zero]; rfl)
    case y3 => (refine Or.inl ⟨by rfl, ?_⟩; intro w' hSw; (try dsimp only at hSw); go_simp; (try with_reducible rfl))
    try simp only [Act.put, List.setIfInBounds_toArray, List.set_cons_zero, List.set_cons_succ]
    refine wpAnyH_take (i := 4) (oi := ?o4) (v := ?v4) ?hi4 (by kernel_rfl) (by kernel_rfl) (by kernel_rfl) (fun _ _ _ h => h) ?y4 (by assumption) ?r4
    case hi4 => (simp only [List.getElem?_toArray, List.getElem?_cons_succ, List.getElem?_cons_zero]; rfl)
    case y4 => (refine Or.inl ⟨by rfl, ?_⟩; intro w' hSw; (try dsimp only at hSw); go_simp; (try with_reducible rfl))
    try simp only [Act.put, List.setIfInBounds_toArray, List.set_cons_zero, List.set_cons_succ]
    refine wpAnyH_take (i := 5) (oi := ?o5) (v := ?v5) ?hi5 (by kernel_rfl) (by kernel_rfl) (by kernel_rfl) (fun _ _ _ h => h) ?y5 (by assumption) ?r5
    case hi5 => (simp only [List.getElem?_toArray, List.getElem?_cons_succ, List.getElem?_cons_zero]; rfl)
    case y5 => (refine Or.inl ⟨by rfl, ?_⟩; intro w' hSw; (try dsimp only at hSw); go_simp; (try with_reducible rfl))
    try simp only [Act.put, List.setIfInBounds_toArray, List.set_cons_zero, List.set_cons_succ]
    refine wpAnyH_take (i := 6) (oi := ?o6) (v := ?v6) ?hi6 (by kernel_rfl) (by kernel_rfl) (by kernel_rfl) (fun _ _ _ h => h) ?y6 (by assumption) ?r6
    case hi6 => (simp only [List.getElem?_toArray, List.getElem?_cons_succ, List.getElem?_cons_zero]; rfl)
    case y6 => (refine Or.inl ⟨by rfl, ?_⟩; intro w' hSw; (try dsimp only at hSw); go_simp; (try with_reducible rfl))
    try simp only [Act.put, List.setIfInBounds_toArray, List.set_cons_zero, List.set_cons_succ]
    refine wpAnyH_take (i := 7) (oi := ?o7) (v := ?v7) ?hi7 (by kernel_rfl) (by kernel_rfl) (by kernel_rfl) (fun _ _ _ h => h) ?y7 (by assumption) ?r7
    case hi7 => (simp only [List.getElem?_toArray, List.getElem?_cons_succ, List.getElem?_cons_zero]; rfl)
    case y7 => (refine Or.inl ⟨by rfl, ?_⟩; intro w' hSw; (try dsimp only at hSw); go_simp; (try with_reducible rfl))
    try simp only [Act.put, List.setIfInBounds_toArray, List.set_cons_zero, List.set_cons_succ]
    refine wpAnyH_ready (rs := [8]) (by kernel_rfl) (by simp) ?_
    refine AllReadyH.cons (o := ?o8) ?hi8 ?hst8 AllReadyH.nil
    case hi8 => (simp only [List.getElem?_toArray, List.getElem?_cons_succ, List.getElem?_cons_zero]; rfl)
    intro K hK
    go_simp
    (go_at_call 22; with_reducible refine (rturn_any d s g p v t b y _).mono ?_; rintro e w5 ⟨rfl, hb5⟩)
    go_wp2_with fail
    refine hK.out _ _ ⟨keep_cell hb5 hHeld.1, keep_cell hb5 hHeld.2.1, keep_cell hb5 hHeld.2.2.1, keep_cell hb5 hHeld.2.2.2.1, keep_cell hb5 hHeld.2.2.2.2.1, keep_cell hb5 hHeld.2.2.2.2.2.1, keep_cell hb5 hHeld.2.2.2.2.2.2.1, keep_cell hb5 hHeld.2.2.2.2.2.2.2.1, keep_cell hb5 hHeld.2.2.2.2.2.2.2.2.1, keep_cell hb5 hHeld.2.2.2.2.2.2.2.2.2.1, keep_cell hb5 hHeld.2.2.2.2.2.2.2.2.2.2.1, keep_cell hb5 hHeld.2.2.2.2.2.2.2.2.2.2.2.1, keep_cell hb5 hHeld.2.2.2.2.2.2.2.2.2.2.2.2.1, keep_cell hb5 hHeld.2.2.2.2.2.2.2.2.2.2.2.2.2.1, keep_cell hb5 hHeld.2.2.2.2.2.2.2.2.2.2.2.2.2.2.1, keep_cell hb5 hHeld.2.2.2.2.2.2.2.2.2.2.2.2.2.2.2.1, keep_cell hb5 hHeld.2.2.2.2.2.2.2.2.2.2.2.2.2.2.2.2.1, keep_cell hb5 hHeld.2.2.2.2.2.2.2.2.2.2.2.2.2.2.2.2.2.1, keep_cell hb5 hHeld.2.2.2.2.2.2.2.2.2.2.2.2.2.2.2.2.2.2.1, keep_cell hb5 hHeld.2.2.2.2.2.2.2.2.2.2.2.2.2.2.2.2.2.2.2.1, keep_cell hb5 hHeld.2.2.2.2.2.2.2.2.2.2.2.2.2.2.2.2.2.2.2.2⟩ (fun hNew => ?_)
    clear hHeld
    have hHeld := hNew
    clear hNew
    refine wpAnyH_take (i := 9) (oi := ?o9) (v := ?v9) ?hi9 (by kernel_rfl) (by kernel_rfl) (by kernel_rfl) (fun _ _ _ h => h) ?y9 (by assumption) ?r9
    case hi9 => (simp only [List.getElem?_toArray, List.getElem?_cons_succ, List.getElem?_cons_zero]; rfl)
    case y9 => (refine Or.inl ⟨by rfl, ?_⟩; intro w' hSw; (try dsimp only at hSw); go_simp; (try with_reducible rfl))
    try simp only [Act.put, List.setIfInBounds_toArray, List.set_cons_zero, List.set_cons_succ]
    refine wpAnyH_take (i := 10) (oi := ?o10) (v := ?v10) ?hi10 (by kernel_rfl) (by kernel_rfl) (by kernel_rfl) (fun _ _ _ h => h) ?y10 (by assumption) ?r10
    case hi10 => (simp only [List.getElem?_toArray, List.getElem?_cons_succ, List.getElem?_cons_zero]; rfl)
    case y10 => (refine Or.inl ⟨by rfl, ?_⟩; intro w' hSw; (try dsimp only at hSw); go_simp; (try with_reducible rfl))
    try simp only [Act.put, List.setIfInBounds_toArray, List.set_cons_zero, List.set_cons_succ]
    refine wpAnyH_take (i := 11) (oi := ?o11) (v := ?v11) ?hi11 (by kernel_rfl) (by kernel_rfl) (by kernel_rfl) (fun _ _ _ h => h) ?y11 (by assumption) ?r11
    case hi11 => (simp only [List.getElem?_toArray, List.getElem?_cons_succ, List.getElem?_cons_zero]; rfl)
    case y11 => (refine Or.inl ⟨by rfl, ?_⟩; intro w' hSw; (try dsimp only at hSw); go_simp; (try with_reducible rfl))
    try simp only [Act.put, List.setIfInBounds_toArray, List.set_cons_zero, List.set_cons_succ]
    refine wpAnyH_take (i := 12) (oi := ?o12) (v := ?v12) ?hi12 (by kernel_rfl) (by kernel_rfl) (by kernel_rfl) (fun _ _ _ h => h) ?y12 (by assumption) ?r12
    case hi12 => (simp only [List.getElem?_toArray, List.getElem?_cons_succ, List.getElem?_cons_zero]; rfl)
    case y12 => (refine Or.inl ⟨by rfl, ?_⟩; intro w' hSw; (try dsimp only at hSw); go_simp; (try with_reducible rfl))
    try simp only [Act.put, List.setIfInBounds_toArray, List.set_cons_zero, List.set_cons_succ]
    refine wpAnyH_take (i := 13) (oi := ?o13) (v := ?v13) ?hi13 (by kernel_rfl) (by kernel_rfl) (by kernel_rfl) (fun _ _ _ h => h) ?y13 (by assumption) ?r13
    case hi13 => (simp only [List.getElem?_toArray, List.getElem?_cons_succ, List.getElem?_cons_zero]; rfl)
    case y13 => (refine Or.inl ⟨by rfl, ?_⟩; intro w' hSw; (try dsimp only at hSw); go_simp; (try with_reducible rfl))
    try simp only [Act.put, List.setIfInBounds_toArray, List.set_cons_zero, List.set_cons_succ]
    refine wpAnyH_take (i := 14) (oi := ?o14) (v := ?v14) ?hi14 (by kernel_rfl) (by kernel_rfl) (by kernel_rfl) (fun _ _ _ h => h) ?y14 (by assumption) ?r14
    case hi14 => (simp only [List.getElem?_toArray, List.getElem?_cons_succ, List.getElem?_cons_zero]; rfl)
    case y14 => (refine Or.inl ⟨by rfl, ?_⟩; intro w' hSw; (try dsimp only at hSw); go_simp; (try with_reducible rfl))
    try simp only [Act.put, List.setIfInBounds_toArray, List.set_cons_zero, List.set_cons_succ]
    refine wpAnyH_take (i := 15) (oi := ?o15) (v := ?v15) ?hi15 (by kernel_rfl) (by kernel_rfl) (by kernel_rfl) (fun _ _ _ h => h) ?y15 (by assumption) ?r15
    case hi15 => (simp only [List.getElem?_toArray, List.getElem?_cons_succ, List.getElem?_cons_zero]; rfl)
    case y15 => (refine Or.inl ⟨by rfl, ?_⟩; intro w' hSw; (try dsimp only at hSw); go_simp; (try with_reducible rfl))
    try simp only [Act.put, List.setIfInBounds_toArray, List.set_cons_zero, List.set_cons_succ]
    refine wpAnyH_take (i := 16) (oi := ?o16) (v := ?v16) ?hi16 (by kernel_rfl) (by kernel_rfl) (by kernel_rfl) (fun _ _ _ h => h) ?y16 (by assumption) ?r16
    case hi16 => (simp only [List.getElem?_toArray, List.getElem?_cons_succ, List.getElem?_cons_zero]; rfl)
    case y16 => (refine Or.inl ⟨by rfl, ?_⟩; intro w' hSw; (try dsimp only at hSw); go_simp; (try with_reducible rfl))
    try simp only [Act.put, List.setIfInBounds_toArray, List.set_cons_zero, List.set_cons_succ]
    refine wpAnyH_take (i := 17) (oi := ?o17) (v := ?v17) ?hi17 (by kernel_rfl) (by kernel_rfl) (by kernel_rfl) (fun _ _ _ h => h) ?y17 (by assumption) ?r17
    case hi17 => (simp only [List.getElem?_toArray, List.getElem?_cons_succ, List.getElem?_cons_zero]; rfl)
    case y17 => (refine Or.inl ⟨by rfl, ?_⟩; intro w' hSw; (try dsimp only at hSw); go_simp; (try with_reducible rfl))
    try simp only [Act.put, List.setIfInBounds_toArray, List.set_cons_zero, List.set_cons_succ]
    refine wpAnyH_take (i := 18) (oi := ?o18) (v := ?v18) ?hi18 (by kernel_rfl) (by kernel_rfl) (by kernel_rfl) (fun _ _ _ h => h) ?y18 (by assumption) ?r18
    case hi18 => (simp only [List.getElem?_toArray, List.getElem?_cons_succ, List.getElem?_cons_zero]; rfl)
    case y18 => (refine Or.inl ⟨by rfl, ?_⟩; intro w' hSw; (try dsimp only at hSw); go_simp; (try with_reducible rfl))
    try simp only [Act.put, List.setIfInBounds_toArray, List.set_cons_zero, List.set_cons_succ]
    refine wpAnyH_take (i := 19) (oi := ?o19) (v := ?v19) ?hi19 (by kernel_rfl) (by kernel_rfl) (by kernel_rfl) (fun _ _ _ h => h) ?y19 (by assumption) ?r19
    case hi19 => (simp only [List.getElem?_toArray, List.getElem?_cons_succ, List.getElem?_cons_zero]; rfl)
    case y19 => (refine Or.inl ⟨by rfl, ?_⟩; intro w' hSw; (try dsimp only at hSw); go_simp; (try with_reducible rfl))
    try simp only [Act.put, List.setIfInBounds_toArray, List.set_cons_zero, List.set_cons_succ]
    refine wpAnyH_take (i := 20) (oi := ?o20) (v := ?v20) ?hi20 (by kernel_rfl) (by kernel_rfl) (by kernel_rfl) (fun _ _ _ h => h) ?y20 (by assumption) ?r20
    case hi20 => (simp only [List.getElem?_toArray, List.getElem?_cons_succ, List.getElem?_cons_zero]; rfl)
    case y20 => (refine Or.inl ⟨by rfl, ?_⟩; intro w' hSw; (try dsimp only at hSw); go_simp; (try with_reducible rfl))
    try simp only [Act.put, List.setIfInBounds_toArray, List.set_cons_zero, List.set_cons_succ]
    refine wpAnyH_take (i := 21) (oi := ?o21) (v := ?v21) ?hi21 (by kernel_rfl) (by kernel_rfl) (by kernel_rfl) (fun _ _ _ h => h) ?y21 (by assumption) ?r21
    case hi21 => (simp only [List.getElem?_toArray, List.getElem?_cons_succ, List.getElem?_cons_zero]; rfl)
    case y21 => (refine Or.inl ⟨by rfl, ?_⟩; intro w' hSw; (try dsimp only at hSw); go_simp; (try with_reducible rfl))
    try simp only [Act.put, List.setIfInBounds_toArray, List.set_cons_zero, List.set_cons_succ]
    refine wpAnyH_take (i := 22) (oi := ?o22) (v := ?v22) ?hi22 (by kernel_rfl) (by kernel_rfl) (by kernel_rfl) (fun _ _ _ h => h) ?y22 (by assumption) ?r22
    case hi22 => (simp only [List.getElem?_toArray, List.getElem?_cons_succ, List.getElem?_cons_zero]; rfl)
    case y22 => (refine Or.inl ⟨by rfl, ?_⟩; intro w' hSw; (try dsimp only at hSw); go_simp; (try with_reducible rfl))
    try simp only [Act.put, List.setIfInBounds_toArray, List.set_cons_zero, List.set_cons_succ]
    refine wpAnyH_take (i := 23) (oi := ?o23) (v := ?v23) ?hi23 (by kernel_rfl) (by kernel_rfl) (by kernel_rfl) (fun _ _ _ h => h) ?y23 (by assumption) ?r23
    case hi23 => (simp only [List.getElem?_toArray, List.getElem?_cons_succ, List.getElem?_cons_zero]; rfl)
    case y23 => (refine Or.inl ⟨by rfl, ?_⟩; intro w' hSw; (try dsimp only at hSw); go_simp; (try with_reducible rfl))
    try simp only [Act.put, List.setIfInBounds_toArray, List.set_cons_zero, List.set_cons_succ]
    refine wpAnyH_take (i := 24) (oi := ?o24) (v := ?v24) ?hi24 (by kernel_rfl) (by kernel_rfl) (by kernel_rfl) (fun _ _ _ h => h) ?y24 (by assumption) ?r24
    case hi24 => (simp only [List.getElem?_toArray, List.getElem?_cons_succ, List.getElem?_cons_zero]; rfl)
    case y24 => (refine Or.inl ⟨by rfl, ?_⟩; intro w' hSw; (try dsimp only at hSw); go_simp; (try with_reducible rfl))
    try simp only [Act.put, List.setIfInBounds_toArray, List.set_cons_zero, List.set_cons_succ]
    refine wpAnyH_take (i := 25) (oi := ?o25) (v := ?v25) ?hi25 (by kernel_rfl) (by kernel_rfl) (by kernel_rfl) (fun _ _ _ h => h) ?y25 (by assumption) ?r25
    case hi25 => (simp only [List.getElem?_toArray, List.getElem?_cons_succ, List.getElem?_cons_zero]; rfl)
    case y25 => (refine Or.inl ⟨by rfl, ?_⟩; intro w' hSw; (try dsimp only at hSw); go_simp; (try with_reducible rfl))
    try simp only [Act.put, List.setIfInBounds_toArray, List.set_cons_zero, List.set_cons_succ]
    refine wpAnyH_take (i := 26) (oi := ?o26) (v := ?v26) ?hi26 (by kernel_rfl) (by kernel_rfl) (by kernel_rfl) (fun _ _ _ h => h) ?y26 (by assumption) ?r26
    case hi26 => (simp only [List.getElem?_toArray, List.getElem?_cons_succ, List.getElem?_cons_zero]; rfl)
    case y26 => (refine Or.inl ⟨by rfl, ?_⟩; intro w' hSw; (try dsimp only at hSw); go_simp; (try with_reducible rfl))
    try simp only [Act.put, List.setIfInBounds_toArray, List.set_cons_zero, List.set_cons_succ]
    refine wpAnyH_take (i := 27) (oi := ?o27) (v := ?v27) ?hi27 (by kernel_rfl) (by kernel_rfl) (by kernel_rfl) (fun _ _ _ h => h) ?y27 (by assumption) ?r27
    case hi27 => (simp only [List.getElem?_toArray, List.getElem?_cons_succ, List.getElem?_cons_zero]; rfl)
    case y27 => (refine Or.inl ⟨by rfl, ?_⟩; intro w' hSw; (try dsimp only at hSw); go_simp; (try with_reducible rfl))
    try simp only [Act.put, List.setIfInBounds_toArray, List.set_cons_zero, List.set_cons_succ]
    refine wpAnyH_take (i := 28) (oi := ?o28) (v := ?v28) ?hi28 (by kernel_rfl) (by kernel_rfl) (by kernel_rfl) (fun _ _ _ h => h) ?y28 (by assumption) ?r28
    case hi28 => (simp only [List.getElem?_toArray, List.getElem?_cons_succ, List.getElem?_cons_zero]; rfl)
    case y28 => (refine Or.inl ⟨by rfl, ?_⟩; intro w' hSw; (try dsimp only at hSw); go_simp; (try with_reducible rfl))
    try simp only [Act.put, List.setIfInBounds_toArray, List.set_cons_zero, List.set_cons_succ]
    refine wpAnyH_take (i := 29) (oi := ?o29) (v := ?v29) ?hi29 (by kernel_rfl) (by kernel_rfl) (by kernel_rfl) (fun _ _ _ h => h) ?y29 (by assumption) ?r29
    case hi29 => (simp only [List.getElem?_toArray, List.getElem?_cons_succ, List.getElem?_cons_zero]; rfl)
    case y29 => (refine Or.inl ⟨by rfl, ?_⟩; intro w' hSw; (try dsimp only at hSw); go_simp; (try with_reducible rfl))
    try simp only [Act.put, List.setIfInBounds_toArray, List.set_cons_zero, List.set_cons_succ]
    refine wpAnyH_ready (rs := [30]) (by kernel_rfl) (by simp) ?_
    refine AllReadyH.cons (o := ?o30) ?hi30 ?hst30 AllReadyH.nil
    case hi30 => (simp only [List.getElem?_toArray, List.getElem?_cons_succ, List.getElem?_cons_zero]; rfl)
    intro K hK
    go_simp
    (go_at_call 13; with_reducible refine (HR1.out _).mono ?_; rintro e w6 ⟨rfl, hb6⟩)
    go_wp2_with fail
    refine hK.out _ _ ⟨keep_cell hb6 hHeld.1, keep_cell hb6 hHeld.2.1, keep_cell hb6 hHeld.2.2.1, keep_cell hb6 hHeld.2.2.2.1, keep_cell hb6 hHeld.2.2.2.2.1, keep_cell hb6 hHeld.2.2.2.2.2.1, keep_cell hb6 hHeld.2.2.2.2.2.2.1, keep_cell hb6 hHeld.2.2.2.2.2.2.2.1, keep_cell hb6 hHeld.2.2.2.2.2.2.2.2.1, keep_cell hb6 hHeld.2.2.2.2.2.2.2.2.2.1, keep_cell hb6 hHeld.2.2.2.2.2.2.2.2.2.2.1, keep_cell hb6 hHeld.2.2.2.2.2.2.2.2.2.2.2.1, keep_cell hb6 hHeld.2.2.2.2.2.2.2.2.2.2.2.2.1, keep_cell hb6 hHeld.2.2.2.2.2.2.2.2.2.2.2.2.2.1, keep_cell hb6 hHeld.2.2.2.2.2.2.2.2.2.2.2.2.2.2.1, keep_cell hb6 hHeld.2.2.2.2.2.2.2.2.2.2.2.2.2.2.2.1, keep_cell hb6 hHeld.2.2.2.2.2.2.2.2.2.2.2.2.2.2.2.2.1, keep_cell hb6 hHeld.2.2.2.2.2.2.2.2.2.2.2.2.2.2.2.2.2.1, keep_cell hb6 hHeld.2.2.2.2.2.2.2.2.2.2.2.2.2.2.2.2.2.2.1, keep_cell hb6 hHeld.2.2.2.2.2.2.2.2.2.2.2.2.2.2.2.2.2.2.2.1, keep_cell hb6 hHeld.2.2.2.2.2.2.2.2.2.2.2.2.2.2.2.2.2.2.2.2⟩ (fun hNew => ?_)
    clear hHeld
    have hHeld := hNew
    clear hNew
    refine wpAnyH_take (i := 31) (oi := ?o31) (v := ?v31) ?hi31 (by kernel_rfl) (by kernel_rfl) (by kernel_rfl) (fun _ _ _ h => h) ?y31 (by assumption) ?r31
    case hi31 => (simp only [List.getElem?_toArray, List.getElem?_cons_succ, List.getElem?_cons_zero]; rfl)
    case y31 => (refine Or.inl ⟨by rfl, ?_⟩; intro w' hSw; (try dsimp only at hSw); go_simp; (try with_reducible rfl))
    try simp only [Act.put, List.setIfInBounds_toArray, List.set_cons_zero, List.set_cons_succ]
    refine wpAnyH_take (i := 32) (oi := ?o32) (v := undef) ?hi32 (by kernel_rfl) (by kernel_rfl) (by kernel_rfl) (fun _ _ _ h => h) ?y32 (by assumption) ?r32
    case hi32 => (simp only [List.getElem?_toArray, List.getElem?_cons_succ, List.getElem?_cons_zero]; rfl)
    case y32 => exact Or.inr ⟨by rfl, rfl⟩
    try simp only [Act.put, List.setIfInBounds_toArray, List.set_cons_zero, List.set_cons_succ]
    refine wpAnyH_take (i := 33) (oi := ?o33) (v := undef) ?hi33 (by kernel_rfl) (by kernel_rfl) (by kernel_rfl) (fun _ _ _ h => h) ?y33 (by assumption) ?r33
    case hi33 => (simp only [List.getElem?_toArray, List.getElem?_cons_succ, List.getElem?_cons_zero]; rfl)
    case y33 => exact Or.inr ⟨by rfl, rfl⟩
    try simp only [Act.put, List.setIfInBounds_toArray, List.set_cons_zero, List.set_cons_succ]
    refine wpAnyH_take (i := 34) (oi := ?o34) (v := undef) ?hi34 (by kernel_rfl) (by kernel_rfl) (by kernel_rfl) (fun _ _ _ h => h) ?y34 (by assumption) ?r34
    case hi34 => (simp only [List.getElem?_toArray, List.getElem?_cons_succ, List.getElem?_cons_zero]; rfl)
    case y34 => exact Or.inr ⟨by rfl, rfl⟩
    try simp only [Act.put, List.setIfInBounds_toArray, List.set_cons_zero, List.set_cons_succ]
    refine wpAnyH_take (i := 35) (oi := ?o35) (v := ?v35) ?hi35 (by kernel_rfl) (by kernel_rfl) (by kernel_rfl) (fun _ _ _ h => h) ?y35 (by assumption) ?r35
    case hi35 => (simp only [List.getElem?_toArray, List.getElem?_cons_succ, List.getElem?_cons_zero]; rfl)
    case y35 => (refine Or.inl ⟨by rfl, ?_⟩; intro w' hSw; (try dsimp only at hSw); go_simp; (try with_reducible rfl))
    try simp only [Act.put, List.setIfInBounds_toArray, List.set_cons_zero, List.set_cons_succ]
    refine wpAnyH_take (i := 36) (oi := ?o36) (v := ?v36) ?hi36 (by kernel_rfl) (by kernel_rfl) (by kernel_rfl) (fun _ _ _ h => h) ?y36 (by assumption) ?r36
    case hi36 => (simp only [List.getElem?_toArray, List.getElem?_cons_succ, List.getElem?_cons_zero]; rfl)
    case y36 => (refine Or.inl ⟨by rfl, ?_⟩; intro w' hSw; (try dsimp only at hSw); go_simp; (try with_reducible rfl))
    try simp only [Act.put, List.setIfInBounds_toArray, List.set_cons_zero, List.set_cons_succ]
    refine wpAnyH_done (by kernel_rfl) ?_ _
    refine NoPanic.normal ?_
    have bel := then_below (then_below (bel_drew bel hb4) hb5) hb6
    clear c0 c1 c2 c3 c4 c5 c6 e0 e1 e2 e3 e4 e5 e6 f0 f1 f2 f3 f4 f5 f6
    obtain ⟨c0, c1, c2, c3, c4, c5, c6, e0, e1, e2, e3, e4, e5, e6, f0, f1, f2, f3, f4, f5, f6⟩ : w6.cell? ⟨w.heap.size, 0, none⟩ = some (.int .u64 d) ∧ w6.cell? ⟨w.heap.size, 1, none⟩ = some (.int .u64 s) ∧ w6.cell? ⟨w.heap.size, 2, none⟩ = some (.bool g) ∧ w6.cell? ⟨w.heap.size, 3, none⟩ = some (.int .i64 p) ∧ w6.cell? ⟨w.heap.size, 4, none⟩ = some (.int .i64 v) ∧ w6.cell? ⟨w.heap.size, 5, none⟩ = some (.int .i64 t) ∧ w6.cell? ⟨w.heap.size, 6, none⟩ = some (.string b) ∧ w6.cell? ⟨k, 0, none⟩ = some (.int .u64 d) ∧ w6.cell? ⟨k, 1, none⟩ = some (.int .u64 s) ∧ w6.cell? ⟨k, 2, none⟩ = some (.bool g) ∧ w6.cell? ⟨k, 3, none⟩ = some (.int .i64 p) ∧ w6.cell? ⟨k, 4, none⟩ = some (.int .i64 v) ∧ w6.cell? ⟨k, 5, none⟩ = some (.int .i64 t) ∧ w6.cell? ⟨k, 6, none⟩ = some (.string q) ∧ w6.cell? ⟨k2, 0, none⟩ = some (.int .u64 s) ∧ w6.cell? ⟨k2, 1, none⟩ = some (.int .u64 y) ∧ w6.cell? ⟨k2, 2, none⟩ = some (.bool g) ∧ w6.cell? ⟨k2, 3, none⟩ = some (.int .i64 p) ∧ w6.cell? ⟨k2, 4, none⟩ = some (.int .i64 v) ∧ w6.cell? ⟨k2, 5, none⟩ = some (.int .i64 t) ∧ w6.cell? ⟨k2, 6, none⟩ = some (.string b) := by assumption
    go_wp2_with fail
    refine (HTu.out _).mono ?_; rintro e w8 ⟨rfl, hb8⟩
    go_wp2_with fail
    refine (eawake_any _).mono ?_; rintro e w9 ⟨rfl, hb9⟩
    go_wp2_with fail
    go_ret
    exact ⟨rfl, then_below (then_below bel hb8) hb9⟩

end Eth
end Go.Proofs.Ytebdpgdpddocfaa
