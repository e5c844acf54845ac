/-
  The law EapolStarts, way by way.
-/
import Derived.Test.YtdnpmajehnddkaaEplAwake
import Derived.Test.YtdnpmajehnddkaaEplOpen
import Derived.Test.YtdnpmajehnddkaaRows
import Derived.Test.YtdnpmajehnddkaaBox
import Derived.Deep.DeepCutAuto
namespace Go.Proofs.Ytdnpmajehnddkaa
open Go.RowKit
namespace Epl
open Oct Mac Eth

set_option maxHeartbeats 1000000 in
theorem starts_big (S : ByteArray) (x y : Int) (w : World) (hS : 3000 < S.size) :
    Calls Try.prog 5 #[.string S, .agg #[.int .u64 x, .int .u64 y]] w fun e w' => e = .returned (.bool true) ∧ Below w.heap.size w w' := by
  go_enter Try.func5, Try.ntmps5
  go_wp2_with fail
  have bel := Bx.bel_refl w
  have B0 := Lib.hid (Bx.Blk.new w [.int .u64 x, .int .u64 y] 26)
  replace bel := Bx.bel_box bel (Obj.cells #[.int .u64 x, .int .u64 y] 26)
  have c0_0 := B0.out.at 0 rfl
  have c0_1 := B0.out.at 1 rfl
  refine (awake_any _).mono ?_; rintro e w1 ⟨rfl, hb1⟩
  replace bel := Bx.then_below bel hb1
  replace B0 := Lib.hid (B0.out.keep hb1)
  clear hb1
  clear c0_0 c0_1
  have c0_0 := B0.out.at 0 rfl
  have c0_1 := B0.out.at 1 rfl
  go_wp2_with fail
  go_ret
  exact ⟨rfl, bel⟩

set_option maxRecDepth 100000 in
set_option maxHeartbeats 4000000 in
theorem starts_yes (S : ByteArray) (x y : Int) (w : World) (hS : S.size ≤ 3000)
    (HX : Hid (∀ w, Calls Try.prog 9 #[.string (⟨#[1, 1, 0, 0]⟩ ++ S)] w fun e w' => e = .returned (.tuple #[ep 1 1 ⟨#[]⟩, .int .i64 0]) ∧ Below w.heap.size w w'))
    (HW : Hid (∀ w, Calls Try.prog 11 #[.int .u64 x, .int .u64 y, ep 1 1 ⟨#[]⟩] w fun e w' => e = .returned (.tuple #[.agg #[.int .u64 y, .int .u64 x, .bool false, .int .i64 0, .int .i64 0, .int .i64 34958, .string ⟨#[1, 1, 0, 0]⟩], .int .i64 0]) ∧ Below w.heap.size w w')) :
    Calls Try.prog 5 #[.string S, .agg #[.int .u64 x, .int .u64 y]] w fun e w' => e = .returned (.bool true) ∧ Below w.heap.size w w' := by
  have z1 : ¬ (4 + S.size > 9223372036854775807) := by omega
  have x0 : (x == x) = true := by simp
  have x1 : (y == y) = true := by simp
  go_enter Try.func5, Try.ntmps5
  go_wp2_with fail
  have bel := Bx.bel_refl w
  have B0 := Lib.hid (Bx.Blk.new w [.int .u64 x, .int .u64 y] 26)
  replace bel := Bx.bel_box bel (Obj.cells #[.int .u64 x, .int .u64 y] 26)
  have c0_0 := B0.out.at 0 rfl
  have c0_1 := B0.out.at 1 rfl
  refine (start_any _).mono ?_; rintro e w1 ⟨rfl, hb1⟩
  replace bel := Bx.then_below bel hb1
  replace B0 := Lib.hid (B0.out.keep hb1)
  clear hb1
  go_wp2_with fail
  refine (aw1 _).mono ?_; rintro e w2 ⟨rfl, hb2⟩
  replace bel := Bx.then_below bel hb2
  replace B0 := Lib.hid (B0.out.keep hb2)
  clear hb2
  clear c0_0 c0_1
  have c0_0 := B0.out.at 0 rfl
  have c0_1 := B0.out.at 1 rfl
  go_wp2_with fail
  refine (HX.out _).mono ?_; rintro e w3 ⟨rfl, hb3⟩
  replace bel := Bx.then_below bel hb3
  replace B0 := Lib.hid (B0.out.keep hb3)
  clear hb3
  replace B0 := Lib.hid (B0.out.more (Obj.cells #[.int .i64 1, .int .i64 1, .string ⟨#[]⟩] 23))
  have B1 := Lib.hid (Bx.Blk.new w3 [.int .i64 1, .int .i64 1, .string ⟨#[]⟩] 23)
  replace bel := Bx.bel_box bel (Obj.cells #[.int .i64 1, .int .i64 1, .string ⟨#[]⟩] 23)
  clear c0_0 c0_1
  have c0_0 := B0.out.at 0 rfl
  have c0_1 := B0.out.at 1 rfl
  have c1_0 := B1.out.at 0 rfl
  have c1_1 := B1.out.at 1 rfl
  have c1_2 := B1.out.at 2 rfl
  go_wp2_with fail
  generalize w3.heap.size = m1 at *
  generalize w3.alloc (Obj.cells #[.int .i64 1, .int .i64 1, .string ⟨#[]⟩] 23) = W0 at *
  go_cut [9, 10] (fun s9 s10 wx => ∃ k9 : Nat, s9 = .pointer (some ⟨k9, 0, none⟩) ∧ s10 = .int .i64 0 ∧ Below w.heap.size w wx ∧ Bx.Blk wx w.heap.size [.int .u64 x, .int .u64 y] ∧ Bx.Blk wx m1 [.int .i64 1, .int .i64 1, .string ⟨#[]⟩] ∧ Bx.Blk wx k9 [.int .u64 y, .int .u64 x, .bool false, .int .i64 0, .int .i64 0, .int .i64 34958, .string ⟨#[1, 1, 0, 0]⟩])
  case first =>
    have HS := Bx.cell_set
    have hbs := bel.size
    have hk0 : w.heap.size < W0.heap.size := B0.out.lt (by simp)
    have hk1 : m1 < W0.heap.size := B1.out.lt (by simp)
    go_region_held3 (fun w' => w'.cell? ⟨w.heap.size, 0, none⟩ = some (.int .u64 x) ∧ w'.cell? ⟨w.heap.size, 1, none⟩ = some (.int .u64 y) ∧ w'.cell? ⟨m1, 0, none⟩ = some (.int .i64 1) ∧ w'.cell? ⟨m1, 1, none⟩ = some (.int .i64 1) ∧ w'.cell? ⟨m1, 2, none⟩ = some (.string ⟨#[]⟩))
      (first | (go_split_ands; refine ⟨?_, ?_, ?_, ?_, ?_⟩ <;> first | (with_reducible assumption) | (with_reducible refine Bx.drew_cell ?_; with_reducible assumption) | exact Bx.keep_cell (by with_reducible assumption) (by with_reducible assumption) | (with_reducible refine Bx.kept_new ?_; with_reducible assumption) | ((iterate 7 (with_reducible refine Bx.cell_off (by omega) ?_)); with_reducible assumption) | with_reducible exact Bx.kept_other (by omega) (by assumption)) | (go_keep; done))
      (first | (go_at_call 15; with_reducible refine (start_any _).mono ?_; rintro e w4 ⟨rfl, hb4⟩; obtain ⟨hc4, hf4⟩ := Bx.bcell hb4; have hs4 := hb4.size; (try simp at hs4); (try (have ht4_0 : W0.heap.size < w4.heap.size := by omega))) | (go_at_call 11; with_reducible refine (HW.out _).mono ?_; rintro e w5 ⟨rfl, hb5⟩; obtain ⟨hc5, hf5⟩ := Bx.bcell hb5; have hs5 := hb5.size; (try simp at hs5); (try (have ht5_0 : W0.heap.size < w5.heap.size := by omega)); (try (have ht5_1 : w4.heap.size < w5.heap.size := by omega))))
    all_goals (go_wp2_with fail; go_meet; refine ⟨_, rfl, rfl, ?_, ?_, ?_, ?_⟩)
    all_goals (try clear HS hc4 hf4 hc5 hf5)
    all_goals first | ((repeat (first | with_reducible exact bel | with_reducible refine Bx.bel_draw W0 ?_ | with_reducible refine Bx.bel_drawn ?_ | with_reducible refine Bx.bel_box ?_ _ | (with_reducible refine Bx.bel_set7 ?_ ?_; omega) | with_reducible refine Bx.then_below ?_ hb5 | with_reducible refine Bx.then_below ?_ hb4)); done) | ((repeat (first | with_reducible exact B0.out | with_reducible exact B1.out | with_reducible refine Bx.Blk.draw W0 ?_ | with_reducible refine Bx.Blk.drawn ?_ | (with_reducible refine Bx.Blk.new_at _ _ ?_; first | with_reducible rfl | (simp; done)) | with_reducible apply Bx.Blk.put7 | (with_reducible refine Bx.Blk.off7 ?_ ?_; omega) | with_reducible refine Bx.Blk.more ?_ _ | with_reducible refine Bx.Blk.keep ?_ hb5 | with_reducible refine Bx.Blk.keep ?_ hb4)); done)
  case rest =>
  clear c0_0 c0_1 c1_0 c1_1 c1_2 bel B0 B1
  obtain ⟨k9, rfl, rfl, bel, B0, B1, B2⟩ := hcut
  replace B0 := Lib.hid B0
  replace B1 := Lib.hid B1
  replace B2 := Lib.hid B2
  have c0_0 := B0.out.at 0 rfl
  have c0_1 := B0.out.at 1 rfl
  have c1_0 := B1.out.at 0 rfl
  have c1_1 := B1.out.at 1 rfl
  have c1_2 := B1.out.at 2 rfl
  have c2_0 := B2.out.at 0 rfl
  have c2_1 := B2.out.at 1 rfl
  have c2_2 := B2.out.at 2 rfl
  have c2_3 := B2.out.at 3 rfl
  have c2_4 := B2.out.at 4 rfl
  have c2_5 := B2.out.at 5 rfl
  have c2_6 := B2.out.at 6 rfl
  go_wp2_with fail
  go_region_held3 (fun w' => w'.cell? ⟨w.heap.size, 0, none⟩ = some (.int .u64 x) ∧ w'.cell? ⟨w.heap.size, 1, none⟩ = some (.int .u64 y) ∧ w'.cell? ⟨m1, 0, none⟩ = some (.int .i64 1) ∧ w'.cell? ⟨m1, 1, none⟩ = some (.int .i64 1) ∧ w'.cell? ⟨m1, 2, none⟩ = some (.string ⟨#[]⟩) ∧ w'.cell? ⟨k9, 0, none⟩ = some (.int .u64 y) ∧ w'.cell? ⟨k9, 1, none⟩ = some (.int .u64 x) ∧ w'.cell? ⟨k9, 2, none⟩ = some (.bool false) ∧ w'.cell? ⟨k9, 3, none⟩ = some (.int .i64 0) ∧ w'.cell? ⟨k9, 4, none⟩ = some (.int .i64 0) ∧ w'.cell? ⟨k9, 5, none⟩ = some (.int .i64 34958) ∧ w'.cell? ⟨k9, 6, none⟩ = some (.string ⟨#[1, 1, 0, 0]⟩))
    (first | go_keep | (go_split_ands; exact ⟨Bx.keep_cell (by assumption) (by assumption), Bx.keep_cell (by assumption) (by assumption), Bx.keep_cell (by assumption) (by assumption), Bx.keep_cell (by assumption) (by assumption), Bx.keep_cell (by assumption) (by assumption), Bx.keep_cell (by assumption) (by assumption), Bx.keep_cell (by assumption) (by assumption), Bx.keep_cell (by assumption) (by assumption), Bx.keep_cell (by assumption) (by assumption), Bx.keep_cell (by assumption) (by assumption), Bx.keep_cell (by assumption) (by assumption), Bx.keep_cell (by assumption) (by assumption)⟩))
    (first | (go_at_call 15; with_reducible refine (start_any _).mono ?_; rintro e w6 ⟨rfl, hb6⟩))
  replace bel := Bx.bel_drew bel hb6
  clear hb6
  clear c0_0 c0_1 c1_0 c1_1 c1_2 c2_0 c2_1 c2_2 c2_3 c2_4 c2_5 c2_6 B0 B1 B2
  obtain ⟨c0_0, c0_1, c1_0, c1_1, c1_2, c2_0, c2_1, c2_2, c2_3, c2_4, c2_5, c2_6⟩ : w6.cell? ⟨w.heap.size, 0, none⟩ = some (.int .u64 x) ∧ w6.cell? ⟨w.heap.size, 1, none⟩ = some (.int .u64 y) ∧ w6.cell? ⟨m1, 0, none⟩ = some (.int .i64 1) ∧ w6.cell? ⟨m1, 1, none⟩ = some (.int .i64 1) ∧ w6.cell? ⟨m1, 2, none⟩ = some (.string ⟨#[]⟩) ∧ w6.cell? ⟨k9, 0, none⟩ = some (.int .u64 y) ∧ w6.cell? ⟨k9, 1, none⟩ = some (.int .u64 x) ∧ w6.cell? ⟨k9, 2, none⟩ = some (.bool false) ∧ w6.cell? ⟨k9, 3, none⟩ = some (.int .i64 0) ∧ w6.cell? ⟨k9, 4, none⟩ = some (.int .i64 0) ∧ w6.cell? ⟨k9, 5, none⟩ = some (.int .i64 34958) ∧ w6.cell? ⟨k9, 6, none⟩ = some (.string ⟨#[1, 1, 0, 0]⟩) := by with_reducible assumption
  go_wp2_with fail
  refine (awake_any _).mono ?_; rintro e w7 ⟨rfl, hb7⟩
  replace bel := Bx.then_below bel hb7
  clear hb7
  go_wp2_with fail
  go_ret
  exact ⟨rfl, bel⟩

set_option maxRecDepth 100000 in
set_option maxHeartbeats 4000000 in
theorem starts_no1 (S : ByteArray) (x y : Int) (w : World) (hS : S.size ≤ 3000) (hx : decide ((281474976710656 : Int) ≤ x) = true)
    (HX : Hid (∀ w, Calls Try.prog 9 #[.string (⟨#[1, 1, 0, 0]⟩ ++ S)] w fun e w' => e = .returned (.tuple #[ep 1 1 ⟨#[]⟩, .int .i64 0]) ∧ Below w.heap.size w w'))
    (HW : Hid (∀ w, Calls Try.prog 11 #[.int .u64 x, .int .u64 y, ep 1 1 ⟨#[]⟩] w fun e w' => e = .returned (.tuple #[.agg #[.int .u64 0, .int .u64 0, .bool false, .int .i64 0, .int .i64 0, .int .i64 0, .string ⟨#[]⟩], .int .i64 1]) ∧ Below w.heap.size w w')) :
    Calls Try.prog 5 #[.string S, .agg #[.int .u64 x, .int .u64 y]] w fun e w' => e = .returned (.bool true) ∧ Below w.heap.size w w' := by
  have z1 : ¬ (4 + S.size > 9223372036854775807) := by omega
  go_enter Try.func5, Try.ntmps5
  go_wp2_with fail
  have bel := Bx.bel_refl w
  have B0 := Lib.hid (Bx.Blk.new w [.int .u64 x, .int .u64 y] 26)
  replace bel := Bx.bel_box bel (Obj.cells #[.int .u64 x, .int .u64 y] 26)
  have c0_0 := B0.out.at 0 rfl
  have c0_1 := B0.out.at 1 rfl
  refine (start_any _).mono ?_; rintro e w1 ⟨rfl, hb1⟩
  replace bel := Bx.then_below bel hb1
  replace B0 := Lib.hid (B0.out.keep hb1)
  clear hb1
  go_wp2_with fail
  refine (aw1 _).mono ?_; rintro e w2 ⟨rfl, hb2⟩
  replace bel := Bx.then_below bel hb2
  replace B0 := Lib.hid (B0.out.keep hb2)
  clear hb2
  clear c0_0 c0_1
  have c0_0 := B0.out.at 0 rfl
  have c0_1 := B0.out.at 1 rfl
  go_wp2_with fail
  refine (HX.out _).mono ?_; rintro e w3 ⟨rfl, hb3⟩
  replace bel := Bx.then_below bel hb3
  replace B0 := Lib.hid (B0.out.keep hb3)
  clear hb3
  replace B0 := Lib.hid (B0.out.more (Obj.cells #[.int .i64 1, .int .i64 1, .string ⟨#[]⟩] 23))
  have B1 := Lib.hid (Bx.Blk.new w3 [.int .i64 1, .int .i64 1, .string ⟨#[]⟩] 23)
  replace bel := Bx.bel_box bel (Obj.cells #[.int .i64 1, .int .i64 1, .string ⟨#[]⟩] 23)
  clear c0_0 c0_1
  have c0_0 := B0.out.at 0 rfl
  have c0_1 := B0.out.at 1 rfl
  have c1_0 := B1.out.at 0 rfl
  have c1_1 := B1.out.at 1 rfl
  have c1_2 := B1.out.at 2 rfl
  go_wp2_with fail
  generalize w3.heap.size = m1 at *
  generalize w3.alloc (Obj.cells #[.int .i64 1, .int .i64 1, .string ⟨#[]⟩] 23) = W0 at *
  go_cut [9, 10] (fun s9 s10 wx => ∃ k9 : Nat, s9 = .pointer (some ⟨k9, 0, none⟩) ∧ s10 = .int .i64 1 ∧ Below w.heap.size w wx ∧ Bx.Blk wx w.heap.size [.int .u64 x, .int .u64 y] ∧ Bx.Blk wx m1 [.int .i64 1, .int .i64 1, .string ⟨#[]⟩] ∧ Bx.Blk wx k9 [.int .u64 0, .int .u64 0, .bool false, .int .i64 0, .int .i64 0, .int .i64 0, .string ⟨#[]⟩])
  case first =>
    have HS := Bx.cell_set
    have hbs := bel.size
    have hk0 : w.heap.size < W0.heap.size := B0.out.lt (by simp)
    have hk1 : m1 < W0.heap.size := B1.out.lt (by simp)
    go_region_held3 (fun w' => w'.cell? ⟨w.heap.size, 0, none⟩ = some (.int .u64 x) ∧ w'.cell? ⟨w.heap.size, 1, none⟩ = some (.int .u64 y) ∧ w'.cell? ⟨m1, 0, none⟩ = some (.int .i64 1) ∧ w'.cell? ⟨m1, 1, none⟩ = some (.int .i64 1) ∧ w'.cell? ⟨m1, 2, none⟩ = some (.string ⟨#[]⟩))
      (first | (go_split_ands; refine ⟨?_, ?_, ?_, ?_, ?_⟩ <;> first | (with_reducible assumption) | (with_reducible refine Bx.drew_cell ?_; with_reducible assumption) | exact Bx.keep_cell (by with_reducible assumption) (by with_reducible assumption) | (with_reducible refine Bx.kept_new ?_; with_reducible assumption) | ((iterate 7 (with_reducible refine Bx.cell_off (by omega) ?_)); with_reducible assumption) | with_reducible exact Bx.kept_other (by omega) (by assumption)) | (go_keep; done))
      (first | (go_at_call 15; with_reducible refine (start_any _).mono ?_; rintro e w4 ⟨rfl, hb4⟩; obtain ⟨hc4, hf4⟩ := Bx.bcell hb4; have hs4 := hb4.size; (try simp at hs4); (try (have ht4_0 : W0.heap.size < w4.heap.size := by omega))) | (go_at_call 11; with_reducible refine (HW.out _).mono ?_; rintro e w5 ⟨rfl, hb5⟩; obtain ⟨hc5, hf5⟩ := Bx.bcell hb5; have hs5 := hb5.size; (try simp at hs5); (try (have ht5_0 : W0.heap.size < w5.heap.size := by omega)); (try (have ht5_1 : w4.heap.size < w5.heap.size := by omega))))
    all_goals (go_wp2_with fail; go_meet; refine ⟨_, rfl, rfl, ?_, ?_, ?_, ?_⟩)
    all_goals (try clear HS hc4 hf4 hc5 hf5)
    all_goals first | ((repeat (first | with_reducible exact bel | with_reducible refine Bx.bel_draw W0 ?_ | with_reducible refine Bx.bel_drawn ?_ | with_reducible refine Bx.bel_box ?_ _ | (with_reducible refine Bx.bel_set7 ?_ ?_; omega) | with_reducible refine Bx.then_below ?_ hb5 | with_reducible refine Bx.then_below ?_ hb4)); done) | ((repeat (first | with_reducible exact B0.out | with_reducible exact B1.out | with_reducible refine Bx.Blk.draw W0 ?_ | with_reducible refine Bx.Blk.drawn ?_ | (with_reducible refine Bx.Blk.new_at _ _ ?_; first | with_reducible rfl | (simp; done)) | with_reducible apply Bx.Blk.put7 | (with_reducible refine Bx.Blk.off7 ?_ ?_; omega) | with_reducible refine Bx.Blk.more ?_ _ | with_reducible refine Bx.Blk.keep ?_ hb5 | with_reducible refine Bx.Blk.keep ?_ hb4)); done)
  case rest =>
  clear c0_0 c0_1 c1_0 c1_1 c1_2 bel B0 B1
  obtain ⟨k9, rfl, rfl, bel, B0, B1, B2⟩ := hcut
  replace B0 := Lib.hid B0
  replace B1 := Lib.hid B1
  replace B2 := Lib.hid B2
  have c0_0 := B0.out.at 0 rfl
  have c0_1 := B0.out.at 1 rfl
  have c1_0 := B1.out.at 0 rfl
  have c1_1 := B1.out.at 1 rfl
  have c1_2 := B1.out.at 2 rfl
  have c2_0 := B2.out.at 0 rfl
  have c2_1 := B2.out.at 1 rfl
  have c2_2 := B2.out.at 2 rfl
  have c2_3 := B2.out.at 3 rfl
  have c2_4 := B2.out.at 4 rfl
  have c2_5 := B2.out.at 5 rfl
  have c2_6 := B2.out.at 6 rfl
  go_wp2_with fail
  go_region_held3 (fun w' => w'.cell? ⟨w.heap.size, 0, none⟩ = some (.int .u64 x) ∧ w'.cell? ⟨w.heap.size, 1, none⟩ = some (.int .u64 y) ∧ w'.cell? ⟨m1, 0, none⟩ = some (.int .i64 1) ∧ w'.cell? ⟨m1, 1, none⟩ = some (.int .i64 1) ∧ w'.cell? ⟨m1, 2, none⟩ = some (.string ⟨#[]⟩) ∧ w'.cell? ⟨k9, 0, none⟩ = some (.int .u64 0) ∧ w'.cell? ⟨k9, 1, none⟩ = some (.int .u64 0) ∧ w'.cell? ⟨k9, 2, none⟩ = some (.bool false) ∧ w'.cell? ⟨k9, 3, none⟩ = some (.int .i64 0) ∧ w'.cell? ⟨k9, 4, none⟩ = some (.int .i64 0) ∧ w'.cell? ⟨k9, 5, none⟩ = some (.int .i64 0) ∧ w'.cell? ⟨k9, 6, none⟩ = some (.string ⟨#[]⟩))
    (first | go_keep | (go_split_ands; exact ⟨Bx.keep_cell (by assumption) (by assumption), Bx.keep_cell (by assumption) (by assumption), Bx.keep_cell (by assumption) (by assumption), Bx.keep_cell (by assumption) (by assumption), Bx.keep_cell (by assumption) (by assumption), Bx.keep_cell (by assumption) (by assumption), Bx.keep_cell (by assumption) (by assumption), Bx.keep_cell (by assumption) (by assumption), Bx.keep_cell (by assumption) (by assumption), Bx.keep_cell (by assumption) (by assumption), Bx.keep_cell (by assumption) (by assumption), Bx.keep_cell (by assumption) (by assumption)⟩))
    (first | (go_at_call 15; with_reducible refine (start_any _).mono ?_; rintro e w6 ⟨rfl, hb6⟩))
  replace bel := Bx.bel_drew bel hb6
  clear hb6
  clear c0_0 c0_1 c1_0 c1_1 c1_2 c2_0 c2_1 c2_2 c2_3 c2_4 c2_5 c2_6 B0 B1 B2
  obtain ⟨c0_0, c0_1, c1_0, c1_1, c1_2, c2_0, c2_1, c2_2, c2_3, c2_4, c2_5, c2_6⟩ : w6.cell? ⟨w.heap.size, 0, none⟩ = some (.int .u64 x) ∧ w6.cell? ⟨w.heap.size, 1, none⟩ = some (.int .u64 y) ∧ w6.cell? ⟨m1, 0, none⟩ = some (.int .i64 1) ∧ w6.cell? ⟨m1, 1, none⟩ = some (.int .i64 1) ∧ w6.cell? ⟨m1, 2, none⟩ = some (.string ⟨#[]⟩) ∧ w6.cell? ⟨k9, 0, none⟩ = some (.int .u64 0) ∧ w6.cell? ⟨k9, 1, none⟩ = some (.int .u64 0) ∧ w6.cell? ⟨k9, 2, none⟩ = some (.bool false) ∧ w6.cell? ⟨k9, 3, none⟩ = some (.int .i64 0) ∧ w6.cell? ⟨k9, 4, none⟩ = some (.int .i64 0) ∧ w6.cell? ⟨k9, 5, none⟩ = some (.int .i64 0) ∧ w6.cell? ⟨k9, 6, none⟩ = some (.string ⟨#[]⟩) := by with_reducible assumption
  go_wp2_with fail
  refine (awake_any _).mono ?_; rintro e w7 ⟨rfl, hb7⟩
  replace bel := Bx.then_below bel hb7
  clear hb7
  go_wp2_with fail
  go_ret
  exact ⟨rfl, bel⟩

set_option maxRecDepth 100000 in
set_option maxHeartbeats 4000000 in
theorem starts_no2 (S : ByteArray) (x y : Int) (w : World) (hS : S.size ≤ 3000) (hx : decide ((281474976710656 : Int) ≤ x) = false) (hy : decide ((281474976710656 : Int) ≤ y) = true)
    (HX : Hid (∀ w, Calls Try.prog 9 #[.string (⟨#[1, 1, 0, 0]⟩ ++ S)] w fun e w' => e = .returned (.tuple #[ep 1 1 ⟨#[]⟩, .int .i64 0]) ∧ Below w.heap.size w w'))
    (HW : Hid (∀ w, Calls Try.prog 11 #[.int .u64 x, .int .u64 y, ep 1 1 ⟨#[]⟩] w fun e w' => e = .returned (.tuple #[.agg #[.int .u64 0, .int .u64 0, .bool false, .int .i64 0, .int .i64 0, .int .i64 0, .string ⟨#[]⟩], .int .i64 1]) ∧ Below w.heap.size w w')) :
    Calls Try.prog 5 #[.string S, .agg #[.int .u64 x, .int .u64 y]] w fun e w' => e = .returned (.bool true) ∧ Below w.heap.size w w' := by
  have z1 : ¬ (4 + S.size > 9223372036854775807) := by omega
  go_enter Try.func5, Try.ntmps5
  go_wp2_with fail
  have bel := Bx.bel_refl w
  have B0 := Lib.hid (Bx.Blk.new w [.int .u64 x, .int .u64 y] 26)
  replace bel := Bx.bel_box bel (Obj.cells #[.int .u64 x, .int .u64 y] 26)
  have c0_0 := B0.out.at 0 rfl
  have c0_1 := B0.out.at 1 rfl
  refine (start_any _).mono ?_; rintro e w1 ⟨rfl, hb1⟩
  replace bel := Bx.then_below bel hb1
  replace B0 := Lib.hid (B0.out.keep hb1)
  clear hb1
  go_wp2_with fail
  refine (aw1 _).mono ?_; rintro e w2 ⟨rfl, hb2⟩
  replace bel := Bx.then_below bel hb2
  replace B0 := Lib.hid (B0.out.keep hb2)
  clear hb2
  clear c0_0 c0_1
  have c0_0 := B0.out.at 0 rfl
  have c0_1 := B0.out.at 1 rfl
  go_wp2_with fail
  refine (HX.out _).mono ?_; rintro e w3 ⟨rfl, hb3⟩
  replace bel := Bx.then_below bel hb3
  replace B0 := Lib.hid (B0.out.keep hb3)
  clear hb3
  replace B0 := Lib.hid (B0.out.more (Obj.cells #[.int .i64 1, .int .i64 1, .string ⟨#[]⟩] 23))
  have B1 := Lib.hid (Bx.Blk.new w3 [.int .i64 1, .int .i64 1, .string ⟨#[]⟩] 23)
  replace bel := Bx.bel_box bel (Obj.cells #[.int .i64 1, .int .i64 1, .string ⟨#[]⟩] 23)
  clear c0_0 c0_1
  have c0_0 := B0.out.at 0 rfl
  have c0_1 := B0.out.at 1 rfl
  have c1_0 := B1.out.at 0 rfl
  have c1_1 := B1.out.at 1 rfl
  have c1_2 := B1.out.at 2 rfl
  go_wp2_with fail
  generalize w3.heap.size = m1 at *
  generalize w3.alloc (Obj.cells #[.int .i64 1, .int .i64 1, .string ⟨#[]⟩] 23) = W0 at *
  go_cut [9, 10] (fun s9 s10 wx => ∃ k9 : Nat, s9 = .pointer (some ⟨k9, 0, none⟩) ∧ s10 = .int .i64 1 ∧ Below w.heap.size w wx ∧ Bx.Blk wx w.heap.size [.int .u64 x, .int .u64 y] ∧ Bx.Blk wx m1 [.int .i64 1, .int .i64 1, .string ⟨#[]⟩] ∧ Bx.Blk wx k9 [.int .u64 0, .int .u64 0, .bool false, .int .i64 0, .int .i64 0, .int .i64 0, .string ⟨#[]⟩])
  case first =>
    have HS := Bx.cell_set
    have hbs := bel.size
    have hk0 : w.heap.size < W0.heap.size := B0.out.lt (by simp)
    have hk1 : m1 < W0.heap.size := B1.out.lt (by simp)
    go_region_held3 (fun w' => w'.cell? ⟨w.heap.size, 0, none⟩ = some (.int .u64 x) ∧ w'.cell? ⟨w.heap.size, 1, none⟩ = some (.int .u64 y) ∧ w'.cell? ⟨m1, 0, none⟩ = some (.int .i64 1) ∧ w'.cell? ⟨m1, 1, none⟩ = some (.int .i64 1) ∧ w'.cell? ⟨m1, 2, none⟩ = some (.string ⟨#[]⟩))
      (first | (go_split_ands; refine ⟨?_, ?_, ?_, ?_, ?_⟩ <;> first | (with_reducible assumption) | (with_reducible refine Bx.drew_cell ?_; with_reducible assumption) | exact Bx.keep_cell (by with_reducible assumption) (by with_reducible assumption) | (with_reducible refine Bx.kept_new ?_; with_reducible assumption) | ((iterate 7 (with_reducible refine Bx.cell_off (by omega) ?_)); with_reducible assumption) | with_reducible exact Bx.kept_other (by omega) (by assumption)) | (go_keep; done))
      (first | (go_at_call 15; with_reducible refine (start_any _).mono ?_; rintro e w4 ⟨rfl, hb4⟩; obtain ⟨hc4, hf4⟩ := Bx.bcell hb4; have hs4 := hb4.size; (try simp at hs4); (try (have ht4_0 : W0.heap.size < w4.heap.size := by omega))) | (go_at_call 11; with_reducible refine (HW.out _).mono ?_; rintro e w5 ⟨rfl, hb5⟩; obtain ⟨hc5, hf5⟩ := Bx.bcell hb5; have hs5 := hb5.size; (try simp at hs5); (try (have ht5_0 : W0.heap.size < w5.heap.size := by omega)); (try (have ht5_1 : w4.heap.size < w5.heap.size := by omega))))
    all_goals (go_wp2_with fail; go_meet; refine ⟨_, rfl, rfl, ?_, ?_, ?_, ?_⟩)
    all_goals (try clear HS hc4 hf4 hc5 hf5)
    all_goals first | ((repeat (first | with_reducible exact bel | with_reducible refine Bx.bel_draw W0 ?_ | with_reducible refine Bx.bel_drawn ?_ | with_reducible refine Bx.bel_box ?_ _ | (with_reducible refine Bx.bel_set7 ?_ ?_; omega) | with_reducible refine Bx.then_below ?_ hb5 | with_reducible refine Bx.then_below ?_ hb4)); done) | ((repeat (first | with_reducible exact B0.out | with_reducible exact B1.out | with_reducible refine Bx.Blk.draw W0 ?_ | with_reducible refine Bx.Blk.drawn ?_ | (with_reducible refine Bx.Blk.new_at _ _ ?_; first | with_reducible rfl | (simp; done)) | with_reducible apply Bx.Blk.put7 | (with_reducible refine Bx.Blk.off7 ?_ ?_; omega) | with_reducible refine Bx.Blk.more ?_ _ | with_reducible refine Bx.Blk.keep ?_ hb5 | with_reducible refine Bx.Blk.keep ?_ hb4)); done)
  case rest =>
  clear c0_0 c0_1 c1_0 c1_1 c1_2 bel B0 B1
  obtain ⟨k9, rfl, rfl, bel, B0, B1, B2⟩ := hcut
  replace B0 := Lib.hid B0
  replace B1 := Lib.hid B1
  replace B2 := Lib.hid B2
  have c0_0 := B0.out.at 0 rfl
  have c0_1 := B0.out.at 1 rfl
  have c1_0 := B1.out.at 0 rfl
  have c1_1 := B1.out.at 1 rfl
  have c1_2 := B1.out.at 2 rfl
  have c2_0 := B2.out.at 0 rfl
  have c2_1 := B2.out.at 1 rfl
  have c2_2 := B2.out.at 2 rfl
  have c2_3 := B2.out.at 3 rfl
  have c2_4 := B2.out.at 4 rfl
  have c2_5 := B2.out.at 5 rfl
  have c2_6 := B2.out.at 6 rfl
  go_wp2_with fail
  go_region_held3 (fun w' => w'.cell? ⟨w.heap.size, 0, none⟩ = some (.int .u64 x) ∧ w'.cell? ⟨w.heap.size, 1, none⟩ = some (.int .u64 y) ∧ w'.cell? ⟨m1, 0, none⟩ = some (.int .i64 1) ∧ w'.cell? ⟨m1, 1, none⟩ = some (.int .i64 1) ∧ w'.cell? ⟨m1, 2, none⟩ = some (.string ⟨#[]⟩) ∧ w'.cell? ⟨k9, 0, none⟩ = some (.int .u64 0) ∧ w'.cell? ⟨k9, 1, none⟩ = some (.int .u64 0) ∧ w'.cell? ⟨k9, 2, none⟩ = some (.bool false) ∧ w'.cell? ⟨k9, 3, none⟩ = some (.int .i64 0) ∧ w'.cell? ⟨k9, 4, none⟩ = some (.int .i64 0) ∧ w'.cell? ⟨k9, 5, none⟩ = some (.int .i64 0) ∧ w'.cell? ⟨k9, 6, none⟩ = some (.string ⟨#[]⟩))
    (first | go_keep | (go_split_ands; exact ⟨Bx.keep_cell (by assumption) (by assumption), Bx.keep_cell (by assumption) (by assumption), Bx.keep_cell (by assumption) (by assumption), Bx.keep_cell (by assumption) (by assumption), Bx.keep_cell (by assumption) (by assumption), Bx.keep_cell (by assumption) (by assumption), Bx.keep_cell (by assumption) (by assumption), Bx.keep_cell (by assumption) (by assumption), Bx.keep_cell (by assumption) (by assumption), Bx.keep_cell (by assumption) (by assumption), Bx.keep_cell (by assumption) (by assumption), Bx.keep_cell (by assumption) (by assumption)⟩))
    (first | (go_at_call 15; with_reducible refine (start_any _).mono ?_; rintro e w6 ⟨rfl, hb6⟩))
  replace bel := Bx.bel_drew bel hb6
  clear hb6
  clear c0_0 c0_1 c1_0 c1_1 c1_2 c2_0 c2_1 c2_2 c2_3 c2_4 c2_5 c2_6 B0 B1 B2
  obtain ⟨c0_0, c0_1, c1_0, c1_1, c1_2, c2_0, c2_1, c2_2, c2_3, c2_4, c2_5, c2_6⟩ : w6.cell? ⟨w.heap.size, 0, none⟩ = some (.int .u64 x) ∧ w6.cell? ⟨w.heap.size, 1, none⟩ = some (.int .u64 y) ∧ w6.cell? ⟨m1, 0, none⟩ = some (.int .i64 1) ∧ w6.cell? ⟨m1, 1, none⟩ = some (.int .i64 1) ∧ w6.cell? ⟨m1, 2, none⟩ = some (.string ⟨#[]⟩) ∧ w6.cell? ⟨k9, 0, none⟩ = some (.int .u64 0) ∧ w6.cell? ⟨k9, 1, none⟩ = some (.int .u64 0) ∧ w6.cell? ⟨k9, 2, none⟩ = some (.bool false) ∧ w6.cell? ⟨k9, 3, none⟩ = some (.int .i64 0) ∧ w6.cell? ⟨k9, 4, none⟩ = some (.int .i64 0) ∧ w6.cell? ⟨k9, 5, none⟩ = some (.int .i64 0) ∧ w6.cell? ⟨k9, 6, none⟩ = some (.string ⟨#[]⟩) := by with_reducible assumption
  go_wp2_with fail
  refine (awake_any _).mono ?_; rintro e w7 ⟨rfl, hb7⟩
  replace bel := Bx.then_below bel hb7
  clear hb7
  go_wp2_with fail
  go_ret
  exact ⟨rfl, bel⟩

end Epl
end Go.Proofs.Ytdnpmajehnddkaa
