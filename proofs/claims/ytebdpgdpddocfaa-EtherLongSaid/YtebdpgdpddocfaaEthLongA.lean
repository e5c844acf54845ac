/-
  The law EtherLong, way by way.
-/
import Derived.Test.YtebdpgdpddocfaaEthAwake
import Derived.Test.YtebdpgdpddocfaaEthOpen
import Derived.Test.YtebdpgdpddocfaaRows
namespace Go.Proofs.Ytebdpgdpddocfaa
open Go.RowKit
namespace Eth
open Oct Mac

set_option maxHeartbeats 1000000 in
theorem long_big (d s p v t : Int) (g : Bool) (b : ByteArray) (w : World) (hz : 12000 < b.size)
     :
    Calls Try.prog 7 #[fr d s g p v t b] w fun e w' => e = .returned (.bool true) ∧ Below w.heap.size w w' := by
  go_enter Try.func7, Try.ntmps7
  go_wp2_with fail
  refine (eawake_any _).mono ?_; rintro e w1 ⟨rfl, hb1⟩
  go_wp2_with fail
  go_ret
  exact ⟨rfl, then_below (box_below _ _) hb1⟩

set_option maxHeartbeats 1000000 in
theorem long_wrong_tag (d s p v t : Int) (b : ByteArray) (w : World) (hz : b.size ≤ 12000)
    (HB : Hid (∀ w, Calls Try.prog 9 #[fr d s true p v t b] w fun e w' => e = .returned (.tuple #[.string ⟨#[]⟩, .int .i64 1]) ∧ Below w.heap.size w w'))
    (HR : Hid (∀ w, Calls Try.prog 13 #[fr d s true p v t b] w fun e w' => e = .returned (.bool false) ∧ Below w.heap.size w w')) :
    Calls Try.prog 7 #[fr d s true p v t b] w fun e w' => e = .returned (.bool true) ∧ Below w.heap.size w w' := by
  go_enter Try.func7, Try.ntmps7
  go_wp2_with fail
  refine (HB.out _).mono ?_; rintro e w1 ⟨rfl, hb1⟩
  have bel := then_below (box_below w (Obj.cells #[Value.int IntKind.u64 d, Value.int IntKind.u64 s, Value.bool true, Value.int IntKind.i64 p, Value.int IntKind.i64 v, Value.int IntKind.i64 t, Value.string b] 25)) hb1
  obtain ⟨c0, c1, c2, c3, c4, c5, c6⟩ := (Has.alloc w d s true p v t b).keep hb1
  clear hb1
  go_wp2_with fail
  refine (HR.out _).mono ?_; rintro e w2 ⟨rfl, hb2⟩
  have bel := then_below bel hb2
  replace ⟨c0, c1, c2, c3, c4, c5, c6⟩ : w2.cell? ⟨w.heap.size, 0, none⟩ = some (.int .u64 d) ∧ w2.cell? ⟨w.heap.size, 1, none⟩ = some (.int .u64 s) ∧ w2.cell? ⟨w.heap.size, 2, none⟩ = some (.bool true) ∧ w2.cell? ⟨w.heap.size, 3, none⟩ = some (.int .i64 p) ∧ w2.cell? ⟨w.heap.size, 4, none⟩ = some (.int .i64 v) ∧ w2.cell? ⟨w.heap.size, 5, none⟩ = some (.int .i64 t) ∧ w2.cell? ⟨w.heap.size, 6, none⟩ = some (.string b) := ⟨keep_cell hb2 c0, keep_cell hb2 c1, keep_cell hb2 c2, keep_cell hb2 c3, keep_cell hb2 c4, keep_cell hb2 c5, keep_cell hb2 c6⟩
  clear hb2
  go_wp2_with fail
  refine (eawake_any _).mono ?_; rintro e w3 ⟨rfl, hb3⟩
  go_wp2_with fail
  go_ret
  exact ⟨rfl, then_below bel hb3⟩

set_option maxHeartbeats 1000000 in
theorem long_right_tag (d s p v t : Int) (b X : ByteArray) (w : World) (N : Nat) (hz : b.size ≤ 12000) (zX : X.size = N) (hN : N = b.size + 18) (hX : X.extract 18 N = b)
    (HB : Hid (∀ w, Calls Try.prog 9 #[fr d s true p v t b] w fun e w' => e = .returned (.tuple #[.string X, .int .i64 0]) ∧ Below w.heap.size w w'))
    (HR : Hid (∀ w, Calls Try.prog 13 #[fr d s true p v t b] w fun e w' => e = .returned (.bool true) ∧ Below w.heap.size w w')) :
    Calls Try.prog 7 #[fr d s true p v t b] w fun e w' => e = .returned (.bool true) ∧ Below w.heap.size w w' := by
  have y1 : IntKind.i64.wrap (14 + (b.size : Int) + 4 - (b.size : Int)) = 18 := by rw [IntKind.wrap_i64]; omega
  have y0 : IntKind.i64.wrap 18 = 18 := by decide
  have y2 : (18 : Int) ≤ (N : Int) := by omega
  have y3 : 18 ≤ N := by omega
  have y4 : ((N : Int) == 14 + (b.size : Int) + 4) = true := by simp; omega
  clear hN
  go_enter Try.func7, Try.ntmps7
  go_wp2_with fail
  refine (HB.out _).mono ?_; rintro e w1 ⟨rfl, hb1⟩
  have bel := then_below (box_below w (Obj.cells #[Value.int IntKind.u64 d, Value.int IntKind.u64 s, Value.bool true, Value.int IntKind.i64 p, Value.int IntKind.i64 v, Value.int IntKind.i64 t, Value.string b] 25)) hb1
  obtain ⟨c0, c1, c2, c3, c4, c5, c6⟩ := (Has.alloc w d s true p v t b).keep hb1
  clear hb1
  go_wp2_with fail
  refine (HR.out _).mono ?_; rintro e w2 ⟨rfl, hb2⟩
  have bel := then_below bel hb2
  replace ⟨c0, c1, c2, c3, c4, c5, c6⟩ : w2.cell? ⟨w.heap.size, 0, none⟩ = some (.int .u64 d) ∧ w2.cell? ⟨w.heap.size, 1, none⟩ = some (.int .u64 s) ∧ w2.cell? ⟨w.heap.size, 2, none⟩ = some (.bool true) ∧ w2.cell? ⟨w.heap.size, 3, none⟩ = some (.int .i64 p) ∧ w2.cell? ⟨w.heap.size, 4, none⟩ = some (.int .i64 v) ∧ w2.cell? ⟨w.heap.size, 5, none⟩ = some (.int .i64 t) ∧ w2.cell? ⟨w.heap.size, 6, none⟩ = some (.string b) := ⟨keep_cell hb2 c0, keep_cell hb2 c1, keep_cell hb2 c2, keep_cell hb2 c3, keep_cell hb2 c4, keep_cell hb2 c5, keep_cell hb2 c6⟩
  clear hb2
  go_wp2_with fail
  go_region_held3 (fun w' => w'.cell? ⟨w.heap.size, 0, none⟩ = some (.int .u64 d) ∧ w'.cell? ⟨w.heap.size, 1, none⟩ = some (.int .u64 s) ∧ w'.cell? ⟨w.heap.size, 2, none⟩ = some (.bool true) ∧ w'.cell? ⟨w.heap.size, 3, none⟩ = some (.int .i64 p) ∧ w'.cell? ⟨w.heap.size, 4, none⟩ = some (.int .i64 v) ∧ w'.cell? ⟨w.heap.size, 5, none⟩ = some (.int .i64 t) ∧ w'.cell? ⟨w.heap.size, 6, none⟩ = some (.string b))
    (first | go_keep | (go_split_ands; exact ⟨keep_cell (by assumption) (by assumption), keep_cell (by assumption) (by assumption), keep_cell (by assumption) (by assumption), keep_cell (by assumption) (by assumption), keep_cell (by assumption) (by assumption), keep_cell (by assumption) (by assumption), keep_cell (by assumption) (by assumption)⟩))
    (first | (go_at_call 8; with_reducible refine (eawake_any _).mono ?_; rintro e w3 ⟨rfl, hb3⟩))
  go_wp2
  go_ret
  exact ⟨rfl, bel_drew bel hb3⟩

set_option maxHeartbeats 1000000 in
theorem long_wrong_no (d s p v t : Int) (b : ByteArray) (w : World) (hz : b.size ≤ 12000)
    (HB : Hid (∀ w, Calls Try.prog 9 #[fr d s false p v t b] w fun e w' => e = .returned (.tuple #[.string ⟨#[]⟩, .int .i64 1]) ∧ Below w.heap.size w w'))
    (HR : Hid (∀ w, Calls Try.prog 13 #[fr d s false p v t b] w fun e w' => e = .returned (.bool false) ∧ Below w.heap.size w w')) :
    Calls Try.prog 7 #[fr d s false p v t b] w fun e w' => e = .returned (.bool true) ∧ Below w.heap.size w w' := by
  go_enter Try.func7, Try.ntmps7
  go_wp2_with fail
  refine (HB.out _).mono ?_; rintro e w1 ⟨rfl, hb1⟩
  have bel := then_below (box_below w (Obj.cells #[Value.int IntKind.u64 d, Value.int IntKind.u64 s, Value.bool false, Value.int IntKind.i64 p, Value.int IntKind.i64 v, Value.int IntKind.i64 t, Value.string b] 25)) hb1
  obtain ⟨c0, c1, c2, c3, c4, c5, c6⟩ := (Has.alloc w d s false p v t b).keep hb1
  clear hb1
  go_wp2_with fail
  refine (HR.out _).mono ?_; rintro e w2 ⟨rfl, hb2⟩
  have bel := then_below bel hb2
  replace ⟨c0, c1, c2, c3, c4, c5, c6⟩ : w2.cell? ⟨w.heap.size, 0, none⟩ = some (.int .u64 d) ∧ w2.cell? ⟨w.heap.size, 1, none⟩ = some (.int .u64 s) ∧ w2.cell? ⟨w.heap.size, 2, none⟩ = some (.bool false) ∧ w2.cell? ⟨w.heap.size, 3, none⟩ = some (.int .i64 p) ∧ w2.cell? ⟨w.heap.size, 4, none⟩ = some (.int .i64 v) ∧ w2.cell? ⟨w.heap.size, 5, none⟩ = some (.int .i64 t) ∧ w2.cell? ⟨w.heap.size, 6, none⟩ = some (.string b) := ⟨keep_cell hb2 c0, keep_cell hb2 c1, keep_cell hb2 c2, keep_cell hb2 c3, keep_cell hb2 c4, keep_cell hb2 c5, keep_cell hb2 c6⟩
  clear hb2
  go_wp2_with fail
  refine (eawake_any _).mono ?_; rintro e w3 ⟨rfl, hb3⟩
  go_wp2_with fail
  go_ret
  exact ⟨rfl, then_below bel hb3⟩

set_option maxHeartbeats 1000000 in
theorem long_right_no (d s p v t : Int) (b X : ByteArray) (w : World) (N : Nat) (hz : b.size ≤ 12000) (zX : X.size = N) (hN : N = b.size + 14) (hX : X.extract 14 N = b)
    (HB : Hid (∀ w, Calls Try.prog 9 #[fr d s false p v t b] w fun e w' => e = .returned (.tuple #[.string X, .int .i64 0]) ∧ Below w.heap.size w w'))
    (HR : Hid (∀ w, Calls Try.prog 13 #[fr d s false p v t b] w fun e w' => e = .returned (.bool true) ∧ Below w.heap.size w w')) :
    Calls Try.prog 7 #[fr d s false p v t b] w fun e w' => e = .returned (.bool true) ∧ Below w.heap.size w w' := by
  have y1 : IntKind.i64.wrap (14 + (b.size : Int) - (b.size : Int)) = 14 := by rw [IntKind.wrap_i64]; omega
  have y0 : IntKind.i64.wrap 14 = 14 := by decide
  have y2 : (14 : Int) ≤ (N : Int) := by omega
  have y3 : 14 ≤ N := by omega
  have y4 : ((N : Int) == 14 + (b.size : Int)) = true := by simp; omega
  clear hN
  go_enter Try.func7, Try.ntmps7
  go_wp2_with fail
  refine (HB.out _).mono ?_; rintro e w1 ⟨rfl, hb1⟩
  have bel := then_below (box_below w (Obj.cells #[Value.int IntKind.u64 d, Value.int IntKind.u64 s, Value.bool false, Value.int IntKind.i64 p, Value.int IntKind.i64 v, Value.int IntKind.i64 t, Value.string b] 25)) hb1
  obtain ⟨c0, c1, c2, c3, c4, c5, c6⟩ := (Has.alloc w d s false p v t b).keep hb1
  clear hb1
  go_wp2_with fail
  refine (HR.out _).mono ?_; rintro e w2 ⟨rfl, hb2⟩
  have bel := then_below bel hb2
  replace ⟨c0, c1, c2, c3, c4, c5, c6⟩ : w2.cell? ⟨w.heap.size, 0, none⟩ = some (.int .u64 d) ∧ w2.cell? ⟨w.heap.size, 1, none⟩ = some (.int .u64 s) ∧ w2.cell? ⟨w.heap.size, 2, none⟩ = some (.bool false) ∧ w2.cell? ⟨w.heap.size, 3, none⟩ = some (.int .i64 p) ∧ w2.cell? ⟨w.heap.size, 4, none⟩ = some (.int .i64 v) ∧ w2.cell? ⟨w.heap.size, 5, none⟩ = some (.int .i64 t) ∧ w2.cell? ⟨w.heap.size, 6, none⟩ = some (.string b) := ⟨keep_cell hb2 c0, keep_cell hb2 c1, keep_cell hb2 c2, keep_cell hb2 c3, keep_cell hb2 c4, keep_cell hb2 c5, keep_cell hb2 c6⟩
  clear hb2
  go_wp2_with fail
  go_region_held3 (fun w' => w'.cell? ⟨w.heap.size, 0, none⟩ = some (.int .u64 d) ∧ w'.cell? ⟨w.heap.size, 1, none⟩ = some (.int .u64 s) ∧ w'.cell? ⟨w.heap.size, 2, none⟩ = some (.bool false) ∧ w'.cell? ⟨w.heap.size, 3, none⟩ = some (.int .i64 p) ∧ w'.cell? ⟨w.heap.size, 4, none⟩ = some (.int .i64 v) ∧ w'.cell? ⟨w.heap.size, 5, none⟩ = some (.int .i64 t) ∧ w'.cell? ⟨w.heap.size, 6, none⟩ = some (.string b))
    (first | go_keep | (go_split_ands; exact ⟨keep_cell (by assumption) (by assumption), keep_cell (by assumption) (by assumption), keep_cell (by assumption) (by assumption), keep_cell (by assumption) (by assumption), keep_cell (by assumption) (by assumption), keep_cell (by assumption) (by assumption), keep_cell (by assumption) (by assumption)⟩))
    (first | (go_at_call 8; with_reducible refine (eawake_any _).mono ?_; rintro e w3 ⟨rfl, hb3⟩))
  go_wp2
  go_ret
  exact ⟨rfl, bel_drew bel hb3⟩

end Eth
end Go.Proofs.Ytebdpgdpddocfaa
