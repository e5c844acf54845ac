/-
  The law EtherSays, way by way.
-/
import Derived.Test.YtebdpgdpddocfaaEthAwake
import Derived.Test.YtebdpgdpddocfaaEthOpen
import Derived.Test.YtebdpgdpddocfaaRows
namespace Go.Proofs.Ytebdpgdpddocfaa
open Go.RowKit
namespace Eth
open Oct Mac

set_option maxRecDepth 100000 in
set_option maxHeartbeats 4000000 in
theorem says_big1 (d s p v t n : Int) (g : Bool) (b S : ByteArray) (w : World) (hz : 12000 < b.size)
     :
    Calls Try.prog 3 #[fr d s g p v t b, .string S, .int .i64 n] w fun e w' => e = .returned (.bool true) ∧ Below w.heap.size w w' := by
  go_enter Try.func3, Try.ntmps3
  go_wp2_with fail
  have bel := box_below w (Obj.cells #[Value.int IntKind.u64 d, Value.int IntKind.u64 s, Value.bool g, Value.int IntKind.i64 p, Value.int IntKind.i64 v, Value.int IntKind.i64 t, Value.string b] 25)
  refine (eawake_any _).mono ?_; rintro e w9 ⟨rfl, hb9⟩
  go_wp2_with fail
  go_ret
  exact ⟨rfl, then_below bel hb9⟩

set_option maxRecDepth 100000 in
set_option maxHeartbeats 4000000 in
theorem says_big2 (d s p v t n : Int) (g : Bool) (b S : ByteArray) (w : World) (hz : b.size ≤ 12000) (hS : 12000 < S.size)
     :
    Calls Try.prog 3 #[fr d s g p v t b, .string S, .int .i64 n] w fun e w' => e = .returned (.bool true) ∧ Below w.heap.size w w' := by
  go_enter Try.func3, Try.ntmps3
  go_wp2_with fail
  have bel := box_below w (Obj.cells #[Value.int IntKind.u64 d, Value.int IntKind.u64 s, Value.bool g, Value.int IntKind.i64 p, Value.int IntKind.i64 v, Value.int IntKind.i64 t, Value.string b] 25)
  refine (eawake_any _).mono ?_; rintro e w9 ⟨rfl, hb9⟩
  go_wp2_with fail
  go_ret
  exact ⟨rfl, then_below bel hb9⟩

set_option maxRecDepth 100000 in
set_option maxHeartbeats 4000000 in
theorem says_all (d s p v t n : Int) (g : Bool) (b S : ByteArray) (A : ByteArray) (E E2 V P2 V2 M d2 s2 p2 v2 t2 : Int) (g2 Q B : Bool) (b2 : ByteArray) (w : World) (hz : b.size ≤ 12000) (hS : S.size ≤ 12000) (hM : n.tmod 2 = M) (hB : (M == 0) = B)
    (HB1 : Hid (∀ w, Calls Try.prog 9 #[fr d s g p v t b] w fun e w' => e = .returned (.tuple #[.string A, .int .i64 E]) ∧ Below w.heap.size w w'))
    (HS1 : Hid (∀ w, Calls Try.prog 11 #[.string S] w fun e w' => e = .returned (.tuple #[fr d2 s2 g2 p2 v2 t2 b2, .int .i64 E2]) ∧ Below w.heap.size w w'))
    (HR1 : Hid (∀ w, Calls Try.prog 13 #[fr d s g p v t b] w fun e w' => e = .returned (.bool Q) ∧ Below w.heap.size w w'))
    (HV1 : Hid (∀ w, Calls Try.prog 15 #[fr d s g p v t b, .int .i64 n] w fun e w' => e = .returned (.int .i64 V) ∧ Below w.heap.size w w'))
    (HT1 : Hid (∀ w, Calls Try.prog 17 #[fr d s g p v t b, .bool B, .int .i64 n] w fun e w' => e = .returned (fr d s B P2 V2 t b) ∧ Below w.heap.size w w'))
    (HB2 : Hid (∀ w, Calls Try.prog 10 #[fr d s g p v t b] w fun e w' => e = .returned (.tuple #[.string A, .int .i64 E]) ∧ Below w.heap.size w w'))
    (HS2 : Hid (∀ w, Calls Try.prog 12 #[.string S] w fun e w' => e = .returned (.tuple #[fr d2 s2 g2 p2 v2 t2 b2, .int .i64 E2]) ∧ Below w.heap.size w w'))
    (HR2 : Hid (∀ w, Calls Try.prog 14 #[fr d s g p v t b] w fun e w' => e = .returned (.bool Q) ∧ Below w.heap.size w w'))
    (HV2 : Hid (∀ w, Calls Try.prog 16 #[fr d s g p v t b, .int .i64 n] w fun e w' => e = .returned (.int .i64 V) ∧ Below w.heap.size w w'))
    (HT2 : Hid (∀ w, Calls Try.prog 18 #[fr d s g p v t b, .bool B, .int .i64 n] w fun e w' => e = .returned (fr d s B P2 V2 t b) ∧ Below w.heap.size w w')) :
    Calls Try.prog 3 #[fr d s g p v t b, .string S, .int .i64 n] w fun e w' => e = .returned (.bool true) ∧ Below w.heap.size w w' := by
  have x0 : (E == E) = true := by simp
  have x1 : (E2 == E2) = true := by simp
  have x2 : (V == V) = true := by simp
  have x3 : ((d2 : Int) == (d2 : Int)) = true := by simp
  have x4 : ((s2 : Int) == (s2 : Int)) = true := by simp
  have x5 : (p2 == p2) = true := by simp
  have x6 : (v2 == v2) = true := by simp
  have x7 : (t2 == t2) = true := by simp
  have x8 : (d == d) = true := by simp
  have x9 : (s == s) = true := by simp
  have x10 : (t == t) = true := by simp
  have x11 : (P2 == P2) = true := by simp
  have x12 : (V2 == V2) = true := by simp
  have x13 : (Q == Q) = true := by simp
  have x14 : (g2 == g2) = true := by simp
  have x15 : (B == B) = true := by simp
  have xb : (b.toList == b.toList) = true := by simp
  have xb2 : (b2.toList == b2.toList) = true := by simp
  have xA : (A.toList == A.toList) = true := by simp
  go_enter Try.func3, Try.ntmps3
  go_wp2_with fail
  refine (HB1.out _).mono ?_; rintro e w1 ⟨rfl, hb1⟩
  have bel := then_below (box_below w (Obj.cells #[Value.int IntKind.u64 d, Value.int IntKind.u64 s, Value.bool g, Value.int IntKind.i64 p, Value.int IntKind.i64 v, Value.int IntKind.i64 t, Value.string b] 25)) hb1
  obtain ⟨c0, c1, c2, c3, c4, c5, c6⟩ := (Has.alloc w d s g p v t b).keep hb1
  clear hb1
  go_wp2_with fail
  refine (HB2.out _).mono ?_; rintro e w2 ⟨rfl, hb2⟩
  have bel := then_below bel hb2
  replace ⟨c0, c1, c2, c3, c4, c5, c6⟩ : w2.cell? ⟨w.heap.size, 0, none⟩ = some (.int .u64 d) ∧ w2.cell? ⟨w.heap.size, 1, none⟩ = some (.int .u64 s) ∧ w2.cell? ⟨w.heap.size, 2, none⟩ = some (.bool g) ∧ w2.cell? ⟨w.heap.size, 3, none⟩ = some (.int .i64 p) ∧ w2.cell? ⟨w.heap.size, 4, none⟩ = some (.int .i64 v) ∧ w2.cell? ⟨w.heap.size, 5, none⟩ = some (.int .i64 t) ∧ w2.cell? ⟨w.heap.size, 6, none⟩ = some (.string b) := ⟨keep_cell hb2 c0, keep_cell hb2 c1, keep_cell hb2 c2, keep_cell hb2 c3, keep_cell hb2 c4, keep_cell hb2 c5, keep_cell hb2 c6⟩
  clear hb2
  go_wp2_with fail
  refine (HS1.out _).mono ?_; rintro e w3 ⟨rfl, hb3⟩
  have bel := then_below (then_below bel hb3) (box_below w3 (Obj.cells #[Value.int IntKind.u64 d2, Value.int IntKind.u64 s2, Value.bool g2, Value.int IntKind.i64 p2, Value.int IntKind.i64 v2, Value.int IntKind.i64 t2, Value.string b2] 25))
  obtain ⟨c0, c1, c2, c3, c4, c5, c6⟩ : Has w3 w.heap.size d s g p v t b := Has.keep ⟨c0, c1, c2, c3, c4, c5, c6⟩ hb3
  obtain ⟨c0, c1, c2, c3, c4, c5, c6⟩ : Has (w3.alloc (Obj.cells #[Value.int IntKind.u64 d2, Value.int IntKind.u64 s2, Value.bool g2, Value.int IntKind.i64 p2, Value.int IntKind.i64 v2, Value.int IntKind.i64 t2, Value.string b2] 25)) w.heap.size d s g p v t b := Has.more ⟨c0, c1, c2, c3, c4, c5, c6⟩ _
  obtain ⟨e0, e1, e2, e3, e4, e5, e6⟩ := Has.alloc w3 d2 s2 g2 p2 v2 t2 b2
  clear hb3
  go_wp2_with fail
  refine (HS2.out _).mono ?_; rintro e w4 ⟨rfl, hb4⟩
  have bel := then_below (then_below bel hb4) (box_below w4 (Obj.cells #[Value.int IntKind.u64 d2, Value.int IntKind.u64 s2, Value.bool g2, Value.int IntKind.i64 p2, Value.int IntKind.i64 v2, Value.int IntKind.i64 t2, Value.string b2] 25))
  obtain ⟨c0, c1, c2, c3, c4, c5, c6⟩ : Has w4 w.heap.size d s g p v t b := Has.keep ⟨c0, c1, c2, c3, c4, c5, c6⟩ hb4
  obtain ⟨c0, c1, c2, c3, c4, c5, c6⟩ : Has (w4.alloc (Obj.cells #[Value.int IntKind.u64 d2, Value.int IntKind.u64 s2, Value.bool g2, Value.int IntKind.i64 p2, Value.int IntKind.i64 v2, Value.int IntKind.i64 t2, Value.string b2] 25)) w.heap.size d s g p v t b := Has.more ⟨c0, c1, c2, c3, c4, c5, c6⟩ _
  obtain ⟨e0, e1, e2, e3, e4, e5, e6⟩ : Has w4 w3.heap.size d2 s2 g2 p2 v2 t2 b2 := Has.keep ⟨e0, e1, e2, e3, e4, e5, e6⟩ hb4
  obtain ⟨e0, e1, e2, e3, e4, e5, e6⟩ : Has (w4.alloc (Obj.cells #[Value.int IntKind.u64 d2, Value.int IntKind.u64 s2, Value.bool g2, Value.int IntKind.i64 p2, Value.int IntKind.i64 v2, Value.int IntKind.i64 t2, Value.string b2] 25)) w3.heap.size d2 s2 g2 p2 v2 t2 b2 := Has.more ⟨e0, e1, e2, e3, e4, e5, e6⟩ _
  obtain ⟨f0, f1, f2, f3, f4, f5, f6⟩ := Has.alloc w4 d2 s2 g2 p2 v2 t2 b2
  clear hb4
  go_wp2_with fail
  generalize w3.heap.size = m at *
  generalize w4.heap.size = m2 at *
  generalize w4.alloc (Obj.cells #[Value.int IntKind.u64 d2, Value.int IntKind.u64 s2, Value.bool g2, Value.int IntKind.i64 p2, Value.int IntKind.i64 v2, Value.int IntKind.i64 t2, Value.string b2] 25) = W0 at *
  go_region_held3 (fun w' => w'.cell? ⟨w.heap.size, 0, none⟩ = some (.int .u64 d) ∧ w'.cell? ⟨w.heap.size, 1, none⟩ = some (.int .u64 s) ∧ w'.cell? ⟨w.heap.size, 2, none⟩ = some (.bool g) ∧ w'.cell? ⟨w.heap.size, 3, none⟩ = some (.int .i64 p) ∧ w'.cell? ⟨w.heap.size, 4, none⟩ = some (.int .i64 v) ∧ w'.cell? ⟨w.heap.size, 5, none⟩ = some (.int .i64 t) ∧ w'.cell? ⟨w.heap.size, 6, none⟩ = some (.string b) ∧ w'.cell? ⟨m, 0, none⟩ = some (.int .u64 d2) ∧ w'.cell? ⟨m, 1, none⟩ = some (.int .u64 s2) ∧ w'.cell? ⟨m, 2, none⟩ = some (.bool g2) ∧ w'.cell? ⟨m, 3, none⟩ = some (.int .i64 p2) ∧ w'.cell? ⟨m, 4, none⟩ = some (.int .i64 v2) ∧ w'.cell? ⟨m, 5, none⟩ = some (.int .i64 t2) ∧ w'.cell? ⟨m, 6, none⟩ = some (.string b2) ∧ w'.cell? ⟨m2, 0, none⟩ = some (.int .u64 d2) ∧ w'.cell? ⟨m2, 1, none⟩ = some (.int .u64 s2) ∧ w'.cell? ⟨m2, 2, none⟩ = some (.bool g2) ∧ w'.cell? ⟨m2, 3, none⟩ = some (.int .i64 p2) ∧ w'.cell? ⟨m2, 4, none⟩ = some (.int .i64 v2) ∧ w'.cell? ⟨m2, 5, none⟩ = some (.int .i64 t2) ∧ w'.cell? ⟨m2, 6, none⟩ = some (.string b2))
    (first | go_keep | (go_split_ands; exact ⟨keep_cell (by assumption) (by assumption), keep_cell (by assumption) (by assumption), keep_cell (by assumption) (by assumption), keep_cell (by assumption) (by assumption), keep_cell (by assumption) (by assumption), keep_cell (by assumption) (by assumption), keep_cell (by assumption) (by assumption), keep_cell (by assumption) (by assumption), keep_cell (by assumption) (by assumption), keep_cell (by assumption) (by assumption), keep_cell (by assumption) (by assumption), keep_cell (by assumption) (by assumption), keep_cell (by assumption) (by assumption), keep_cell (by assumption) (by assumption), keep_cell (by assumption) (by assumption), keep_cell (by assumption) (by assumption), keep_cell (by assumption) (by assumption), keep_cell (by assumption) (by assumption), keep_cell (by assumption) (by assumption), keep_cell (by assumption) (by assumption), keep_cell (by assumption) (by assumption)⟩))
    (first | (go_at_call 13; with_reducible refine (HR1.out _).mono ?_; rintro e w5 ⟨rfl, hb5⟩) | (go_at_call 14; with_reducible refine (HR2.out _).mono ?_; rintro e w6 ⟨rfl, hb6⟩) | (go_at_call 15; with_reducible refine (HV1.out _).mono ?_; rintro e w7 ⟨rfl, hb7⟩) | (go_at_call 16; with_reducible refine (HV2.out _).mono ?_; rintro e w8 ⟨rfl, hb8⟩) | (go_at_call 17; with_reducible refine (HT1.out _).mono ?_; rintro e w10 ⟨rfl, hb10⟩) | (go_at_call 18; with_reducible refine (HT2.out _).mono ?_; rintro e w11 ⟨rfl, hb11⟩) | (go_at_call 8; with_reducible refine (eawake_any _).mono ?_; rintro e w12 ⟨rfl, hb12⟩))
  go_wp2
  go_ret
  exact ⟨rfl, then_below (then_below (then_below (then_below (then_below (then_below (bel_drew bel hb5) hb6) hb7) hb8) hb10) hb11) hb12⟩

end Eth
end Go.Proofs.Ytebdpgdpddocfaa
