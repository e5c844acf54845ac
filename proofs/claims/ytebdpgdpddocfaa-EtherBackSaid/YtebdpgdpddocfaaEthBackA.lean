/-
  The law EtherBack, way by way.
-/
import Derived.Test.YtebdpgdpddocfaaEthAwake
import Derived.Test.YtebdpgdpddocfaaEthOpen
import Derived.Test.YtebdpgdpddocfaaRows
namespace Go.Proofs.Ytebdpgdpddocfaa
open Go.RowKit
namespace Eth
open Oct Mac

set_option maxHeartbeats 1000000 in
theorem back_big1 (d s p v t : Int) (g : Bool) (b S : ByteArray) (w : World) (hz : 12000 < b.size)
     :
    Calls Try.prog 4 #[fr d s g p v t b, .string S] w fun e w' => e = .returned (.bool true) ∧ Below w.heap.size w w' := by
  go_enter Try.func4, Try.ntmps4
  go_wp2_with fail
  have bel := box_below w (Obj.cells #[Value.int IntKind.u64 d, Value.int IntKind.u64 s, Value.bool g, Value.int IntKind.i64 p, Value.int IntKind.i64 v, Value.int IntKind.i64 t, Value.string b] 25)
  refine (eawake_any _).mono ?_; rintro e w9 ⟨rfl, hb9⟩
  go_wp2_with fail
  go_ret
  exact ⟨rfl, then_below bel hb9⟩

set_option maxHeartbeats 1000000 in
theorem back_big2 (d s p v t : Int) (g : Bool) (b S : ByteArray) (w : World) (hz : b.size ≤ 12000) (hS : 12000 < S.size)
     :
    Calls Try.prog 4 #[fr d s g p v t b, .string S] w fun e w' => e = .returned (.bool true) ∧ Below w.heap.size w w' := by
  go_enter Try.func4, Try.ntmps4
  go_wp2_with fail
  have bel := box_below w (Obj.cells #[Value.int IntKind.u64 d, Value.int IntKind.u64 s, Value.bool g, Value.int IntKind.i64 p, Value.int IntKind.i64 v, Value.int IntKind.i64 t, Value.string b] 25)
  refine (eawake_any _).mono ?_; rintro e w9 ⟨rfl, hb9⟩
  go_wp2_with fail
  go_ret
  exact ⟨rfl, then_below bel hb9⟩

set_option maxHeartbeats 1000000 in
theorem back_00 (d s p v t : Int) (g : Bool) (b S : ByteArray) (X : ByteArray) (d2 s2 p2 v2 t2 : Int) (g2 : Bool) (b2 : ByteArray) (w : World) (hz : b.size ≤ 12000) (hS : S.size ≤ 12000) (zX : X.size ≤ 9216)
    (HB : Hid (∀ w, Calls Try.prog 9 #[fr d s g p v t b] w fun e w' => e = .returned (.tuple #[.string X, .int .i64 0]) ∧ Below w.heap.size w w'))
    (HX : Hid (∀ w, Calls Try.prog 11 #[.string X] w fun e w' => e = .returned (.tuple #[fr d s g p v t b, .int .i64 0]) ∧ Below w.heap.size w w'))
    (HS : Hid (∀ w, Calls Try.prog 11 #[.string S] w fun e w' => e = .returned (.tuple #[fr d2 s2 g2 p2 v2 t2 b2, .int .i64 0]) ∧ Below w.heap.size w w'))
    (HB2 : Hid (∀ w, Calls Try.prog 9 #[fr d2 s2 g2 p2 v2 t2 b2] w fun e w' => e = .returned (.tuple #[.string S, .int .i64 0]) ∧ Below w.heap.size w w'))
    (HR2 : Hid (∀ w, Calls Try.prog 13 #[fr d2 s2 g2 p2 v2 t2 b2] w fun e w' => e = .returned (.bool true) ∧ Below w.heap.size w w')) :
    Calls Try.prog 4 #[fr d s g p v t b, .string S] w fun e w' => e = .returned (.bool true) ∧ Below w.heap.size w w' := by
  go_enter Try.func4, Try.ntmps4
  go_wp2_with fail
  refine (HB.out _).mono ?_; rintro e w1 ⟨rfl, hb1⟩
  have bel := then_below (box_below w (Obj.cells #[Value.int IntKind.u64 d, Value.int IntKind.u64 s, Value.bool g, Value.int IntKind.i64 p, Value.int IntKind.i64 v, Value.int IntKind.i64 t, Value.string b] 25)) hb1
  obtain ⟨c0, c1, c2, c3, c4, c5, c6⟩ := (Has.alloc w d s g p v t b).keep hb1
  clear hb1
  go_wp2_with fail
  refine (HX.out _).mono ?_; rintro e w2 ⟨rfl, hb2⟩
  have bel := then_below (then_below bel hb2) (box_below w2 (Obj.cells #[Value.int IntKind.u64 d, Value.int IntKind.u64 s, Value.bool g, Value.int IntKind.i64 p, Value.int IntKind.i64 v, Value.int IntKind.i64 t, Value.string b] 25))
  have hl : w.heap.size < w2.heap.size := Nat.lt_of_lt_of_le (World.block_lt_of_cell? _ _ c0) hb2.size
  have hl2 : ¬ w.heap.size = w2.heap.size := by omega
  obtain ⟨c0, c1, c2, c3, c4, c5, c6⟩ : Has w2 w.heap.size d s g p v t b := Has.keep ⟨c0, c1, c2, c3, c4, c5, c6⟩ hb2
  obtain ⟨e0, e1, e2, e3, e4, e5, e6⟩ : Has (w2.alloc (Obj.cells #[Value.int IntKind.u64 d, Value.int IntKind.u64 s, Value.bool g, Value.int IntKind.i64 p, Value.int IntKind.i64 v, Value.int IntKind.i64 t, Value.string b] 25)) w.heap.size d s g p v t b := Has.more ⟨c0, c1, c2, c3, c4, c5, c6⟩ _
  go_wp2_with fail
  refine (HS.out _).mono ?_; rintro e w3 ⟨rfl, hb3⟩
  have bel := then_below (then_below bel hb3) (box_below w3 (Obj.cells #[Value.int IntKind.u64 d2, Value.int IntKind.u64 s2, Value.bool g2, Value.int IntKind.i64 p2, Value.int IntKind.i64 v2, Value.int IntKind.i64 t2, Value.string b2] 25))
  go_wp2_with fail
  refine (HB2.out _).mono ?_; rintro e w4 ⟨rfl, hb4⟩
  have bel := then_below bel hb4
  obtain ⟨f0, f1, f2, f3, f4, f5, f6⟩ : Has w4 w3.heap.size d2 s2 g2 p2 v2 t2 b2 := Has.keep (Has.alloc _ _ _ _ _ _ _ _) hb4
  go_wp2_with fail
  refine (HR2.out _).mono ?_; rintro e w5 ⟨rfl, hb5⟩
  have bel := then_below bel hb5
  go_wp2_with fail
  refine (eawake_any _).mono ?_; rintro e w9 ⟨rfl, hb9⟩
  go_wp2_with fail
  go_ret
  exact ⟨rfl, then_below bel hb9⟩

set_option maxHeartbeats 1000000 in
theorem back_01 (d s p v t : Int) (g : Bool) (b S : ByteArray) (X : ByteArray) (d2 s2 p2 v2 t2 : Int) (g2 : Bool) (b2 : ByteArray) (E : Int) (w : World) (hz : b.size ≤ 12000) (hS : S.size ≤ 12000) (zX : X.size ≤ 9216) (hE : (E == 0) = false)
    (HB : Hid (∀ w, Calls Try.prog 9 #[fr d s g p v t b] w fun e w' => e = .returned (.tuple #[.string X, .int .i64 0]) ∧ Below w.heap.size w w'))
    (HX : Hid (∀ w, Calls Try.prog 11 #[.string X] w fun e w' => e = .returned (.tuple #[fr d s g p v t b, .int .i64 0]) ∧ Below w.heap.size w w'))
    (HS : Hid (∀ w, Calls Try.prog 11 #[.string S] w fun e w' => e = .returned (.tuple #[fr d2 s2 g2 p2 v2 t2 b2, .int .i64 E]) ∧ Below w.heap.size w w')) :
    Calls Try.prog 4 #[fr d s g p v t b, .string S] w fun e w' => e = .returned (.bool true) ∧ Below w.heap.size w w' := by
  go_enter Try.func4, Try.ntmps4
  go_wp2_with fail
  refine (HB.out _).mono ?_; rintro e w1 ⟨rfl, hb1⟩
  have bel := then_below (box_below w (Obj.cells #[Value.int IntKind.u64 d, Value.int IntKind.u64 s, Value.bool g, Value.int IntKind.i64 p, Value.int IntKind.i64 v, Value.int IntKind.i64 t, Value.string b] 25)) hb1
  obtain ⟨c0, c1, c2, c3, c4, c5, c6⟩ := (Has.alloc w d s g p v t b).keep hb1
  clear hb1
  go_wp2_with fail
  refine (HX.out _).mono ?_; rintro e w2 ⟨rfl, hb2⟩
  have bel := then_below (then_below bel hb2) (box_below w2 (Obj.cells #[Value.int IntKind.u64 d, Value.int IntKind.u64 s, Value.bool g, Value.int IntKind.i64 p, Value.int IntKind.i64 v, Value.int IntKind.i64 t, Value.string b] 25))
  have hl : w.heap.size < w2.heap.size := Nat.lt_of_lt_of_le (World.block_lt_of_cell? _ _ c0) hb2.size
  have hl2 : ¬ w.heap.size = w2.heap.size := by omega
  obtain ⟨c0, c1, c2, c3, c4, c5, c6⟩ : Has w2 w.heap.size d s g p v t b := Has.keep ⟨c0, c1, c2, c3, c4, c5, c6⟩ hb2
  obtain ⟨e0, e1, e2, e3, e4, e5, e6⟩ : Has (w2.alloc (Obj.cells #[Value.int IntKind.u64 d, Value.int IntKind.u64 s, Value.bool g, Value.int IntKind.i64 p, Value.int IntKind.i64 v, Value.int IntKind.i64 t, Value.string b] 25)) w.heap.size d s g p v t b := Has.more ⟨c0, c1, c2, c3, c4, c5, c6⟩ _
  go_wp2_with fail
  refine (HS.out _).mono ?_; rintro e w3 ⟨rfl, hb3⟩
  have bel := then_below (then_below bel hb3) (box_below w3 (Obj.cells #[Value.int IntKind.u64 d2, Value.int IntKind.u64 s2, Value.bool g2, Value.int IntKind.i64 p2, Value.int IntKind.i64 v2, Value.int IntKind.i64 t2, Value.string b2] 25))
  go_wp2_with fail
  refine (eawake_any _).mono ?_; rintro e w9 ⟨rfl, hb9⟩
  go_wp2_with fail
  go_ret
  exact ⟨rfl, then_below bel hb9⟩

set_option maxHeartbeats 1000000 in
theorem back_10 (d s p v t : Int) (g : Bool) (b S : ByteArray) (d2 s2 p2 v2 t2 : Int) (g2 : Bool) (b2 : ByteArray) (w : World) (hz : b.size ≤ 12000) (hS : S.size ≤ 12000)
    (HB : Hid (∀ w, Calls Try.prog 9 #[fr d s g p v t b] w fun e w' => e = .returned (.tuple #[.string ⟨#[]⟩, .int .i64 1]) ∧ Below w.heap.size w w'))
    (HS : Hid (∀ w, Calls Try.prog 11 #[.string S] w fun e w' => e = .returned (.tuple #[fr d2 s2 g2 p2 v2 t2 b2, .int .i64 0]) ∧ Below w.heap.size w w'))
    (HB2 : Hid (∀ w, Calls Try.prog 9 #[fr d2 s2 g2 p2 v2 t2 b2] w fun e w' => e = .returned (.tuple #[.string S, .int .i64 0]) ∧ Below w.heap.size w w'))
    (HR2 : Hid (∀ w, Calls Try.prog 13 #[fr d2 s2 g2 p2 v2 t2 b2] w fun e w' => e = .returned (.bool true) ∧ Below w.heap.size w w')) :
    Calls Try.prog 4 #[fr d s g p v t b, .string S] w fun e w' => e = .returned (.bool true) ∧ Below w.heap.size w w' := by
  go_enter Try.func4, Try.ntmps4
  go_wp2_with fail
  refine (HB.out _).mono ?_; rintro e w1 ⟨rfl, hb1⟩
  have bel := then_below (box_below w (Obj.cells #[Value.int IntKind.u64 d, Value.int IntKind.u64 s, Value.bool g, Value.int IntKind.i64 p, Value.int IntKind.i64 v, Value.int IntKind.i64 t, Value.string b] 25)) hb1
  obtain ⟨c0, c1, c2, c3, c4, c5, c6⟩ := (Has.alloc w d s g p v t b).keep hb1
  clear hb1
  go_wp2_with fail
  refine (HS.out _).mono ?_; rintro e w3 ⟨rfl, hb3⟩
  have bel := then_below (then_below bel hb3) (box_below w3 (Obj.cells #[Value.int IntKind.u64 d2, Value.int IntKind.u64 s2, Value.bool g2, Value.int IntKind.i64 p2, Value.int IntKind.i64 v2, Value.int IntKind.i64 t2, Value.string b2] 25))
  go_wp2_with fail
  refine (HB2.out _).mono ?_; rintro e w4 ⟨rfl, hb4⟩
  have bel := then_below bel hb4
  obtain ⟨f0, f1, f2, f3, f4, f5, f6⟩ : Has w4 w3.heap.size d2 s2 g2 p2 v2 t2 b2 := Has.keep (Has.alloc _ _ _ _ _ _ _ _) hb4
  go_wp2_with fail
  refine (HR2.out _).mono ?_; rintro e w5 ⟨rfl, hb5⟩
  have bel := then_below bel hb5
  go_wp2_with fail
  refine (eawake_any _).mono ?_; rintro e w9 ⟨rfl, hb9⟩
  go_wp2_with fail
  go_ret
  exact ⟨rfl, then_below bel hb9⟩

set_option maxHeartbeats 1000000 in
theorem back_11 (d s p v t : Int) (g : Bool) (b S : ByteArray) (d2 s2 p2 v2 t2 : Int) (g2 : Bool) (b2 : ByteArray) (E : Int) (w : World) (hz : b.size ≤ 12000) (hS : S.size ≤ 12000) (hE : (E == 0) = false)
    (HB : Hid (∀ w, Calls Try.prog 9 #[fr d s g p v t b] w fun e w' => e = .returned (.tuple #[.string ⟨#[]⟩, .int .i64 1]) ∧ Below w.heap.size w w'))
    (HS : Hid (∀ w, Calls Try.prog 11 #[.string S] w fun e w' => e = .returned (.tuple #[fr d2 s2 g2 p2 v2 t2 b2, .int .i64 E]) ∧ Below w.heap.size w w')) :
    Calls Try.prog 4 #[fr d s g p v t b, .string S] w fun e w' => e = .returned (.bool true) ∧ Below w.heap.size w w' := by
  go_enter Try.func4, Try.ntmps4
  go_wp2_with fail
  refine (HB.out _).mono ?_; rintro e w1 ⟨rfl, hb1⟩
  have bel := then_below (box_below w (Obj.cells #[Value.int IntKind.u64 d, Value.int IntKind.u64 s, Value.bool g, Value.int IntKind.i64 p, Value.int IntKind.i64 v, Value.int IntKind.i64 t, Value.string b] 25)) hb1
  obtain ⟨c0, c1, c2, c3, c4, c5, c6⟩ := (Has.alloc w d s g p v t b).keep hb1
  clear hb1
  go_wp2_with fail
  refine (HS.out _).mono ?_; rintro e w3 ⟨rfl, hb3⟩
  have bel := then_below (then_below bel hb3) (box_below w3 (Obj.cells #[Value.int IntKind.u64 d2, Value.int IntKind.u64 s2, Value.bool g2, Value.int IntKind.i64 p2, Value.int IntKind.i64 v2, Value.int IntKind.i64 t2, Value.string b2] 25))
  go_wp2_with fail
  refine (eawake_any _).mono ?_; rintro e w9 ⟨rfl, hb9⟩
  go_wp2_with fail
  go_ret
  exact ⟨rfl, then_below bel hb9⟩

end Eth
end Go.Proofs.Ytebdpgdpddocfaa
