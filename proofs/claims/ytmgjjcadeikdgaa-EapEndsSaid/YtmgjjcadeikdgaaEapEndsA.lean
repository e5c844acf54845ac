/-
  The law EapEnds, way by way.
-/
import Derived.Test.YtmgjjcadeikdgaaEapAwake
import Derived.Test.YtmgjjcadeikdgaaEapOpen
import Derived.Test.YtmgjjcadeikdgaaRows
import Derived.Test.YtmgjjcadeikdgaaBox
namespace Go.Proofs.Ytmgjjcadeikdgaa
open Go.RowKit
namespace Eap
open Oct Mac Eth Epl

set_option maxRecDepth 100000 in
set_option maxHeartbeats 4000000 in
theorem ends_all (i m en : Int) (g : Bool) (A B : ByteArray) (w : World) (ha : bits BinOp.and IntKind.i64 i 255 = m)
    (HI : Hid (∀ w, Calls Try.prog 16 #[.int .i64 i] w fun e w' => e = .returned (pk 1 m 1 ⟨#[]⟩) ∧ Below w.heap.size w w'))
    (HE : Hid (∀ w, Calls Try.prog 18 #[.int .i64 i, .bool g] w fun e w' => e = .returned (pk en m 0 ⟨#[]⟩) ∧ Below w.heap.size w w'))
    (HB : Hid (∀ w, Calls Try.prog 8 #[pk 1 m 1 ⟨#[]⟩] w fun e w' => e = .returned (.tuple #[.string A, .int .i64 0]) ∧ Below w.heap.size w w'))
    (HB2 : Hid (∀ w, Calls Try.prog 8 #[pk en m 0 ⟨#[]⟩] w fun e w' => e = .returned (.tuple #[.string B, .int .i64 0]) ∧ Below w.heap.size w w'))
    (HX : Hid (∀ w, Calls Try.prog 10 #[.string A] w fun e w' => e = .returned (.tuple #[pk 1 m 1 ⟨#[]⟩, .int .i64 0]) ∧ Below w.heap.size w w'))
    (HX2 : Hid (∀ w, Calls Try.prog 10 #[.string B] w fun e w' => e = .returned (.tuple #[pk en m 0 ⟨#[]⟩, .int .i64 0]) ∧ Below w.heap.size w w'))
    (HA : Hid (∀ w, Calls Try.prog 14 #[pk 1 m 1 ⟨#[]⟩, pk en m 0 ⟨#[]⟩] w fun e w' => e = .returned (.bool false) ∧ Below w.heap.size w w')) :
    Calls Try.prog 6 #[.int .i64 i, .bool g] w fun e w' => e = .returned (.bool true) ∧ Below w.heap.size w w' := by
  have x0 : (m == m) = true := by simp
  have x1 : (en == en) = true := by simp
  have x2 : (m != m) = false := by simp
  go_enter Try.func6, Try.ntmps6
  go_wp2_with fail
  have bel := Bx.bel_refl w
  refine (HI.out _).mono ?_; rintro e w1 ⟨rfl, hb1⟩
  replace bel := Bx.then_below bel hb1
  clear hb1
  go_wp2_with fail
  refine (HE.out _).mono ?_; rintro e w2 ⟨rfl, hb2⟩
  replace bel := Bx.then_below bel hb2
  clear hb2
  go_wp2_with fail
  have B0 := Lib.hid (Bx.Blk.new w2 [.int .i64 1, .int .i64 m, .int .i64 1, .string ⟨#[]⟩, .int .i64 en, .int .i64 m, .int .i64 0, .string ⟨#[]⟩] 23)
  replace bel := Bx.bel_box bel (Obj.cells #[.int .i64 1, .int .i64 m, .int .i64 1, .string ⟨#[]⟩, .int .i64 en, .int .i64 m, .int .i64 0, .string ⟨#[]⟩] 23)
  have c0_0 := B0.out.at 0 rfl
  have c0_1 := B0.out.at 1 rfl
  have c0_2 := B0.out.at 2 rfl
  have c0_3 := B0.out.at 3 rfl
  have c0_4 := B0.out.at 4 rfl
  have c0_5 := B0.out.at 5 rfl
  have c0_6 := B0.out.at 6 rfl
  have c0_7 := B0.out.at 7 rfl
  refine wp_loop_rounds 3 ?_; rw [rounds_succ]
  go_wp2_with fail
  replace B0 := Lib.hid (B0.out.more (Obj.cells #[.int .i64 1, .int .i64 m, .int .i64 1, .string ⟨#[]⟩] 23))
  have B1 := Lib.hid (Bx.Blk.new_at (W := (w2.alloc (Obj.cells #[.int .i64 1, .int .i64 m, .int .i64 1, .string ⟨#[]⟩, .int .i64 en, .int .i64 m, .int .i64 0, .string ⟨#[]⟩] 23))) (k := w2.heap.size + 1) [.int .i64 1, .int .i64 m, .int .i64 1, .string ⟨#[]⟩] 23 (by simp))
  replace bel := Bx.bel_box bel (Obj.cells #[.int .i64 1, .int .i64 m, .int .i64 1, .string ⟨#[]⟩] 23)
  clear c0_0 c0_1 c0_2 c0_3 c0_4 c0_5 c0_6 c0_7
  have c0_0 := B0.out.at 0 rfl
  have c0_1 := B0.out.at 1 rfl
  have c0_2 := B0.out.at 2 rfl
  have c0_3 := B0.out.at 3 rfl
  have c0_4 := B0.out.at 4 rfl
  have c0_5 := B0.out.at 5 rfl
  have c0_6 := B0.out.at 6 rfl
  have c0_7 := B0.out.at 7 rfl
  have c1_0 := B1.out.at 0 rfl
  have c1_1 := B1.out.at 1 rfl
  have c1_2 := B1.out.at 2 rfl
  have c1_3 := B1.out.at 3 rfl
  refine (HB.out _).mono ?_; rintro e w3 ⟨rfl, hb3⟩
  replace bel := Bx.then_below bel hb3
  replace B0 := Lib.hid (B0.out.keep hb3)
  replace B1 := Lib.hid (B1.out.keep hb3)
  clear hb3
  clear c0_0 c0_1 c0_2 c0_3 c0_4 c0_5 c0_6 c0_7 c1_0 c1_1 c1_2 c1_3
  have c0_0 := B0.out.at 0 rfl
  have c0_1 := B0.out.at 1 rfl
  have c0_2 := B0.out.at 2 rfl
  have c0_3 := B0.out.at 3 rfl
  have c0_4 := B0.out.at 4 rfl
  have c0_5 := B0.out.at 5 rfl
  have c0_6 := B0.out.at 6 rfl
  have c0_7 := B0.out.at 7 rfl
  have c1_0 := B1.out.at 0 rfl
  have c1_1 := B1.out.at 1 rfl
  have c1_2 := B1.out.at 2 rfl
  have c1_3 := B1.out.at 3 rfl
  go_wp2_with fail
  refine (HX.out _).mono ?_; rintro e w4 ⟨rfl, hb4⟩
  replace bel := Bx.then_below bel hb4
  replace B0 := Lib.hid (B0.out.keep hb4)
  replace B1 := Lib.hid (B1.out.keep hb4)
  clear hb4
  replace B0 := Lib.hid (B0.out.more (Obj.cells #[.int .i64 1, .int .i64 m, .int .i64 1, .string ⟨#[]⟩] 23))
  replace B1 := Lib.hid (B1.out.more (Obj.cells #[.int .i64 1, .int .i64 m, .int .i64 1, .string ⟨#[]⟩] 23))
  have B2 := Lib.hid (Bx.Blk.new w4 [.int .i64 1, .int .i64 m, .int .i64 1, .string ⟨#[]⟩] 23)
  replace bel := Bx.bel_box bel (Obj.cells #[.int .i64 1, .int .i64 m, .int .i64 1, .string ⟨#[]⟩] 23)
  clear c0_0 c0_1 c0_2 c0_3 c0_4 c0_5 c0_6 c0_7 c1_0 c1_1 c1_2 c1_3
  have c0_0 := B0.out.at 0 rfl
  have c0_1 := B0.out.at 1 rfl
  have c0_2 := B0.out.at 2 rfl
  have c0_3 := B0.out.at 3 rfl
  have c0_4 := B0.out.at 4 rfl
  have c0_5 := B0.out.at 5 rfl
  have c0_6 := B0.out.at 6 rfl
  have c0_7 := B0.out.at 7 rfl
  have c1_0 := B1.out.at 0 rfl
  have c1_1 := B1.out.at 1 rfl
  have c1_2 := B1.out.at 2 rfl
  have c1_3 := B1.out.at 3 rfl
  have c2_0 := B2.out.at 0 rfl
  have c2_1 := B2.out.at 1 rfl
  have c2_2 := B2.out.at 2 rfl
  have c2_3 := B2.out.at 3 rfl
  go_wp2_with fail
  rw [rounds_succ]
  go_wp2_with fail
  replace B0 := Lib.hid (B0.out.more (Obj.cells #[.int .i64 en, .int .i64 m, .int .i64 0, .string ⟨#[]⟩] 23))
  replace B1 := Lib.hid (B1.out.more (Obj.cells #[.int .i64 en, .int .i64 m, .int .i64 0, .string ⟨#[]⟩] 23))
  replace B2 := Lib.hid (B2.out.more (Obj.cells #[.int .i64 en, .int .i64 m, .int .i64 0, .string ⟨#[]⟩] 23))
  have B3 := Lib.hid (Bx.Blk.new_at (W := (w4.alloc (Obj.cells #[.int .i64 1, .int .i64 m, .int .i64 1, .string ⟨#[]⟩] 23))) (k := w4.heap.size + 1) [.int .i64 en, .int .i64 m, .int .i64 0, .string ⟨#[]⟩] 23 (by simp))
  replace bel := Bx.bel_box bel (Obj.cells #[.int .i64 en, .int .i64 m, .int .i64 0, .string ⟨#[]⟩] 23)
  clear c0_0 c0_1 c0_2 c0_3 c0_4 c0_5 c0_6 c0_7 c1_0 c1_1 c1_2 c1_3 c2_0 c2_1 c2_2 c2_3
  have c0_0 := B0.out.at 0 rfl
  have c0_1 := B0.out.at 1 rfl
  have c0_2 := B0.out.at 2 rfl
  have c0_3 := B0.out.at 3 rfl
  have c0_4 := B0.out.at 4 rfl
  have c0_5 := B0.out.at 5 rfl
  have c0_6 := B0.out.at 6 rfl
  have c0_7 := B0.out.at 7 rfl
  have c1_0 := B1.out.at 0 rfl
  have c1_1 := B1.out.at 1 rfl
  have c1_2 := B1.out.at 2 rfl
  have c1_3 := B1.out.at 3 rfl
  have c2_0 := B2.out.at 0 rfl
  have c2_1 := B2.out.at 1 rfl
  have c2_2 := B2.out.at 2 rfl
  have c2_3 := B2.out.at 3 rfl
  have c3_0 := B3.out.at 0 rfl
  have c3_1 := B3.out.at 1 rfl
  have c3_2 := B3.out.at 2 rfl
  have c3_3 := B3.out.at 3 rfl
  refine (HB2.out _).mono ?_; rintro e w5 ⟨rfl, hb5⟩
  replace bel := Bx.then_below bel hb5
  replace B0 := Lib.hid (B0.out.keep hb5)
  replace B1 := Lib.hid (B1.out.keep hb5)
  replace B2 := Lib.hid (B2.out.keep hb5)
  replace B3 := Lib.hid (B3.out.keep hb5)
  clear hb5
  clear c0_0 c0_1 c0_2 c0_3 c0_4 c0_5 c0_6 c0_7 c1_0 c1_1 c1_2 c1_3 c2_0 c2_1 c2_2 c2_3 c3_0 c3_1 c3_2 c3_3
  have c0_0 := B0.out.at 0 rfl
  have c0_1 := B0.out.at 1 rfl
  have c0_2 := B0.out.at 2 rfl
  have c0_3 := B0.out.at 3 rfl
  have c0_4 := B0.out.at 4 rfl
  have c0_5 := B0.out.at 5 rfl
  have c0_6 := B0.out.at 6 rfl
  have c0_7 := B0.out.at 7 rfl
  have c1_0 := B1.out.at 0 rfl
  have c1_1 := B1.out.at 1 rfl
  have c1_2 := B1.out.at 2 rfl
  have c1_3 := B1.out.at 3 rfl
  have c2_0 := B2.out.at 0 rfl
  have c2_1 := B2.out.at 1 rfl
  have c2_2 := B2.out.at 2 rfl
  have c2_3 := B2.out.at 3 rfl
  have c3_0 := B3.out.at 0 rfl
  have c3_1 := B3.out.at 1 rfl
  have c3_2 := B3.out.at 2 rfl
  have c3_3 := B3.out.at 3 rfl
  go_wp2_with fail
  refine (HX2.out _).mono ?_; rintro e w6 ⟨rfl, hb6⟩
  replace bel := Bx.then_below bel hb6
  replace B0 := Lib.hid (B0.out.keep hb6)
  replace B1 := Lib.hid (B1.out.keep hb6)
  replace B2 := Lib.hid (B2.out.keep hb6)
  replace B3 := Lib.hid (B3.out.keep hb6)
  clear hb6
  replace B0 := Lib.hid (B0.out.more (Obj.cells #[.int .i64 en, .int .i64 m, .int .i64 0, .string ⟨#[]⟩] 23))
  replace B1 := Lib.hid (B1.out.more (Obj.cells #[.int .i64 en, .int .i64 m, .int .i64 0, .string ⟨#[]⟩] 23))
  replace B2 := Lib.hid (B2.out.more (Obj.cells #[.int .i64 en, .int .i64 m, .int .i64 0, .string ⟨#[]⟩] 23))
  replace B3 := Lib.hid (B3.out.more (Obj.cells #[.int .i64 en, .int .i64 m, .int .i64 0, .string ⟨#[]⟩] 23))
  have B4 := Lib.hid (Bx.Blk.new w6 [.int .i64 en, .int .i64 m, .int .i64 0, .string ⟨#[]⟩] 23)
  replace bel := Bx.bel_box bel (Obj.cells #[.int .i64 en, .int .i64 m, .int .i64 0, .string ⟨#[]⟩] 23)
  clear c0_0 c0_1 c0_2 c0_3 c0_4 c0_5 c0_6 c0_7 c1_0 c1_1 c1_2 c1_3 c2_0 c2_1 c2_2 c2_3 c3_0 c3_1 c3_2 c3_3
  have c0_0 := B0.out.at 0 rfl
  have c0_1 := B0.out.at 1 rfl
  have c0_2 := B0.out.at 2 rfl
  have c0_3 := B0.out.at 3 rfl
  have c0_4 := B0.out.at 4 rfl
  have c0_5 := B0.out.at 5 rfl
  have c0_6 := B0.out.at 6 rfl
  have c0_7 := B0.out.at 7 rfl
  have c1_0 := B1.out.at 0 rfl
  have c1_1 := B1.out.at 1 rfl
  have c1_2 := B1.out.at 2 rfl
  have c1_3 := B1.out.at 3 rfl
  have c2_0 := B2.out.at 0 rfl
  have c2_1 := B2.out.at 1 rfl
  have c2_2 := B2.out.at 2 rfl
  have c2_3 := B2.out.at 3 rfl
  have c3_0 := B3.out.at 0 rfl
  have c3_1 := B3.out.at 1 rfl
  have c3_2 := B3.out.at 2 rfl
  have c3_3 := B3.out.at 3 rfl
  have c4_0 := B4.out.at 0 rfl
  have c4_1 := B4.out.at 1 rfl
  have c4_2 := B4.out.at 2 rfl
  have c4_3 := B4.out.at 3 rfl
  go_wp2_with fail
  rw [rounds_succ]
  go_wp2_with fail
  refine (HI.out _).mono ?_; rintro e w7 ⟨rfl, hb7⟩
  replace bel := Bx.then_below bel hb7
  replace B0 := Lib.hid (B0.out.keep hb7)
  replace B1 := Lib.hid (B1.out.keep hb7)
  replace B2 := Lib.hid (B2.out.keep hb7)
  replace B3 := Lib.hid (B3.out.keep hb7)
  replace B4 := Lib.hid (B4.out.keep hb7)
  clear hb7
  go_wp2_with fail
  refine (HE.out _).mono ?_; rintro e w8 ⟨rfl, hb8⟩
  replace bel := Bx.then_below bel hb8
  replace B0 := Lib.hid (B0.out.keep hb8)
  replace B1 := Lib.hid (B1.out.keep hb8)
  replace B2 := Lib.hid (B2.out.keep hb8)
  replace B3 := Lib.hid (B3.out.keep hb8)
  replace B4 := Lib.hid (B4.out.keep hb8)
  clear hb8
  go_wp2_with fail
  refine (HA.out _).mono ?_; rintro e w9 ⟨rfl, hb9⟩
  replace bel := Bx.then_below bel hb9
  replace B0 := Lib.hid (B0.out.keep hb9)
  replace B1 := Lib.hid (B1.out.keep hb9)
  replace B2 := Lib.hid (B2.out.keep hb9)
  replace B3 := Lib.hid (B3.out.keep hb9)
  replace B4 := Lib.hid (B4.out.keep hb9)
  clear hb9
  go_wp2_with fail
  refine (awake_any _).mono ?_; rintro e w10 ⟨rfl, hb10⟩
  replace bel := Bx.then_below bel hb10
  replace B0 := Lib.hid (B0.out.keep hb10)
  replace B1 := Lib.hid (B1.out.keep hb10)
  replace B2 := Lib.hid (B2.out.keep hb10)
  replace B3 := Lib.hid (B3.out.keep hb10)
  replace B4 := Lib.hid (B4.out.keep hb10)
  clear hb10
  go_wp2_with fail
  go_ret
  exact ⟨rfl, bel⟩

end Eap
end Go.Proofs.Ytmgjjcadeikdgaa
