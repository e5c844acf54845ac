/-
  The law EapSays, way by way.
-/
import Derived.Test.YtmgjjcadeikdgaaEapAwake
import Derived.Test.YtmgjjcadeikdgaaEapOpen
import Derived.Test.YtmgjjcadeikdgaaRows
import Derived.Test.YtmgjjcadeikdgaaBox
namespace Go.Proofs.Ytmgjjcadeikdgaa
open Go.RowKit
namespace Eap
open Oct Mac Eth Epl

set_option maxHeartbeats 1000000 in
theorem says_big1 (c i t C I T : Int) (d D S : ByteArray) (w : World) (hz : 3000 < d.size) :
    Calls Try.prog 3 #[pk c i t d, pk C I T D, .string S] w fun e w' => e = .returned (.bool true) ∧ Below w.heap.size w w' := by
  go_enter Try.func3, Try.ntmps3
  go_wp2_with fail
  have bel := Bx.bel_refl w
  have B0 := Lib.hid (Bx.Blk.new w [.int .i64 c, .int .i64 i, .int .i64 t, .string d] 23)
  replace bel := Bx.bel_box bel (Obj.cells #[.int .i64 c, .int .i64 i, .int .i64 t, .string d] 23)
  have c0_0 := B0.out.at 0 rfl
  have c0_1 := B0.out.at 1 rfl
  have c0_2 := B0.out.at 2 rfl
  have c0_3 := B0.out.at 3 rfl
  replace B0 := Lib.hid (B0.out.more (Obj.cells #[.int .i64 C, .int .i64 I, .int .i64 T, .string D] 23))
  have B1 := Lib.hid (Bx.Blk.new_at (W := (w.alloc (Obj.cells #[.int .i64 c, .int .i64 i, .int .i64 t, .string d] 23))) (k := w.heap.size + 1) [.int .i64 C, .int .i64 I, .int .i64 T, .string D] 23 (by simp))
  replace bel := Bx.bel_box bel (Obj.cells #[.int .i64 C, .int .i64 I, .int .i64 T, .string D] 23)
  clear c0_0 c0_1 c0_2 c0_3
  have c0_0 := B0.out.at 0 rfl
  have c0_1 := B0.out.at 1 rfl
  have c0_2 := B0.out.at 2 rfl
  have c0_3 := B0.out.at 3 rfl
  have c1_0 := B1.out.at 0 rfl
  have c1_1 := B1.out.at 1 rfl
  have c1_2 := B1.out.at 2 rfl
  have c1_3 := B1.out.at 3 rfl
  refine (awake_any _).mono ?_; rintro e w1 ⟨rfl, hb1⟩
  replace bel := Bx.then_below bel hb1
  replace B0 := Lib.hid (B0.out.keep hb1)
  replace B1 := Lib.hid (B1.out.keep hb1)
  clear hb1
  clear c0_0 c0_1 c0_2 c0_3 c1_0 c1_1 c1_2 c1_3
  have c0_0 := B0.out.at 0 rfl
  have c0_1 := B0.out.at 1 rfl
  have c0_2 := B0.out.at 2 rfl
  have c0_3 := B0.out.at 3 rfl
  have c1_0 := B1.out.at 0 rfl
  have c1_1 := B1.out.at 1 rfl
  have c1_2 := B1.out.at 2 rfl
  have c1_3 := B1.out.at 3 rfl
  go_wp2_with fail
  go_ret
  exact ⟨rfl, bel⟩

set_option maxHeartbeats 1000000 in
theorem says_big2 (c i t C I T : Int) (d D S : ByteArray) (w : World) (hz : d.size ≤ 3000) (hS : 3000 < S.size) :
    Calls Try.prog 3 #[pk c i t d, pk C I T D, .string S] w fun e w' => e = .returned (.bool true) ∧ Below w.heap.size w w' := by
  go_enter Try.func3, Try.ntmps3
  go_wp2_with fail
  have bel := Bx.bel_refl w
  have B0 := Lib.hid (Bx.Blk.new w [.int .i64 c, .int .i64 i, .int .i64 t, .string d] 23)
  replace bel := Bx.bel_box bel (Obj.cells #[.int .i64 c, .int .i64 i, .int .i64 t, .string d] 23)
  have c0_0 := B0.out.at 0 rfl
  have c0_1 := B0.out.at 1 rfl
  have c0_2 := B0.out.at 2 rfl
  have c0_3 := B0.out.at 3 rfl
  replace B0 := Lib.hid (B0.out.more (Obj.cells #[.int .i64 C, .int .i64 I, .int .i64 T, .string D] 23))
  have B1 := Lib.hid (Bx.Blk.new_at (W := (w.alloc (Obj.cells #[.int .i64 c, .int .i64 i, .int .i64 t, .string d] 23))) (k := w.heap.size + 1) [.int .i64 C, .int .i64 I, .int .i64 T, .string D] 23 (by simp))
  replace bel := Bx.bel_box bel (Obj.cells #[.int .i64 C, .int .i64 I, .int .i64 T, .string D] 23)
  clear c0_0 c0_1 c0_2 c0_3
  have c0_0 := B0.out.at 0 rfl
  have c0_1 := B0.out.at 1 rfl
  have c0_2 := B0.out.at 2 rfl
  have c0_3 := B0.out.at 3 rfl
  have c1_0 := B1.out.at 0 rfl
  have c1_1 := B1.out.at 1 rfl
  have c1_2 := B1.out.at 2 rfl
  have c1_3 := B1.out.at 3 rfl
  refine (awake_any _).mono ?_; rintro e w1 ⟨rfl, hb1⟩
  replace bel := Bx.then_below bel hb1
  replace B0 := Lib.hid (B0.out.keep hb1)
  replace B1 := Lib.hid (B1.out.keep hb1)
  clear hb1
  clear c0_0 c0_1 c0_2 c0_3 c1_0 c1_1 c1_2 c1_3
  have c0_0 := B0.out.at 0 rfl
  have c0_1 := B0.out.at 1 rfl
  have c0_2 := B0.out.at 2 rfl
  have c0_3 := B0.out.at 3 rfl
  have c1_0 := B1.out.at 0 rfl
  have c1_1 := B1.out.at 1 rfl
  have c1_2 := B1.out.at 2 rfl
  have c1_3 := B1.out.at 3 rfl
  go_wp2_with fail
  go_ret
  exact ⟨rfl, bel⟩

set_option maxRecDepth 100000 in
set_option maxHeartbeats 8000000 in
theorem says_all (c i t C I T : Int) (d D S : ByteArray) (A : ByteArray) (F PC PI PT F2 m en : Int) (PD : ByteArray) (Q U G : Bool) (w : World) (hz : d.size ≤ 3000) (hS : S.size ≤ 3000) (hG : (I.tmod 2 == 0) = G)
    (HB1 : Hid (∀ w, Calls Try.prog 8 #[pk c i t d] w fun e w' => e = .returned (.tuple #[.string A, .int .i64 F]) ∧ Below w.heap.size w w'))
    (HB2 : Hid (∀ w, Calls Try.prog 9 #[pk c i t d] w fun e w' => e = .returned (.tuple #[.string A, .int .i64 F]) ∧ Below w.heap.size w w'))
    (HS1 : Hid (∀ w, Calls Try.prog 10 #[.string S] w fun e w' => e = .returned (.tuple #[pk PC PI PT PD, .int .i64 F2]) ∧ Below w.heap.size w w'))
    (HS2 : Hid (∀ w, Calls Try.prog 11 #[.string S] w fun e w' => e = .returned (.tuple #[pk PC PI PT PD, .int .i64 F2]) ∧ Below w.heap.size w w'))
    (HR1 : Hid (∀ w, Calls Try.prog 12 #[pk c i t d] w fun e w' => e = .returned (.bool Q) ∧ Below w.heap.size w w'))
    (HR2 : Hid (∀ w, Calls Try.prog 13 #[pk c i t d] w fun e w' => e = .returned (.bool Q) ∧ Below w.heap.size w w'))
    (HA1 : Hid (∀ w, Calls Try.prog 14 #[pk c i t d, pk C I T D] w fun e w' => e = .returned (.bool U) ∧ Below w.heap.size w w'))
    (HA2 : Hid (∀ w, Calls Try.prog 15 #[pk c i t d, pk C I T D] w fun e w' => e = .returned (.bool U) ∧ Below w.heap.size w w'))
    (HI1 : Hid (∀ w, Calls Try.prog 16 #[.int .i64 i] w fun e w' => e = .returned (pk 1 m 1 ⟨#[]⟩) ∧ Below w.heap.size w w'))
    (HI2 : Hid (∀ w, Calls Try.prog 17 #[.int .i64 i] w fun e w' => e = .returned (pk 1 m 1 ⟨#[]⟩) ∧ Below w.heap.size w w'))
    (HE1 : Hid (∀ w, Calls Try.prog 18 #[.int .i64 i, .bool G] w fun e w' => e = .returned (pk en m 0 ⟨#[]⟩) ∧ Below w.heap.size w w'))
    (HE2 : Hid (∀ w, Calls Try.prog 19 #[.int .i64 i, .bool G] w fun e w' => e = .returned (pk en m 0 ⟨#[]⟩) ∧ Below w.heap.size w w')) :
    Calls Try.prog 3 #[pk c i t d, pk C I T D, .string S] w fun e w' => e = .returned (.bool true) ∧ Below w.heap.size w w' := by
  have x0 : (F == F) = true := by simp
  have x1 : (F2 == F2) = true := by simp
  have x2 : (PC == PC) = true := by simp
  have x3 : (PI == PI) = true := by simp
  have x4 : (PT == PT) = true := by simp
  have x5 : (Q == Q) = true := by simp
  have x6 : (U == U) = true := by simp
  have x7 : (m == m) = true := by simp
  have x8 : (en == en) = true := by simp
  have y0 : (A.toList == A.toList) = true := by simp
  have y1 : (PD.toList == PD.toList) = true := by simp
  go_enter Try.func3, Try.ntmps3
  go_wp2_with fail
  have bel := Bx.bel_refl w
  have B0 := Lib.hid (Bx.Blk.new w [.int .i64 c, .int .i64 i, .int .i64 t, .string d] 23)
  replace bel := Bx.bel_box bel (Obj.cells #[.int .i64 c, .int .i64 i, .int .i64 t, .string d] 23)
  have c0_0 := B0.out.at 0 rfl
  have c0_1 := B0.out.at 1 rfl
  have c0_2 := B0.out.at 2 rfl
  have c0_3 := B0.out.at 3 rfl
  replace B0 := Lib.hid (B0.out.more (Obj.cells #[.int .i64 C, .int .i64 I, .int .i64 T, .string D] 23))
  have B1 := Lib.hid (Bx.Blk.new_at (W := (w.alloc (Obj.cells #[.int .i64 c, .int .i64 i, .int .i64 t, .string d] 23))) (k := w.heap.size + 1) [.int .i64 C, .int .i64 I, .int .i64 T, .string D] 23 (by simp))
  replace bel := Bx.bel_box bel (Obj.cells #[.int .i64 C, .int .i64 I, .int .i64 T, .string D] 23)
  clear c0_0 c0_1 c0_2 c0_3
  have c0_0 := B0.out.at 0 rfl
  have c0_1 := B0.out.at 1 rfl
  have c0_2 := B0.out.at 2 rfl
  have c0_3 := B0.out.at 3 rfl
  have c1_0 := B1.out.at 0 rfl
  have c1_1 := B1.out.at 1 rfl
  have c1_2 := B1.out.at 2 rfl
  have c1_3 := B1.out.at 3 rfl
  refine (HB1.out _).mono ?_; rintro e w1 ⟨rfl, hb1⟩
  replace bel := Bx.then_below bel hb1
  replace B0 := Lib.hid (B0.out.keep hb1)
  replace B1 := Lib.hid (B1.out.keep hb1)
  clear hb1
  clear c0_0 c0_1 c0_2 c0_3 c1_0 c1_1 c1_2 c1_3
  have c0_0 := B0.out.at 0 rfl
  have c0_1 := B0.out.at 1 rfl
  have c0_2 := B0.out.at 2 rfl
  have c0_3 := B0.out.at 3 rfl
  have c1_0 := B1.out.at 0 rfl
  have c1_1 := B1.out.at 1 rfl
  have c1_2 := B1.out.at 2 rfl
  have c1_3 := B1.out.at 3 rfl
  go_wp2_with fail
  refine (HB2.out _).mono ?_; rintro e w2 ⟨rfl, hb2⟩
  replace bel := Bx.then_below bel hb2
  replace B0 := Lib.hid (B0.out.keep hb2)
  replace B1 := Lib.hid (B1.out.keep hb2)
  clear hb2
  clear c0_0 c0_1 c0_2 c0_3 c1_0 c1_1 c1_2 c1_3
  have c0_0 := B0.out.at 0 rfl
  have c0_1 := B0.out.at 1 rfl
  have c0_2 := B0.out.at 2 rfl
  have c0_3 := B0.out.at 3 rfl
  have c1_0 := B1.out.at 0 rfl
  have c1_1 := B1.out.at 1 rfl
  have c1_2 := B1.out.at 2 rfl
  have c1_3 := B1.out.at 3 rfl
  go_wp2_with fail
  refine (HS1.out _).mono ?_; rintro e w3 ⟨rfl, hb3⟩
  replace bel := Bx.then_below bel hb3
  replace B0 := Lib.hid (B0.out.keep hb3)
  replace B1 := Lib.hid (B1.out.keep hb3)
  clear hb3
  replace B0 := Lib.hid (B0.out.more (Obj.cells #[.int .i64 PC, .int .i64 PI, .int .i64 PT, .string PD] 23))
  replace B1 := Lib.hid (B1.out.more (Obj.cells #[.int .i64 PC, .int .i64 PI, .int .i64 PT, .string PD] 23))
  have B2 := Lib.hid (Bx.Blk.new w3 [.int .i64 PC, .int .i64 PI, .int .i64 PT, .string PD] 23)
  replace bel := Bx.bel_box bel (Obj.cells #[.int .i64 PC, .int .i64 PI, .int .i64 PT, .string PD] 23)
  clear c0_0 c0_1 c0_2 c0_3 c1_0 c1_1 c1_2 c1_3
  have c0_0 := B0.out.at 0 rfl
  have c0_1 := B0.out.at 1 rfl
  have c0_2 := B0.out.at 2 rfl
  have c0_3 := B0.out.at 3 rfl
  have c1_0 := B1.out.at 0 rfl
  have c1_1 := B1.out.at 1 rfl
  have c1_2 := B1.out.at 2 rfl
  have c1_3 := B1.out.at 3 rfl
  have c2_0 := B2.out.at 0 rfl
  have c2_1 := B2.out.at 1 rfl
  have c2_2 := B2.out.at 2 rfl
  have c2_3 := B2.out.at 3 rfl
  go_wp2_with fail
  refine (HS2.out _).mono ?_; rintro e w4 ⟨rfl, hb4⟩
  replace bel := Bx.then_below bel hb4
  replace B0 := Lib.hid (B0.out.keep hb4)
  replace B1 := Lib.hid (B1.out.keep hb4)
  replace B2 := Lib.hid (B2.out.keep hb4)
  clear hb4
  replace B0 := Lib.hid (B0.out.more (Obj.cells #[.int .i64 PC, .int .i64 PI, .int .i64 PT, .string PD] 23))
  replace B1 := Lib.hid (B1.out.more (Obj.cells #[.int .i64 PC, .int .i64 PI, .int .i64 PT, .string PD] 23))
  replace B2 := Lib.hid (B2.out.more (Obj.cells #[.int .i64 PC, .int .i64 PI, .int .i64 PT, .string PD] 23))
  have B3 := Lib.hid (Bx.Blk.new w4 [.int .i64 PC, .int .i64 PI, .int .i64 PT, .string PD] 23)
  replace bel := Bx.bel_box bel (Obj.cells #[.int .i64 PC, .int .i64 PI, .int .i64 PT, .string PD] 23)
  clear c0_0 c0_1 c0_2 c0_3 c1_0 c1_1 c1_2 c1_3 c2_0 c2_1 c2_2 c2_3
  have c0_0 := B0.out.at 0 rfl
  have c0_1 := B0.out.at 1 rfl
  have c0_2 := B0.out.at 2 rfl
  have c0_3 := B0.out.at 3 rfl
  have c1_0 := B1.out.at 0 rfl
  have c1_1 := B1.out.at 1 rfl
  have c1_2 := B1.out.at 2 rfl
  have c1_3 := B1.out.at 3 rfl
  have c2_0 := B2.out.at 0 rfl
  have c2_1 := B2.out.at 1 rfl
  have c2_2 := B2.out.at 2 rfl
  have c2_3 := B2.out.at 3 rfl
  have c3_0 := B3.out.at 0 rfl
  have c3_1 := B3.out.at 1 rfl
  have c3_2 := B3.out.at 2 rfl
  have c3_3 := B3.out.at 3 rfl
  go_wp2_with fail
  generalize w3.heap.size = m2 at *
  generalize w4.heap.size = m3 at *
  generalize w4.alloc (Obj.cells #[.int .i64 PC, .int .i64 PI, .int .i64 PT, .string PD] 23) = W0 at *
  go_region_held3 (fun w' => w'.cell? ⟨w.heap.size, 0, none⟩ = some (.int .i64 c) ∧ w'.cell? ⟨w.heap.size, 1, none⟩ = some (.int .i64 i) ∧ w'.cell? ⟨w.heap.size, 2, none⟩ = some (.int .i64 t) ∧ w'.cell? ⟨w.heap.size, 3, none⟩ = some (.string d) ∧ w'.cell? ⟨w.heap.size + 1, 0, none⟩ = some (.int .i64 C) ∧ w'.cell? ⟨w.heap.size + 1, 1, none⟩ = some (.int .i64 I) ∧ w'.cell? ⟨w.heap.size + 1, 2, none⟩ = some (.int .i64 T) ∧ w'.cell? ⟨w.heap.size + 1, 3, none⟩ = some (.string D) ∧ w'.cell? ⟨m2, 0, none⟩ = some (.int .i64 PC) ∧ w'.cell? ⟨m2, 1, none⟩ = some (.int .i64 PI) ∧ w'.cell? ⟨m2, 2, none⟩ = some (.int .i64 PT) ∧ w'.cell? ⟨m2, 3, none⟩ = some (.string PD) ∧ w'.cell? ⟨m3, 0, none⟩ = some (.int .i64 PC) ∧ w'.cell? ⟨m3, 1, none⟩ = some (.int .i64 PI) ∧ w'.cell? ⟨m3, 2, none⟩ = some (.int .i64 PT) ∧ w'.cell? ⟨m3, 3, none⟩ = some (.string PD))
    (first | go_keep | (go_split_ands; exact ⟨Bx.keep_cell (by assumption) (by assumption), Bx.keep_cell (by assumption) (by assumption), Bx.keep_cell (by assumption) (by assumption), Bx.keep_cell (by assumption) (by assumption), Bx.keep_cell (by assumption) (by assumption), Bx.keep_cell (by assumption) (by assumption), Bx.keep_cell (by assumption) (by assumption), Bx.keep_cell (by assumption) (by assumption), Bx.keep_cell (by assumption) (by assumption), Bx.keep_cell (by assumption) (by assumption), Bx.keep_cell (by assumption) (by assumption), Bx.keep_cell (by assumption) (by assumption), Bx.keep_cell (by assumption) (by assumption), Bx.keep_cell (by assumption) (by assumption), Bx.keep_cell (by assumption) (by assumption), Bx.keep_cell (by assumption) (by assumption)⟩))
    (first | (go_at_call 12; with_reducible refine (HR1.out _).mono ?_; rintro e w5 ⟨rfl, hb5⟩) | (go_at_call 13; with_reducible refine (HR2.out _).mono ?_; rintro e w6 ⟨rfl, hb6⟩) | (go_at_call 14; with_reducible refine (HA1.out _).mono ?_; rintro e w7 ⟨rfl, hb7⟩) | (go_at_call 15; with_reducible refine (HA2.out _).mono ?_; rintro e w8 ⟨rfl, hb8⟩) | (go_at_call 16; with_reducible refine (HI1.out _).mono ?_; rintro e w9 ⟨rfl, hb9⟩) | (go_at_call 17; with_reducible refine (HI2.out _).mono ?_; rintro e w10 ⟨rfl, hb10⟩) | (go_at_call 18; with_reducible refine (HE1.out _).mono ?_; rintro e w11 ⟨rfl, hb11⟩) | (go_at_call 19; with_reducible refine (HE2.out _).mono ?_; rintro e w12 ⟨rfl, hb12⟩) | (go_at_call 7; with_reducible refine (awake_any _).mono ?_; rintro e w13 ⟨rfl, hb13⟩))
  replace bel := Bx.bel_drew bel hb5
  replace bel := Bx.then_below bel hb6
  replace bel := Bx.then_below bel hb7
  replace bel := Bx.then_below bel hb8
  replace bel := Bx.then_below bel hb9
  replace bel := Bx.then_below bel hb10
  replace bel := Bx.then_below bel hb11
  replace bel := Bx.then_below bel hb12
  replace bel := Bx.then_below bel hb13
  clear hb5 hb6 hb7 hb8 hb9 hb10 hb11 hb12 hb13
  go_wp2
  go_ret
  exact ⟨rfl, bel⟩

end Eap
end Go.Proofs.Ytmgjjcadeikdgaa
