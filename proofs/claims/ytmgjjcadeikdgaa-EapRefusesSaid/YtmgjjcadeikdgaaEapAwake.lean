/-
  The check of single answers that the statements of layer 5 end with (tipstafflaw05.awake) comes out true, whatever the memory, and changes nothing that was there.
-/
import Derived.Test.YtmgjjcadeikdgaaEapE
namespace Go.Proofs.Ytmgjjcadeikdgaa
open Go.RowKit
namespace Eap
open Oct Mac Eth Epl

instance : DecidableEq Pk := fun x y => decidable_of_iff (x.c = y.c ∧ x.i = y.i ∧ x.t = y.t ∧ x.d = y.d) (by cases x; cases y; simp)

theorem aw_i7 (w : World) : Calls Try.prog 16 #[.int .i64 7] w fun e w' => e = .returned (pk 1 7 1 ⟨#[]⟩) ∧ Below w.heap.size w w' := by
  have h := ident_any 7 w
  exact h
theorem aw_i8 (w : World) : Calls Try.prog 16 #[.int .i64 8] w fun e w' => e = .returned (pk 1 8 1 ⟨#[]⟩) ∧ Below w.heap.size w w' := by
  have h := ident_any 8 w
  exact h
theorem aw_e7 (w : World) : Calls Try.prog 18 #[.int .i64 7, .bool true] w fun e w' => e = .returned (pk 3 7 0 ⟨#[]⟩) ∧ Below w.heap.size w w' := by
  have h := end_good 7 w
  exact h
theorem aw_e0 (w : World) : Calls Try.prog 18 #[.int .i64 256, .bool false] w fun e w' => e = .returned (pk 4 0 0 ⟨#[]⟩) ∧ Below w.heap.size w w' := by
  have h := end_bad 256 w
  exact h
theorem aw_b1 (w : World) : Calls Try.prog 8 #[pk 1 7 1 ⟨#[]⟩] w fun e w' => e = .returned (.tuple #[.string ⟨#[1, 7, 0, 5, 1]⟩, .int .i64 0]) ∧ Below w.heap.size w w' := by
  have h := bytes_any 1 7 1 ⟨#[]⟩ w (by decide)
  rwa [show bTxt 1 7 1 ⟨#[]⟩ = ⟨#[1, 7, 0, 5, 1]⟩ by decide +kernel, show bErr 1 7 1 ⟨#[]⟩ = 0 by decide +kernel] at h
theorem aw_b2 (w : World) : Calls Try.prog 8 #[pk 3 7 0 ⟨#[]⟩] w fun e w' => e = .returned (.tuple #[.string ⟨#[3, 7, 0, 4]⟩, .int .i64 0]) ∧ Below w.heap.size w w' := by
  have h := bytes_any 3 7 0 ⟨#[]⟩ w (by decide)
  rwa [show bTxt 3 7 0 ⟨#[]⟩ = ⟨#[3, 7, 0, 4]⟩ by decide +kernel, show bErr 3 7 0 ⟨#[]⟩ = 0 by decide +kernel] at h
theorem aw_r1 (w : World) : Calls Try.prog 10 #[.string ⟨#[2, 7, 0, 8, 1, 98, 111, 98, 122, 122]⟩] w fun e w' => e = .returned (.tuple #[pk 2 7 1 ⟨#[98, 111, 98]⟩, .int .i64 0]) ∧ Below w.heap.size w w' := by
  have h := read_any ⟨#[2, 7, 0, 8, 1, 98, 111, 98, 122, 122]⟩ w (by decide)
  rwa [show pVal ⟨#[2, 7, 0, 8, 1, 98, 111, 98, 122, 122]⟩ = ⟨2, 7, 1, ⟨#[98, 111, 98]⟩⟩ by decide +kernel, show pErr ⟨#[2, 7, 0, 8, 1, 98, 111, 98, 122, 122]⟩ = 0 by decide +kernel] at h
theorem aw_r2 (w : World) : Calls Try.prog 10 #[.string ⟨#[3, 7, 0, 5, 0]⟩] w fun e w' => e = .returned (.tuple #[pk 0 0 0 ⟨#[]⟩, .int .i64 3]) ∧ Below w.heap.size w w' := by
  have h := read_any ⟨#[3, 7, 0, 5, 0]⟩ w (by decide)
  rwa [show pVal ⟨#[3, 7, 0, 5, 0]⟩ = zeroP by decide +kernel, show pErr ⟨#[3, 7, 0, 5, 0]⟩ = 3 by decide +kernel] at h
theorem aw_r3 (w : World) : Calls Try.prog 10 #[.string ⟨#[1, 7, 0, 9, 1]⟩] w fun e w' => e = .returned (.tuple #[pk 0 0 0 ⟨#[]⟩, .int .i64 2]) ∧ Below w.heap.size w w' := by
  have h := read_any ⟨#[1, 7, 0, 9, 1]⟩ w (by decide)
  rwa [show pVal ⟨#[1, 7, 0, 9, 1]⟩ = zeroP by decide +kernel, show pErr ⟨#[1, 7, 0, 9, 1]⟩ = 2 by decide +kernel] at h
theorem aw_a7 (w : World) : Calls Try.prog 14 #[pk 1 7 1 ⟨#[]⟩, pk 2 7 1 ⟨#[98, 111, 98]⟩] w fun e w' => e = .returned (.bool true) ∧ Below w.heap.size w w' := by
  have h := answer_any 1 7 1 2 7 1 ⟨#[]⟩ ⟨#[98, 111, 98]⟩ w
  rwa [show ansB 1 7 2 7 = true by decide +kernel] at h
theorem aw_a8 (w : World) : Calls Try.prog 14 #[pk 1 8 1 ⟨#[]⟩, pk 2 7 1 ⟨#[98, 111, 98]⟩] w fun e w' => e = .returned (.bool false) ∧ Below w.heap.size w w' := by
  have h := answer_any 1 8 1 2 7 1 ⟨#[]⟩ ⟨#[98, 111, 98]⟩ w
  rwa [show ansB 1 8 2 7 = false by decide +kernel] at h
theorem aw_ri (w : World) : Calls Try.prog 12 #[pk 2 7 1 ⟨#[98, 111, 98]⟩] w fun e w' => e = .returned (.bool true) ∧ Below w.heap.size w w' := by
  have h := right_any 2 7 1 ⟨#[98, 111, 98]⟩ w (by decide)
  rwa [show rightP 2 7 1 ⟨#[98, 111, 98]⟩ = true by decide +kernel] at h

set_option maxRecDepth 100000 in
set_option maxHeartbeats 4000000 in
theorem awake_any (w : World) :
    Calls Try.prog 7 #[] w fun e w' => e = .returned (.bool true) ∧ Below w.heap.size w w' := by
  go_enter Try.func7, Try.ntmps7
  go_wp2_with fail
  have bel := Bx.bel_refl w
  refine (aw_i7 _).mono ?_; rintro e w1 ⟨rfl, hb1⟩
  replace bel := Bx.then_below bel hb1
  clear hb1
  go_wp2_with fail
  refine (aw_b1 _).mono ?_; rintro e w2 ⟨rfl, hb2⟩
  replace bel := Bx.then_below bel hb2
  clear hb2
  go_wp2_with fail
  refine (aw_r1 _).mono ?_; rintro e w3 ⟨rfl, hb3⟩
  replace bel := Bx.then_below bel hb3
  clear hb3
  have B0 := Lib.hid (Bx.Blk.new w3 [.int .i64 2, .int .i64 7, .int .i64 1, .string ⟨#[98, 111, 98]⟩] 23)
  replace bel := Bx.bel_box bel (Obj.cells #[.int .i64 2, .int .i64 7, .int .i64 1, .string ⟨#[98, 111, 98]⟩] 23)
  have c0_0 := B0.out.at 0 rfl
  have c0_1 := B0.out.at 1 rfl
  have c0_2 := B0.out.at 2 rfl
  have c0_3 := B0.out.at 3 rfl
  go_wp2_with fail
  refine (aw_r2 _).mono ?_; rintro e w4 ⟨rfl, hb4⟩
  replace bel := Bx.then_below bel hb4
  replace B0 := Lib.hid (B0.out.keep hb4)
  clear hb4
  replace B0 := Lib.hid (B0.out.more (Obj.cells #[.int .i64 0, .int .i64 0, .int .i64 0, .string ⟨#[]⟩] 23))
  have B1 := Lib.hid (Bx.Blk.new w4 [.int .i64 0, .int .i64 0, .int .i64 0, .string ⟨#[]⟩] 23)
  replace bel := Bx.bel_box bel (Obj.cells #[.int .i64 0, .int .i64 0, .int .i64 0, .string ⟨#[]⟩] 23)
  clear c0_0 c0_1 c0_2 c0_3
  have c0_0 := B0.out.at 0 rfl
  have c0_1 := B0.out.at 1 rfl
  have c0_2 := B0.out.at 2 rfl
  have c0_3 := B0.out.at 3 rfl
  have c1_0 := B1.out.at 0 rfl
  have c1_1 := B1.out.at 1 rfl
  have c1_2 := B1.out.at 2 rfl
  have c1_3 := B1.out.at 3 rfl
  go_wp2_with fail
  refine (aw_r3 _).mono ?_; rintro e w5 ⟨rfl, hb5⟩
  replace bel := Bx.then_below bel hb5
  replace B0 := Lib.hid (B0.out.keep hb5)
  replace B1 := Lib.hid (B1.out.keep hb5)
  clear hb5
  replace B0 := Lib.hid (B0.out.more (Obj.cells #[.int .i64 0, .int .i64 0, .int .i64 0, .string ⟨#[]⟩] 23))
  replace B1 := Lib.hid (B1.out.more (Obj.cells #[.int .i64 0, .int .i64 0, .int .i64 0, .string ⟨#[]⟩] 23))
  have B2 := Lib.hid (Bx.Blk.new w5 [.int .i64 0, .int .i64 0, .int .i64 0, .string ⟨#[]⟩] 23)
  replace bel := Bx.bel_box bel (Obj.cells #[.int .i64 0, .int .i64 0, .int .i64 0, .string ⟨#[]⟩] 23)
  clear c0_0 c0_1 c0_2 c0_3 c1_0 c1_1 c1_2 c1_3
  have c0_0 := B0.out.at 0 rfl
  have c0_1 := B0.out.at 1 rfl
  have c0_2 := B0.out.at 2 rfl
  have c0_3 := B0.out.at 3 rfl
  have c1_0 := B1.out.at 0 rfl
  have c1_1 := B1.out.at 1 rfl
  have c1_2 := B1.out.at 2 rfl
  have c1_3 := B1.out.at 3 rfl
  have c2_0 := B2.out.at 0 rfl
  have c2_1 := B2.out.at 1 rfl
  have c2_2 := B2.out.at 2 rfl
  have c2_3 := B2.out.at 3 rfl
  go_wp2_with fail
  refine (aw_e7 _).mono ?_; rintro e w6 ⟨rfl, hb6⟩
  replace bel := Bx.then_below bel hb6
  replace B0 := Lib.hid (B0.out.keep hb6)
  replace B1 := Lib.hid (B1.out.keep hb6)
  replace B2 := Lib.hid (B2.out.keep hb6)
  clear hb6
  clear c0_0 c0_1 c0_2 c0_3 c1_0 c1_1 c1_2 c1_3 c2_0 c2_1 c2_2 c2_3
  have c0_0 := B0.out.at 0 rfl
  have c0_1 := B0.out.at 1 rfl
  have c0_2 := B0.out.at 2 rfl
  have c0_3 := B0.out.at 3 rfl
  have c1_0 := B1.out.at 0 rfl
  have c1_1 := B1.out.at 1 rfl
  have c1_2 := B1.out.at 2 rfl
  have c1_3 := B1.out.at 3 rfl
  have c2_0 := B2.out.at 0 rfl
  have c2_1 := B2.out.at 1 rfl
  have c2_2 := B2.out.at 2 rfl
  have c2_3 := B2.out.at 3 rfl
  go_wp2_with fail
  refine (aw_b2 _).mono ?_; rintro e w7 ⟨rfl, hb7⟩
  replace bel := Bx.then_below bel hb7
  replace B0 := Lib.hid (B0.out.keep hb7)
  replace B1 := Lib.hid (B1.out.keep hb7)
  replace B2 := Lib.hid (B2.out.keep hb7)
  clear hb7
  clear c0_0 c0_1 c0_2 c0_3 c1_0 c1_1 c1_2 c1_3 c2_0 c2_1 c2_2 c2_3
  have c0_0 := B0.out.at 0 rfl
  have c0_1 := B0.out.at 1 rfl
  have c0_2 := B0.out.at 2 rfl
  have c0_3 := B0.out.at 3 rfl
  have c1_0 := B1.out.at 0 rfl
  have c1_1 := B1.out.at 1 rfl
  have c1_2 := B1.out.at 2 rfl
  have c1_3 := B1.out.at 3 rfl
  have c2_0 := B2.out.at 0 rfl
  have c2_1 := B2.out.at 1 rfl
  have c2_2 := B2.out.at 2 rfl
  have c2_3 := B2.out.at 3 rfl
  go_wp2_with fail
  generalize w3.heap.size = m0 at *
  generalize w4.heap.size = m1 at *
  generalize w5.heap.size = m2 at *
  go_region_held3 (fun w' => w'.cell? ⟨m0, 0, none⟩ = some (.int .i64 2) ∧ w'.cell? ⟨m0, 1, none⟩ = some (.int .i64 7) ∧ w'.cell? ⟨m0, 2, none⟩ = some (.int .i64 1) ∧ w'.cell? ⟨m0, 3, none⟩ = some (.string ⟨#[98, 111, 98]⟩))
    (first | go_keep | (go_split_ands; exact ⟨Bx.keep_cell (by assumption) (by assumption), Bx.keep_cell (by assumption) (by assumption), Bx.keep_cell (by assumption) (by assumption), Bx.keep_cell (by assumption) (by assumption)⟩))
    (first | (go_at_call 16; with_reducible refine (aw_i7 _).mono ?_; rintro e w8 ⟨rfl, hb8⟩) | (go_at_call 14; with_reducible refine (aw_a7 _).mono ?_; rintro e w9 ⟨rfl, hb9⟩) | (go_at_call 16; with_reducible refine (aw_i8 _).mono ?_; rintro e w10 ⟨rfl, hb10⟩) | (go_at_call 14; with_reducible refine (aw_a8 _).mono ?_; rintro e w11 ⟨rfl, hb11⟩) | (go_at_call 18; with_reducible refine (aw_e0 _).mono ?_; rintro e w12 ⟨rfl, hb12⟩) | (go_at_call 12; with_reducible refine (aw_ri _).mono ?_; rintro e w13 ⟨rfl, hb13⟩))
  replace bel := Bx.bel_drew bel hb8
  replace bel := Bx.then_below bel hb9
  replace bel := Bx.then_below bel hb10
  replace bel := Bx.then_below bel hb11
  replace bel := Bx.then_below bel hb12
  replace bel := Bx.then_below bel hb13
  clear hb8 hb9 hb10 hb11 hb12 hb13
  go_wp2
  go_ret
  exact ⟨rfl, bel⟩

end Eap
end Go.Proofs.Ytmgjjcadeikdgaa
