/-
  The walk of the law DigestSays for texts that are not too long, whatever its callees answer, if the program's and the document's answer the same.
-/
import Derived.Test.YtgkgjjnlblgklaaDoorDigK
import Derived.Deep.RegionHeld3
namespace Go.Proofs.YtgkgjjnlblgklaaDoor
open Go.RowKit
namespace Dig
open Oct Fr

set_option maxRecDepth 100000 in
set_option maxHeartbeats 4000000 in
theorem says_core (s P6 PP SS : ByteArray) (a b c d a2 b2 c2 d2 K R F G : Nat) (i : Int) (w : World) (hs : decide (1000 < (s.size : Int)) = false) (hm : Hid (Home w))
    (H1 : Hid (∀ w, Calls Tryd.prog 8 #[.int .i64 i, .int .u32 (a : Nat), .int .u32 (b : Nat), .int .u32 (c : Nat)] w fun e w' => e = .returned (.tuple #[.int .u32 (F : Nat), .int .i64 (G : Nat)]) ∧ Below w.heap.size w w'))
    (H2 : Hid (∀ w, Calls Tryd.prog 9 #[.int .i64 i, .int .u32 (a : Nat), .int .u32 (b : Nat), .int .u32 (c : Nat)] w fun e w' => e = .returned (.tuple #[.int .u32 (F : Nat), .int .i64 (G : Nat)]) ∧ Below w.heap.size w w'))
    (H3 : Hid (∀ w, Calls Tryd.prog 10 #[.string s, .int .i64 64] w fun e w' => e = .returned (.string P6) ∧ Below w.heap.size w w'))
    (H4 : Hid (∀ w, Home w → Calls Tryd.prog 11 #[.int .i64 i] w fun e w' => e = .returned (.int .u32 (K : Nat)) ∧ Below w.heap.size w w'))
    (H5 : Hid (∀ w, Calls Tryd.prog 12 #[.int .i64 i] w fun e w' => e = .returned (.int .u32 (K : Nat)) ∧ Below w.heap.size w w'))
    (H6 : Hid (∀ w, Calls Tryd.prog 13 #[.int .u32 (d : Nat), .int .i64 i] w fun e w' => e = .returned (.int .u32 (R : Nat)) ∧ Below w.heap.size w w'))
    (H7 : Hid (∀ w, Calls Tryd.prog 14 #[.int .u32 (d : Nat), .int .i64 i] w fun e w' => e = .returned (.int .u32 (R : Nat)) ∧ Below w.heap.size w w'))
    (H8 : Hid (∀ w, Calls Tryd.prog 15 #[.string s] w fun e w' => e = .returned (.string PP) ∧ Below w.heap.size w w'))
    (H9 : Hid (∀ w, Calls Tryd.prog 16 #[.string s] w fun e w' => e = .returned (.string PP) ∧ Below w.heap.size w w'))
    (H10 : Hid (∀ w, Home w → Calls Tryd.prog 17 #[.agg #[.int .u32 (a : Nat), .int .u32 (b : Nat), .int .u32 (c : Nat), .int .u32 (d : Nat)], .string P6] w fun e w' => e = .returned (.agg #[.int .u32 (a2 : Nat), .int .u32 (b2 : Nat), .int .u32 (c2 : Nat), .int .u32 (d2 : Nat)]) ∧ Below w.heap.size w w'))
    (H11 : Hid (∀ w, Calls Tryd.prog 18 #[.agg #[.int .u32 (a : Nat), .int .u32 (b : Nat), .int .u32 (c : Nat), .int .u32 (d : Nat)], .string P6] w fun e w' => e = .returned (.agg #[.int .u32 (a2 : Nat), .int .u32 (b2 : Nat), .int .u32 (c2 : Nat), .int .u32 (d2 : Nat)]) ∧ Below w.heap.size w w'))
    (H12 : Hid (∀ w, Home w → Calls Tryd.prog 19 #[.string s] w fun e w' => e = .returned (.string SS) ∧ Below w.heap.size w w'))
    (H13 : Hid (∀ w, Calls Tryd.prog 20 #[.string s] w fun e w' => e = .returned (.string SS) ∧ Below w.heap.size w w')) :
    Calls Tryd.prog 3 #[.string s, .agg #[.int .u32 (a : Nat), .int .u32 (b : Nat), .int .u32 (c : Nat), .int .u32 (d : Nat)], .int .i64 i] w fun e w' => e = .returned (.bool true) ∧ Below w.heap.size w w' := by
  have heq := fun w => eq_words a2 b2 c2 d2 w
  have B0 := Lib.hid (Bx.Blk.new w [.int .u32 (a : Nat), .int .u32 (b : Nat), .int .u32 (c : Nat), .int .u32 (d : Nat)] 23)
  have bel := Bx.box_below w (.cells #[.int .u32 (a : Nat), .int .u32 (b : Nat), .int .u32 (c : Nat), .int .u32 (d : Nat)] 23)
  go_enter Tryd.func3, Tryd.ntmps3
  go_wp2_with fail
  refine (H1.out _).mono ?_; rintro e w1 ⟨rfl, hb1⟩
  replace B0 := Lib.hid (B0.out.keep hb1)
  replace bel := Bx.then_below bel hb1
  clear hb1
  obtain ⟨c0, c1, c2, c3⟩ := B0.out.all4
  go_wp2_with fail
  refine (H2.out _).mono ?_; rintro e w2 ⟨rfl, hb2⟩
  clear c0 c1 c2 c3
  replace B0 := Lib.hid (B0.out.keep hb2)
  replace bel := Bx.then_below bel hb2
  clear hb2
  go_wp2_with fail
  refine (H3.out _).mono ?_; rintro e w3 ⟨rfl, hb3⟩
  replace B0 := Lib.hid (B0.out.keep hb3)
  replace bel := Bx.then_below bel hb3
  clear hb3
  obtain ⟨c0, c1, c2, c3⟩ := B0.out.all4
  have hh : Home w3 := hm.out.below bel
  go_wp2_with fail
  go_region_held3 (fun w' => w'.cell? ⟨w.heap.size, 0, none⟩ = some (.int .u32 a) ∧ w'.cell? ⟨w.heap.size, 1, none⟩ = some (.int .u32 b) ∧ w'.cell? ⟨w.heap.size, 2, none⟩ = some (.int .u32 c) ∧ w'.cell? ⟨w.heap.size, 3, none⟩ = some (.int .u32 d) ∧ Home w')
    (first | exact ⟨c0, c1, c2, c3, hh⟩ | (go_split_ands; exact ⟨Bx.keep_cell (by assumption) (by assumption), Bx.keep_cell (by assumption) (by assumption), Bx.keep_cell (by assumption) (by assumption), Bx.keep_cell (by assumption) (by assumption), Home.below (by assumption) (by assumption)⟩))
    (first | (go_at_call 11; (with_reducible refine (H4.out _ (by apply And.right; apply And.right; apply And.right; apply And.right; assumption)).mono ?_); rintro e w4 ⟨rfl, hb4⟩) | (go_at_call 12; (with_reducible refine (H5.out _).mono ?_); rintro e w5 ⟨rfl, hb5⟩) | (go_at_call 13; (with_reducible refine (H6.out _).mono ?_); rintro e w6 ⟨rfl, hb6⟩) | (go_at_call 14; (with_reducible refine (H7.out _).mono ?_); rintro e w7 ⟨rfl, hb7⟩) | (go_at_call 15; (with_reducible refine (H8.out _).mono ?_); rintro e w8 ⟨rfl, hb8⟩) | (go_at_call 16; (with_reducible refine (H9.out _).mono ?_); rintro e w9 ⟨rfl, hb9⟩) | (go_at_call 17; (with_reducible refine (H10.out _ (by apply And.right; apply And.right; apply And.right; apply And.right; assumption)).mono ?_); rintro e w10 ⟨rfl, hb10⟩) | (go_at_call 18; (with_reducible refine (H11.out _).mono ?_); rintro e w11 ⟨rfl, hb11⟩) | (go_at_call 19; (with_reducible refine (H12.out _ (by apply And.right; apply And.right; apply And.right; apply And.right; assumption)).mono ?_); rintro e w12 ⟨rfl, hb12⟩) | (go_at_call 20; (with_reducible refine (H13.out _).mono ?_); rintro e w13 ⟨rfl, hb13⟩) | (go_at_call 7; (with_reducible refine (dawake_any _ (by apply And.right; apply And.right; apply And.right; apply And.right; assumption)).mono ?_); rintro e w14 ⟨rfl, hb14⟩))
  replace bel := Bx.bel_drew bel hb4
  replace bel := Bx.then_below bel hb5
  replace bel := Bx.then_below bel hb6
  replace bel := Bx.then_below bel hb7
  replace bel := Bx.then_below bel hb8
  replace bel := Bx.then_below bel hb9
  replace bel := Bx.then_below bel hb10
  replace bel := Bx.then_below bel hb11
  replace bel := Bx.then_below bel hb12
  replace bel := Bx.then_below bel hb13
  replace bel := Bx.then_below bel hb14
  clear hb4 hb5 hb6 hb7 hb8 hb9 hb10 hb11 hb12 hb13 hb14
  go_wp2
  go_ret
  exact ⟨rfl, bel⟩

end Dig
end Go.Proofs.YtgkgjjnlblgklaaDoor
