/-
  The walk of the law MacSays: where the program and the document answer alike, it returns true.
-/
import Derived.Test.YtjljfigppbahfaaDoorMacAwake
namespace Go.Proofs.YtjljfigppbahfaaDoor
open Go.RowKit
namespace Mac
open Oct Fr

set_option maxHeartbeats 1000000 in
theorem says_core (m A D : Nat) (s Y T : ByteArray) (a E F : Int) (B1 B2 B3 : Bool) (w : World) (hw : Home w) (hs : s.size ≤ 300)
    (HP1 : Hid (∀ w, Home w → Calls Tryd.prog 8 #[.string s] w fun e w' => e = .returned (.tuple #[.int .u64 A, .int .i64 E]) ∧ Below w.heap.size w w'))
    (HP2 : Hid (∀ w, Calls Tryd.prog 9 #[.string s] w fun e w' => e = .returned (.tuple #[.int .u64 A, .int .i64 E]) ∧ Below w.heap.size w w'))
    (HD1 : Hid (∀ w, Calls Tryd.prog 10 #[.string s, .int .i64 a] w fun e w' => e = .returned (.tuple #[.int .u64 D, .int .i64 F]) ∧ w = w'))
    (HD2 : Hid (∀ w, Calls Tryd.prog 11 #[.string s, .int .i64 a] w fun e w' => e = .returned (.tuple #[.int .u64 D, .int .i64 F]) ∧ w = w'))
    (HR1 : Hid (∀ w, Calls Tryd.prog 12 #[.int .u64 m] w fun e w' => e = .returned (.bool B1) ∧ w = w'))
    (HR2 : Hid (∀ w, Calls Tryd.prog 13 #[.int .u64 m] w fun e w' => e = .returned (.bool B1) ∧ w = w'))
    (HG1 : Hid (∀ w, Calls Tryd.prog 14 #[.int .u64 m] w fun e w' => e = .returned (.bool B2) ∧ w = w'))
    (HG2 : Hid (∀ w, Calls Tryd.prog 15 #[.int .u64 m] w fun e w' => e = .returned (.bool B2) ∧ w = w'))
    (HV1 : Hid (∀ w, Home w → Calls Tryd.prog 16 #[.int .u64 m] w fun e w' => e = .returned (.bool B3) ∧ w = w'))
    (HV2 : Hid (∀ w, Calls Tryd.prog 17 #[.int .u64 m] w fun e w' => e = .returned (.bool B3) ∧ w = w'))
    (HY1 : Hid (∀ w, Calls Tryd.prog 18 #[.int .u64 m] w fun e w' => e = .returned (.string Y) ∧ Below w.heap.size w w'))
    (HY2 : Hid (∀ w, Calls Tryd.prog 19 #[.int .u64 m] w fun e w' => e = .returned (.string Y) ∧ Below w.heap.size w w'))
    (HT1 : Hid (∀ w, Calls Tryd.prog 20 #[.int .u64 m] w fun e w' => e = .returned (.string T) ∧ Below w.heap.size w w'))
    (HT2 : Hid (∀ w, Calls Tryd.prog 21 #[.int .u64 m] w fun e w' => e = .returned (.string T) ∧ Below w.heap.size w w')) :
    Calls Tryd.prog 3 #[.int .u64 m, .string s, .int .i64 a] w fun e w' => e = .returned (.bool true) ∧ Below w.heap.size w w' := by
  have hs' : decide (300 < (s.size : Int)) = false := by simp; omega
  have x1 : ((A : Int) == (A : Int)) = true := by simp
  have x2 : (E == E) = true := by simp
  have x3 : (F == F) = true := by simp
  have x4 : ((D : Int) == (D : Int)) = true := by simp
  have x5 : (B1 == B1) = true := by simp
  have x6 : (B2 == B2) = true := by simp
  have x7 : (B3 == B3) = true := by simp
  have x8 : (Y.toList == Y.toList) = true := by simp
  have x9 : (T.toList == T.toList) = true := by simp
  go_enter Tryd.func3, Tryd.ntmps3
  go_wp2_with fail
  refine (HP1.out _ (hw)).mono ?_; rintro e w1 ⟨rfl, hb1⟩
  have HB1 := Lib.hid hb1
  clear hb1
  go_wp2_with fail
  refine (HP2.out _).mono ?_; rintro e w2 ⟨rfl, hb2⟩
  have HB2 := Lib.hid (below_then HB1.out hb2)
  clear hb2
  go_wp2_with fail
  refine (HD1.out _).mono ?_; rintro e w' ⟨rfl, rfl⟩
  go_wp2_with fail
  refine (HD2.out _).mono ?_; rintro e w' ⟨rfl, rfl⟩
  go_wp2_with fail
  refine (HR1.out _).mono ?_; rintro e w' ⟨rfl, rfl⟩
  go_wp2_with fail
  refine (HR2.out _).mono ?_; rintro e w' ⟨rfl, rfl⟩
  go_wp2_with fail
  refine (HG1.out _).mono ?_; rintro e w' ⟨rfl, rfl⟩
  go_wp2_with fail
  refine (HG2.out _).mono ?_; rintro e w' ⟨rfl, rfl⟩
  go_wp2_with fail
  refine (HV1.out _ (hw.below HB2.out)).mono ?_; rintro e w' ⟨rfl, rfl⟩
  go_wp2_with fail
  refine (HV2.out _).mono ?_; rintro e w' ⟨rfl, rfl⟩
  go_wp2_with fail
  refine (HY1.out _).mono ?_; rintro e w3 ⟨rfl, hb3⟩
  have HB3 := Lib.hid (below_then HB2.out hb3)
  clear hb3
  go_wp2_with fail
  refine (HY2.out _).mono ?_; rintro e w4 ⟨rfl, hb4⟩
  have HB4 := Lib.hid (below_then HB3.out hb4)
  clear hb4
  go_wp2_with fail
  refine (HT1.out _).mono ?_; rintro e w5 ⟨rfl, hb5⟩
  have HB5 := Lib.hid (below_then HB4.out hb5)
  clear hb5
  go_wp2_with fail
  refine (HT2.out _).mono ?_; rintro e w6 ⟨rfl, hb6⟩
  have HB6 := Lib.hid (below_then HB5.out hb6)
  clear hb6
  go_wp2_with fail
  refine (mawake_any _ (hw.below HB6.out)).mono ?_; rintro e w9 ⟨rfl, hb9⟩
  go_wp2_with fail
  go_ret
  exact ⟨rfl, below_then HB6.out hb9⟩

end Mac
end Go.Proofs.YtjljfigppbahfaaDoor
