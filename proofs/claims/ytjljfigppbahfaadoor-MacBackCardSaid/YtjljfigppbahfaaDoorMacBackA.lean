/-
  The walk of the law MacBack, where an address is reserved or not, and the text is one of an address or not.
-/
import Derived.Test.YtjljfigppbahfaaDoorMacAwake
namespace Go.Proofs.YtjljfigppbahfaaDoor
open Go.RowKit
namespace Mac
open Oct Fr

set_option maxHeartbeats 400000 in
theorem back_yy (m K : Nat) (s t b : ByteArray) (c : Nat) (w : World) (hw : Home w) (hs : s.size ≤ 300)
    (hK : bits .and .u64 (m : Int) 281474976710655 = (K : Int))
    (HT : Hid (∀ w, Calls Tryd.prog 20 #[.int .u64 K] w fun e w' => e = .returned (.string t) ∧ Below w.heap.size w w'))
    (HP : Hid (∀ w, Home w → Calls Tryd.prog 8 #[.string t] w fun e w' => e = .returned (.tuple #[.int .u64 K, .int .i64 0]) ∧ Below w.heap.size w w'))
    (HB : Hid (∀ w, Calls Tryd.prog 18 #[.int .u64 K] w fun e w' => e = .returned (.string b) ∧ Below w.heap.size w w'))
    (HR : Hid (∀ w, Calls Tryd.prog 10 #[.string b, .int .i64 0] w fun e w' => e = .returned (.tuple #[.int .u64 K, .int .i64 0]) ∧ w = w'))
    (HI : Hid (∀ w, Calls Tryd.prog 12 #[.int .u64 K] w fun e w' => e = .returned (.bool true) ∧ w = w'))
    (HV : Hid (∀ w, Home w → Calls Tryd.prog 16 #[.int .u64 K] w fun e w' => e = .returned (.bool true) ∧ w = w'))
    (HG : Hid (∀ w, Calls Tryd.prog 14 #[.int .u64 K] w fun e w' => e = .returned (.bool true) ∧ w = w'))
    (HQ : Hid (∀ w, Home w → Calls Tryd.prog 8 #[.string s] w fun e w' => e = .returned (.tuple #[.int .u64 c, .int .i64 0]) ∧ Below w.heap.size w w'))
    (HX : Hid (∀ w, Calls Tryd.prog 20 #[.int .u64 c] w fun e w' => e = .returned (.string s) ∧ Below w.heap.size w w'))
    (HI2 : Hid (∀ w, Calls Tryd.prog 12 #[.int .u64 c] w fun e w' => e = .returned (.bool true) ∧ w = w')) :
    Calls Tryd.prog 4 #[.int .u64 m, .string s] w fun e w' => e = .returned (.bool true) ∧ Below w.heap.size w w' := by
  have hs' : decide (300 < (s.size : Int)) = false := by simp; omega
  have y1 : ((K : Int) != (K : Int)) = false := by simp
  have x9 : (s.toList == s.toList) = true := by simp
  go_enter Tryd.func4, Tryd.ntmps4
  go_wp2_with fail
  refine (HT.out _).mono ?_; rintro e w1 ⟨rfl, hb1⟩
  have HB1 := Lib.hid hb1
  clear hb1
  go_wp2_with fail
  refine (HP.out _ (hw.below HB1.out)).mono ?_; rintro e w2 ⟨rfl, hb2⟩
  have HB2 := Lib.hid (below_then HB1.out hb2)
  clear hb2
  go_wp2_with fail
  refine (HB.out _).mono ?_; rintro e w3 ⟨rfl, hb3⟩
  have HB3 := Lib.hid (below_then HB2.out hb3)
  clear hb3
  go_wp2_with fail
  refine (HR.out _).mono ?_; rintro e w' ⟨rfl, rfl⟩
  go_wp2_with fail
  refine (HV.out _ (hw.below HB3.out)).mono ?_; rintro e w' ⟨rfl, rfl⟩
  go_wp2_with fail
  refine (HG.out _).mono ?_; rintro e w' ⟨rfl, rfl⟩
  go_wp2_with fail
  refine (HI.out _).mono ?_; rintro e w' ⟨rfl, rfl⟩
  go_wp2_with fail
  refine (HQ.out _ (hw.below HB3.out)).mono ?_; rintro e w4 ⟨rfl, hb4⟩
  have HB4 := Lib.hid (below_then HB3.out hb4)
  clear hb4
  go_wp2_with fail
  refine (HX.out _).mono ?_; rintro e w5 ⟨rfl, hb5⟩
  have HB5 := Lib.hid (below_then HB4.out hb5)
  clear hb5
  go_wp2_with fail
  refine (HI2.out _).mono ?_; rintro e w' ⟨rfl, rfl⟩
  go_wp2_with fail
  refine (mawake_any _ (hw.below HB5.out)).mono ?_; rintro e w6 ⟨rfl, hb6⟩
  go_wp2_with fail
  go_ret
  exact ⟨rfl, below_then HB5.out hb6⟩

set_option maxHeartbeats 400000 in
theorem back_yn (m K : Nat) (s t b : ByteArray) (c : Nat) (w : World) (hw : Home w) (hs : s.size ≤ 300)
    (hK : bits .and .u64 (m : Int) 281474976710655 = (K : Int))
    (HT : Hid (∀ w, Calls Tryd.prog 20 #[.int .u64 K] w fun e w' => e = .returned (.string t) ∧ Below w.heap.size w w'))
    (HP : Hid (∀ w, Home w → Calls Tryd.prog 8 #[.string t] w fun e w' => e = .returned (.tuple #[.int .u64 K, .int .i64 0]) ∧ Below w.heap.size w w'))
    (HB : Hid (∀ w, Calls Tryd.prog 18 #[.int .u64 K] w fun e w' => e = .returned (.string b) ∧ Below w.heap.size w w'))
    (HR : Hid (∀ w, Calls Tryd.prog 10 #[.string b, .int .i64 0] w fun e w' => e = .returned (.tuple #[.int .u64 K, .int .i64 0]) ∧ w = w'))
    (HI : Hid (∀ w, Calls Tryd.prog 12 #[.int .u64 K] w fun e w' => e = .returned (.bool true) ∧ w = w'))
    (HV : Hid (∀ w, Home w → Calls Tryd.prog 16 #[.int .u64 K] w fun e w' => e = .returned (.bool true) ∧ w = w'))
    (HG : Hid (∀ w, Calls Tryd.prog 14 #[.int .u64 K] w fun e w' => e = .returned (.bool true) ∧ w = w'))
    (HQ : Hid (∀ w, Home w → Calls Tryd.prog 8 #[.string s] w fun e w' => e = .returned (.tuple #[.int .u64 c, .int .i64 3]) ∧ Below w.heap.size w w')) :
    Calls Tryd.prog 4 #[.int .u64 m, .string s] w fun e w' => e = .returned (.bool true) ∧ Below w.heap.size w w' := by
  have hs' : decide (300 < (s.size : Int)) = false := by simp; omega
  have y1 : ((K : Int) != (K : Int)) = false := by simp
  go_enter Tryd.func4, Tryd.ntmps4
  go_wp2_with fail
  refine (HT.out _).mono ?_; rintro e w1 ⟨rfl, hb1⟩
  have HB1 := Lib.hid hb1
  clear hb1
  go_wp2_with fail
  refine (HP.out _ (hw.below HB1.out)).mono ?_; rintro e w2 ⟨rfl, hb2⟩
  have HB2 := Lib.hid (below_then HB1.out hb2)
  clear hb2
  go_wp2_with fail
  refine (HB.out _).mono ?_; rintro e w3 ⟨rfl, hb3⟩
  have HB3 := Lib.hid (below_then HB2.out hb3)
  clear hb3
  go_wp2_with fail
  refine (HR.out _).mono ?_; rintro e w' ⟨rfl, rfl⟩
  go_wp2_with fail
  refine (HV.out _ (hw.below HB3.out)).mono ?_; rintro e w' ⟨rfl, rfl⟩
  go_wp2_with fail
  refine (HG.out _).mono ?_; rintro e w' ⟨rfl, rfl⟩
  go_wp2_with fail
  refine (HI.out _).mono ?_; rintro e w' ⟨rfl, rfl⟩
  go_wp2_with fail
  refine (HQ.out _ (hw.below HB3.out)).mono ?_; rintro e w4 ⟨rfl, hb4⟩
  have HB4 := Lib.hid (below_then HB3.out hb4)
  clear hb4
  go_wp2_with fail
  refine (mawake_any _ (hw.below HB4.out)).mono ?_; rintro e w6 ⟨rfl, hb6⟩
  go_wp2_with fail
  go_ret
  exact ⟨rfl, below_then HB4.out hb6⟩

set_option maxHeartbeats 400000 in
theorem back_ny (m K : Nat) (s t b : ByteArray) (c : Nat) (w : World) (hw : Home w) (hs : s.size ≤ 300)
    (hK : bits .and .u64 (m : Int) 281474976710655 = (K : Int))
    (HT : Hid (∀ w, Calls Tryd.prog 20 #[.int .u64 K] w fun e w' => e = .returned (.string t) ∧ Below w.heap.size w w'))
    (HP : Hid (∀ w, Home w → Calls Tryd.prog 8 #[.string t] w fun e w' => e = .returned (.tuple #[.int .u64 K, .int .i64 0]) ∧ Below w.heap.size w w'))
    (HB : Hid (∀ w, Calls Tryd.prog 18 #[.int .u64 K] w fun e w' => e = .returned (.string b) ∧ Below w.heap.size w w'))
    (HR : Hid (∀ w, Calls Tryd.prog 10 #[.string b, .int .i64 0] w fun e w' => e = .returned (.tuple #[.int .u64 K, .int .i64 0]) ∧ w = w'))
    (HI : Hid (∀ w, Calls Tryd.prog 12 #[.int .u64 K] w fun e w' => e = .returned (.bool true) ∧ w = w'))
    (HV : Hid (∀ w, Home w → Calls Tryd.prog 16 #[.int .u64 K] w fun e w' => e = .returned (.bool false) ∧ w = w'))
    (HQ : Hid (∀ w, Home w → Calls Tryd.prog 8 #[.string s] w fun e w' => e = .returned (.tuple #[.int .u64 c, .int .i64 0]) ∧ Below w.heap.size w w'))
    (HX : Hid (∀ w, Calls Tryd.prog 20 #[.int .u64 c] w fun e w' => e = .returned (.string s) ∧ Below w.heap.size w w'))
    (HI2 : Hid (∀ w, Calls Tryd.prog 12 #[.int .u64 c] w fun e w' => e = .returned (.bool true) ∧ w = w')) :
    Calls Tryd.prog 4 #[.int .u64 m, .string s] w fun e w' => e = .returned (.bool true) ∧ Below w.heap.size w w' := by
  have hs' : decide (300 < (s.size : Int)) = false := by simp; omega
  have y1 : ((K : Int) != (K : Int)) = false := by simp
  have x9 : (s.toList == s.toList) = true := by simp
  go_enter Tryd.func4, Tryd.ntmps4
  go_wp2_with fail
  refine (HT.out _).mono ?_; rintro e w1 ⟨rfl, hb1⟩
  have HB1 := Lib.hid hb1
  clear hb1
  go_wp2_with fail
  refine (HP.out _ (hw.below HB1.out)).mono ?_; rintro e w2 ⟨rfl, hb2⟩
  have HB2 := Lib.hid (below_then HB1.out hb2)
  clear hb2
  go_wp2_with fail
  refine (HB.out _).mono ?_; rintro e w3 ⟨rfl, hb3⟩
  have HB3 := Lib.hid (below_then HB2.out hb3)
  clear hb3
  go_wp2_with fail
  refine (HR.out _).mono ?_; rintro e w' ⟨rfl, rfl⟩
  go_wp2_with fail
  refine (HV.out _ (hw.below HB3.out)).mono ?_; rintro e w' ⟨rfl, rfl⟩
  go_wp2_with fail
  refine (HI.out _).mono ?_; rintro e w' ⟨rfl, rfl⟩
  go_wp2_with fail
  refine (HQ.out _ (hw.below HB3.out)).mono ?_; rintro e w4 ⟨rfl, hb4⟩
  have HB4 := Lib.hid (below_then HB3.out hb4)
  clear hb4
  go_wp2_with fail
  refine (HX.out _).mono ?_; rintro e w5 ⟨rfl, hb5⟩
  have HB5 := Lib.hid (below_then HB4.out hb5)
  clear hb5
  go_wp2_with fail
  refine (HI2.out _).mono ?_; rintro e w' ⟨rfl, rfl⟩
  go_wp2_with fail
  refine (mawake_any _ (hw.below HB5.out)).mono ?_; rintro e w6 ⟨rfl, hb6⟩
  go_wp2_with fail
  go_ret
  exact ⟨rfl, below_then HB5.out hb6⟩

set_option maxHeartbeats 400000 in
theorem back_nn (m K : Nat) (s t b : ByteArray) (c : Nat) (w : World) (hw : Home w) (hs : s.size ≤ 300)
    (hK : bits .and .u64 (m : Int) 281474976710655 = (K : Int))
    (HT : Hid (∀ w, Calls Tryd.prog 20 #[.int .u64 K] w fun e w' => e = .returned (.string t) ∧ Below w.heap.size w w'))
    (HP : Hid (∀ w, Home w → Calls Tryd.prog 8 #[.string t] w fun e w' => e = .returned (.tuple #[.int .u64 K, .int .i64 0]) ∧ Below w.heap.size w w'))
    (HB : Hid (∀ w, Calls Tryd.prog 18 #[.int .u64 K] w fun e w' => e = .returned (.string b) ∧ Below w.heap.size w w'))
    (HR : Hid (∀ w, Calls Tryd.prog 10 #[.string b, .int .i64 0] w fun e w' => e = .returned (.tuple #[.int .u64 K, .int .i64 0]) ∧ w = w'))
    (HI : Hid (∀ w, Calls Tryd.prog 12 #[.int .u64 K] w fun e w' => e = .returned (.bool true) ∧ w = w'))
    (HV : Hid (∀ w, Home w → Calls Tryd.prog 16 #[.int .u64 K] w fun e w' => e = .returned (.bool false) ∧ w = w'))
    (HQ : Hid (∀ w, Home w → Calls Tryd.prog 8 #[.string s] w fun e w' => e = .returned (.tuple #[.int .u64 c, .int .i64 3]) ∧ Below w.heap.size w w')) :
    Calls Tryd.prog 4 #[.int .u64 m, .string s] w fun e w' => e = .returned (.bool true) ∧ Below w.heap.size w w' := by
  have hs' : decide (300 < (s.size : Int)) = false := by simp; omega
  have y1 : ((K : Int) != (K : Int)) = false := by simp
  go_enter Tryd.func4, Tryd.ntmps4
  go_wp2_with fail
  refine (HT.out _).mono ?_; rintro e w1 ⟨rfl, hb1⟩
  have HB1 := Lib.hid hb1
  clear hb1
  go_wp2_with fail
  refine (HP.out _ (hw.below HB1.out)).mono ?_; rintro e w2 ⟨rfl, hb2⟩
  have HB2 := Lib.hid (below_then HB1.out hb2)
  clear hb2
  go_wp2_with fail
  refine (HB.out _).mono ?_; rintro e w3 ⟨rfl, hb3⟩
  have HB3 := Lib.hid (below_then HB2.out hb3)
  clear hb3
  go_wp2_with fail
  refine (HR.out _).mono ?_; rintro e w' ⟨rfl, rfl⟩
  go_wp2_with fail
  refine (HV.out _ (hw.below HB3.out)).mono ?_; rintro e w' ⟨rfl, rfl⟩
  go_wp2_with fail
  refine (HI.out _).mono ?_; rintro e w' ⟨rfl, rfl⟩
  go_wp2_with fail
  refine (HQ.out _ (hw.below HB3.out)).mono ?_; rintro e w4 ⟨rfl, hb4⟩
  have HB4 := Lib.hid (below_then HB3.out hb4)
  clear hb4
  go_wp2_with fail
  refine (mawake_any _ (hw.below HB4.out)).mono ?_; rintro e w6 ⟨rfl, hb6⟩
  go_wp2_with fail
  go_ret
  exact ⟨rfl, below_then HB4.out hb6⟩

end Mac
end Go.Proofs.YtjljfigppbahfaaDoor
