/-
  The walk of the law OctetSays: where octet's functions and the document's own answer alike, it returns true, and changes nothing that was there.
-/
import Derived.Test.YtdkpplbmkocbfaaOctPad
import Derived.Lib.Strings
import Derived.Deep.RegionHeld3
namespace Go.Proofs.Ytdkpplbmkocbfaa
open Go.RowKit
namespace Oct

set_option maxRecDepth 100000 in
set_option maxHeartbeats 4000000 in
theorem says_core (w : World) (n A : Nat) (s C U P D X : ByteArray) (a b E F I : Int) (B : Bool) (hs : s.size ≤ 600)
    (HG1 : ∀ w, Calls Try.prog 8 #[.string s, .int .i64 a, .int .i64 b] w fun e w' => e = .returned (.tuple #[.int .u64 A, .int .i64 E]) ∧ w = w')
    (HG2 : ∀ w, Calls Try.prog 9 #[.string s, .int .i64 a, .int .i64 b] w fun e w' => e = .returned (.tuple #[.int .u64 A, .int .i64 E]) ∧ w = w')
    (HC1 : ∀ w, Calls Try.prog 10 #[.string s, .int .i64 a, .int .i64 b] w fun e w' => e = .returned (.tuple #[.string C, .int .i64 F]) ∧ w = w')
    (HC2 : ∀ w, Calls Try.prog 11 #[.string s, .int .i64 a, .int .i64 b] w fun e w' => e = .returned (.tuple #[.string C, .int .i64 F]) ∧ w = w')
    (HU1 : ∀ w, Calls Try.prog 12 #[.string s] w fun e w' => e = .returned (.tuple #[.string U, .int .i64 I]) ∧ Below w.heap.size w w')
    (HU2 : ∀ w, Calls Try.prog 13 #[.string s] w fun e w' => e = .returned (.tuple #[.string U, .int .i64 I]) ∧ Below w.heap.size w w')
    (HP1 : ∀ w, Calls Try.prog 14 #[.int .u64 n, .int .i64 b] w fun e w' => e = .returned (.string P) ∧ Below w.heap.size w w')
    (HP2 : ∀ w, Calls Try.prog 15 #[.int .u64 n, .int .i64 b] w fun e w' => e = .returned (.string P) ∧ Below w.heap.size w w')
    (HD1 : ∀ w, Calls Try.prog 16 #[.string s, .int .i64 a] w fun e w' => e = .returned (.string D) ∧ Below w.heap.size w w')
    (HD2 : ∀ w, Calls Try.prog 17 #[.string s, .int .i64 a] w fun e w' => e = .returned (.string D) ∧ Below w.heap.size w w')
    (HX1 : ∀ w, Calls Try.prog 18 #[.string s] w fun e w' => e = .returned (.string X) ∧ Below w.heap.size w w')
    (HX2 : ∀ w, Calls Try.prog 19 #[.string s] w fun e w' => e = .returned (.string X) ∧ Below w.heap.size w w')
    (HS1 : ∀ w, Calls Try.prog 20 #[.string s, .string C] w fun e w' => e = .returned (.bool B) ∧ Below w.heap.size w w')
    (HS2 : ∀ w, Calls Try.prog 21 #[.string s, .string C] w fun e w' => e = .returned (.bool B) ∧ Below w.heap.size w w') :
    Calls Try.prog 3 #[.int .u64 n, .string s, .agg #[.int .i64 a, .int .i64 b]] w fun e w' => e = .returned (.bool true) ∧ Below w.heap.size w w' := by
  have hs' : decide (600 < (s.size : Int)) = false := by simp; omega
  have x1 : ((A : Int) == (A : Int)) = true := by simp
  have x2 : (E == E) = true := by simp
  have x3 : (F == F) = true := by simp
  have x4 : (I == I) = true := by simp
  have x5 : (B == B) = true := by simp
  have HG1' := Lib.hid HG1
  have HG2' := Lib.hid HG2
  have HC1' := Lib.hid HC1
  have HC2' := Lib.hid HC2
  have HU1' := Lib.hid HU1
  have HU2' := Lib.hid HU2
  have HP1' := Lib.hid HP1
  have HP2' := Lib.hid HP2
  have HD1' := Lib.hid HD1
  have HD2' := Lib.hid HD2
  have HX1' := Lib.hid HX1
  have HX2' := Lib.hid HX2
  have HS1' := Lib.hid HS1
  have HS2' := Lib.hid HS2
  clear HG1 HG2 HC1 HC2 HU1 HU2 HP1 HP2 HD1 HD2 HX1 HX2 HS1 HS2
  go_enter Try.func3, Try.ntmps3
  go_wp2_with fail
  refine (HG1'.out _).mono ?_; rintro e w' ⟨rfl, rfl⟩
  go_wp2_with fail
  refine (HG2'.out _).mono ?_; rintro e w' ⟨rfl, rfl⟩
  go_wp2_with fail
  refine (HC1'.out _).mono ?_; rintro e w' ⟨rfl, rfl⟩
  go_wp2_with fail
  refine (HC2'.out _).mono ?_; rintro e w' ⟨rfl, rfl⟩
  have hb0 := (Below.refl w.heap.size w).alloc (Nat.le_refl _) (Obj.cells #[Value.int .i64 a, Value.int .i64 b] 23)
  have z0 : w.heap.size < (w.alloc (Obj.cells #[Value.int .i64 a, Value.int .i64 b] 23)).heap.size := by simp
  have hc0 : (w.alloc (Obj.cells #[Value.int .i64 a, Value.int .i64 b] 23)).cell? ⟨w.heap.size, 0, none⟩ = some (.int .i64 a) := by simp
  have hc1 : (w.alloc (Obj.cells #[Value.int .i64 a, Value.int .i64 b] 23)).cell? ⟨w.heap.size, 1, none⟩ = some (.int .i64 b) := by simp
  generalize w.alloc (Obj.cells #[Value.int .i64 a, Value.int .i64 b] 23) = W0 at *
  go_wp2_with fail
  refine (HU1'.out _).mono ?_; rintro e w2 ⟨rfl, hb2⟩
  go_wp2_with fail
  refine (HU2'.out _).mono ?_; rintro e w3 ⟨rfl, hb3⟩
  have hb4 := below_then hb2 hb3
  have hbA := hb0.trans (hb4.mono (by omega))
  obtain ⟨d0, d1⟩ : w3.cell? ⟨w.heap.size, 0, none⟩ = some (.int .i64 a) ∧ w3.cell? ⟨w.heap.size, 1, none⟩ = some (.int .i64 b) := ⟨by rw [hb4.cell (by simp; omega)]; exact hc0, by rw [hb4.cell (by simp; omega)]; exact hc1⟩
  have z3 : w.heap.size < w3.heap.size := by have := hb4.size; omega
  clear hc0 hc1 z0 hb0 hb2 hb3 hb4
  go_wp2_with fail
  simp only [List.append]
  go_region_held3 (fun w' => w'.cell? ⟨w.heap.size, 0, none⟩ = some (.int .i64 a) ∧ w'.cell? ⟨w.heap.size, 1, none⟩ = some (.int .i64 b))
    (first | go_keep | (go_split_ands; exact ⟨(hb4.cell (p := ⟨w.heap.size, 0, none⟩) z3).trans (by assumption), (hb4.cell (p := ⟨w.heap.size, 1, none⟩) z3).trans (by assumption)⟩) | (go_split_ands; exact ⟨(hb5.cell (p := ⟨w.heap.size, 0, none⟩) z4).trans (by assumption), (hb5.cell (p := ⟨w.heap.size, 1, none⟩) z4).trans (by assumption)⟩) | (go_split_ands; exact ⟨(hb6.cell (p := ⟨w.heap.size, 0, none⟩) z5).trans (by assumption), (hb6.cell (p := ⟨w.heap.size, 1, none⟩) z5).trans (by assumption)⟩) | (go_split_ands; exact ⟨(hb7.cell (p := ⟨w.heap.size, 0, none⟩) z6).trans (by assumption), (hb7.cell (p := ⟨w.heap.size, 1, none⟩) z6).trans (by assumption)⟩) | (go_split_ands; exact ⟨(hb8.cell (p := ⟨w.heap.size, 0, none⟩) z7).trans (by assumption), (hb8.cell (p := ⟨w.heap.size, 1, none⟩) z7).trans (by assumption)⟩) | (go_split_ands; exact ⟨(hb9.cell (p := ⟨w.heap.size, 0, none⟩) z8).trans (by assumption), (hb9.cell (p := ⟨w.heap.size, 1, none⟩) z8).trans (by assumption)⟩) | (go_split_ands; exact ⟨(hb10.cell (p := ⟨w.heap.size, 0, none⟩) z9).trans (by assumption), (hb10.cell (p := ⟨w.heap.size, 1, none⟩) z9).trans (by assumption)⟩) | (go_split_ands; exact ⟨(hb11.cell (p := ⟨w.heap.size, 0, none⟩) z10).trans (by assumption), (hb11.cell (p := ⟨w.heap.size, 1, none⟩) z10).trans (by assumption)⟩) | (go_split_ands; exact ⟨(hb12.cell (p := ⟨w.heap.size, 0, none⟩) z11).trans (by assumption), (hb12.cell (p := ⟨w.heap.size, 1, none⟩) z11).trans (by assumption)⟩))
    (first | (go_at_call 14; refine (HP1'.out _).mono ?_; rintro e w4 ⟨rfl, hb4⟩; have z4 : w.heap.size < w4.heap.size := Nat.lt_of_lt_of_le z3 hb4.size) | (go_at_call 15; refine (HP2'.out _).mono ?_; rintro e w5 ⟨rfl, hb5⟩; have z5 : w.heap.size < w5.heap.size := Nat.lt_of_lt_of_le z4 hb5.size) | (go_at_call 16; refine (HD1'.out _).mono ?_; rintro e w6 ⟨rfl, hb6⟩; have z6 : w.heap.size < w6.heap.size := Nat.lt_of_lt_of_le z5 hb6.size) | (go_at_call 17; refine (HD2'.out _).mono ?_; rintro e w7 ⟨rfl, hb7⟩; have z7 : w.heap.size < w7.heap.size := Nat.lt_of_lt_of_le z6 hb7.size) | (go_at_call 18; refine (HX1'.out _).mono ?_; rintro e w8 ⟨rfl, hb8⟩; have z8 : w.heap.size < w8.heap.size := Nat.lt_of_lt_of_le z7 hb8.size) | (go_at_call 19; refine (HX2'.out _).mono ?_; rintro e w9 ⟨rfl, hb9⟩; have z9 : w.heap.size < w9.heap.size := Nat.lt_of_lt_of_le z8 hb9.size) | (go_at_call 20; refine (HS1'.out _).mono ?_; rintro e w10 ⟨rfl, hb10⟩; have z10 : w.heap.size < w10.heap.size := Nat.lt_of_lt_of_le z9 hb10.size) | (go_at_call 21; refine (HS2'.out _).mono ?_; rintro e w11 ⟨rfl, hb11⟩; have z11 : w.heap.size < w11.heap.size := Nat.lt_of_lt_of_le z10 hb11.size) | (go_at_call 7; refine (awake_any _).mono ?_; rintro e w12 ⟨rfl, hb12⟩))
  go_wp2
  go_ret
  refine ⟨rfl, ?_⟩
  have hR := below_then (below_then (below_then (below_then (below_then (below_then (below_then (below_then hb4 hb5) hb6) hb7) hb8) hb9) hb10) hb11) hb12
  exact hbA.drew.trans (hR.mono (by show w.heap.size ≤ w3.heap.size; omega))

end Oct
end Go.Proofs.Ytdkpplbmkocbfaa
