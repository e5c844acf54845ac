/-
  The walk of the law OctetBack at widths below eight bytes: it returns true, whatever the texts (up to 300 bytes each) and the number, and changes nothing that was there.
-/
import Derived.Test.YtdkpplbmkocbfaaOctPad
import Derived.Lib.Strings
import Derived.Deep.RegionHeld3
import Derived.StillTailTactics
namespace Go.Proofs.Ytdkpplbmkocbfaa
open Go.RowKit
namespace Oct

theorem low_eq (n r : Nat) (hn : n < 18446744073709551616) (hr : r < 7) :
    bits .and .u64 (n : Int) (IntKind.u64.wrap (IntKind.u64.wrap (2 ^ (8 * (1 + r))) - 1)) = ((n % 256 ^ (1 + r) : Nat) : Int) := by
  have hp : 2 ^ (8 * (1 + r)) ≤ 2 ^ 56 := Nat.pow_le_pow_right (by omega) (by omega)
  have h1 : 1 ≤ 2 ^ (8 * (1 + r)) := Nat.one_le_two_pow
  have e0 : ((2 : Int) ^ (8 * (1 + r))) = ((2 ^ (8 * (1 + r)) : Nat) : Int) := by simp
  have e : IntKind.u64.wrap (IntKind.u64.wrap (2 ^ (8 * (1 + r))) - 1) = ((2 ^ (8 * (1 + r)) - 1 : Nat) : Int) := by
    rw [e0]
    generalize 2 ^ (8 * (1 + r)) = q at *
    rw [IntKind.wrap_u64, IntKind.wrap_u64]
    omega
  rw [e, u64_and_nat _ _ hn (by omega), Nat.and_two_pow_sub_one_eq_mod, Nat.pow_mul]

theorem get_mid (s p t : ByteArray) (k : Nat) (hk : 1 ≤ k) (hk8 : k ≤ 8) (hp : p.size = k) : getR (s ++ p ++ t) s.size k = (getL 0 p.data.toList, 0) := by
  have hz : (s ++ p ++ t).size = s.size + k + t.size := by simp [ByteArray.size_append, hp]
  have e0 : cutE (s ++ p ++ t).size s.size k = 0 := cutE_zero.2 (by omega)
  unfold getR
  rw [if_neg (by omega), e0, if_neg (by simp)]
  have e1 : cutS (s ++ p ++ t) s.size k = p := by
    unfold cutS
    rw [if_pos e0, Int.toNat_natCast, show ((s.size : Int) + k).toNat = s.size + k by omega]
    have hd : p.data.size = k := hp
    apply ByteArray.ext
    simp only [ByteArray.data_extract, ByteArray.data_append]
    apply Array.ext'
    have hs : s.size = s.data.toList.length := rfl
    have hd' : p.data.toList.length = k := by simpa using hd
    rw [Array.toList_extract, Array.toList_append, Array.toList_append, hs, List.append_assoc, List.extract_eq_take_drop, List.drop_left, ← hd', Nat.add_sub_cancel_left, List.take_left]
  rw [e1]

set_option maxHeartbeats 2000000 in
theorem back_core (w : World) (n low : Nat) (s t P : ByteArray) (hs : s.size ≤ 300) (ht : t.size ≤ 300) (width : Int) (r : Nat) (hr : r < 7) (hw : wrap64 ((IntKind.u64.wrap width).tmod 8) = r)
    (hlow : bits .and .u64 (n : Int) (IntKind.u64.wrap (IntKind.u64.wrap (2 ^ (8 * (1 + r))) - 1)) = (low : Int)) (hP : P.size ≤ 8)
    (HP : ∀ w, Calls Try.prog 14 #[.int .u64 n, .int .i64 (1 + r)] w fun e w' => e = .returned (.string P) ∧ Below w.heap.size w w')
    (HG : ∀ w, Calls Try.prog 8 #[.string (s ++ P ++ t), .int .i64 s.size, .int .i64 (1 + r)] w fun e w' => e = .returned (.tuple #[.int .u64 low, .int .i64 0]) ∧ w = w')
    (X V Y : ByteArray) (g : Int) (hg : g = 0 ∧ Y = t ∨ g = 2 ∨ g = 3)
    (HX : ∀ w, Calls Try.prog 18 #[.string s] w fun e w' => e = .returned (.string X) ∧ Below w.heap.size w w')
    (HU : ∀ w, Calls Try.prog 12 #[.string X] w fun e w' => e = .returned (.tuple #[.string s, .int .i64 0]) ∧ Below w.heap.size w w')
    (HV : ∀ w, Calls Try.prog 12 #[.string t] w fun e w' => e = .returned (.tuple #[.string V, .int .i64 g]) ∧ Below w.heap.size w w')
    (HY : ∀ w, Calls Try.prog 18 #[.string V] w fun e w' => e = .returned (.string Y) ∧ Below w.heap.size w w') :
    Calls Try.prog 4 #[.int .u64 n, .agg #[.string s, .string t], .int .i64 width] w fun e w' => e = .returned (.bool true) ∧ Below w.heap.size w w' := by
  have hs' : decide (300 < (s.size : Int)) = false := by simp; omega
  have ht' : decide (300 < (t.size : Int)) = false := by simp; omega
  have a1 : ¬ (s.size + P.size > 9223372036854775807) := by omega
  have a2 : ¬ ((s ++ P).size + t.size > 9223372036854775807) := by rw [ByteArray.size_append]; omega
  have a3 : ¬ (s.size + P.size + t.size > 9223372036854775807) := by omega
  have HP' := Lib.hid HP
  have HG' := Lib.hid HG
  have HL := Lib.hid hlow
  have HX' := Lib.hid HX
  have HU' := Lib.hid HU
  have HV' := Lib.hid HV
  have HY' := Lib.hid HY
  have Hg := Lib.hid hg
  have l0 : ((low : Int) != (low : Int)) = false := by simp
  clear HP HG hlow HX HU HV HY hg
  go_enter Try.func4, Try.ntmps4
  go_wp2_with fail
  rw [HL.out]
  have hb0 := (Below.refl w.heap.size w).alloc (Nat.le_refl _) (Obj.cells #[Value.string s, Value.string t] 36)
  have hz0 : (w.alloc (Obj.cells #[Value.string s, Value.string t] 36)).heap.size = w.heap.size + 1 := by simp
  have hc0 : (w.alloc (Obj.cells #[Value.string s, Value.string t] 36)).cell? ⟨w.heap.size, 0, none⟩ = some (.string s) := by simp
  have hc1 : (w.alloc (Obj.cells #[Value.string s, Value.string t] 36)).cell? ⟨w.heap.size, 1, none⟩ = some (.string t) := by simp
  generalize w.alloc (Obj.cells #[Value.string s, Value.string t] 36) = W0 at *
  go_region_held3 (fun w' => w'.cell? ⟨w.heap.size, 0, none⟩ = some (.string s) ∧ w'.cell? ⟨w.heap.size, 1, none⟩ = some (.string t))
    (first | go_keep | (go_split_ands; exact ⟨by rw [hb1.cell (by simp; omega)]; assumption, by rw [hb1.cell (by simp; omega)]; assumption⟩))
    (first | (go_at_call 14; refine (HP'.out _).mono ?_; rintro e w1 ⟨rfl, hb1⟩) | (go_at_call 8; refine (HG'.out _).mono ?_; rintro e w2 ⟨rfl, rfl⟩))
  have hb2 := hb0.drew.trans (hb1.mono (by show w.heap.size ≤ W0.heap.size; omega))
  obtain ⟨d0, d1⟩ : w1.cell? ⟨w.heap.size, 0, none⟩ = some (.string s) ∧ w1.cell? ⟨w.heap.size, 1, none⟩ = some (.string t) := ⟨by rw [hb1.cell (by simp; omega)]; exact hc0, by rw [hb1.cell (by simp; omega)]; exact hc1⟩
  have z1 : w.heap.size < w1.heap.size := by have : W0.heap.size ≤ w1.heap.size := hb1.size; omega
  clear hc0 hc1 hb0 hb1
  go_wp2_with fail
  refine (HX'.out _).mono ?_; rintro e w2 ⟨rfl, hb3⟩
  go_wp2_with fail
  refine (HU'.out _).mono ?_; rintro e w3 ⟨rfl, hb4⟩
  have hb5 := below_then hb3 hb4
  obtain ⟨e0, e1⟩ : w3.cell? ⟨w.heap.size, 0, none⟩ = some (.string s) ∧ w3.cell? ⟨w.heap.size, 1, none⟩ = some (.string t) := ⟨by rw [hb5.cell (by simp; omega)]; exact d0, by rw [hb5.cell (by simp; omega)]; exact d1⟩
  have hb6 := hb2.trans (hb5.mono (by omega))
  have z2 : w.heap.size < w3.heap.size := by have := hb5.size; omega
  clear d0 d1 hb2 hb3 hb4 hb5
  go_wp2_with fail
  refine (HV'.out _).mono ?_; rintro e w4 ⟨rfl, hb7⟩
  obtain ⟨f0, f1⟩ : w4.cell? ⟨w.heap.size, 0, none⟩ = some (.string s) ∧ w4.cell? ⟨w.heap.size, 1, none⟩ = some (.string t) := ⟨by rw [hb7.cell (by simp; omega)]; exact e0, by rw [hb7.cell (by simp; omega)]; exact e1⟩
  have hb8 := hb6.trans (hb7.mono (by omega))
  have z3 : w.heap.size < w4.heap.size := by have := hb7.size; omega
  clear e0 e1 hb6 hb7
  rcases Hg.out with ⟨rfl, rfl⟩ | hg23
  · go_wp2_with fail
    go_region_held3 (fun w' => w'.cell? ⟨w.heap.size, 1, none⟩ = some (.string Y))
      (first | go_keep | (rw [hb10.cell (by have := hb9.size; simp at this; simp; omega)]; assumption) | (rw [hb9.cell (by simp; omega)]; assumption))
      (first | (go_at_call 18; refine (HY'.out _).mono ?_; rintro e w5 ⟨rfl, hb9⟩) | (go_at_call 7; refine (awake_any _).mono ?_; rintro e w6 ⟨rfl, hb10⟩))
    go_wp2
    go_ret
    exact ⟨rfl, hb8.drew.trans ((below_then hb9 hb10).mono (by show w.heap.size ≤ w4.heap.size; omega))⟩
  · rcases hg23 with rfl | rfl
    all_goals
      go_wp2_with fail
      first
        | go_region_with (go_at_call 7; refine (awake_any _).mono ?_; rintro e w6 ⟨rfl, hb10⟩)
        | fail
      all_goals
        go_wp2
        go_ret
        exact ⟨rfl, hb8.drew.trans (hb10.mono (by show w.heap.size ≤ w4.heap.size; omega))⟩

end Oct
end Go.Proofs.Ytdkpplbmkocbfaa
