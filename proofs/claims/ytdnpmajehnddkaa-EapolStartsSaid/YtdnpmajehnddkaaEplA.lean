/-
  What eapol.Right, and the document's answer beside it, say of anything; and that they change nothing that was there.
-/
import Derived.Test.YtdnpmajehnddkaaEthC
import Derived.Test.YtdnpmajehnddkaaEplNum
namespace Go.Proofs.Ytdnpmajehnddkaa
open Go.RowKit
namespace Epl
open Oct Mac Eth

/-- What is said, as a value. -/
abbrev ep (v t : Int) (b : ByteArray) : Value := .agg #[.int .i64 v, .int .i64 t, .string b]

theorem size_pos {b : ByteArray} (h : b ≠ ⟨#[]⟩) : b.size ≠ 0 := fun h' => h (size_zero h')

theorem full_list {b : ByteArray} (h : b ≠ ⟨#[]⟩) : b.toList.isEmpty = false := by
  rw [ByteArray.toList_eq]
  cases hl : b.data.toList with
  | nil => exact absurd (size_zero (by show b.data.size = 0; rw [← Array.length_toList, hl]; rfl)) h
  | cons _ _ => rfl

theorem right_wrong (v t : Int) (b : ByteArray) (w : World) (h : (t == 0) = false) (h1 : (t == 1) = false) (h2 : (t == 2) = false) (h3 : (t == 3) = false) :
    Calls Try.prog 13 #[ep v t b] w fun e w' => e = .returned (.bool false) ∧ Below w.heap.size w w' := by
  go_enter Try.func13, Try.ntmps13
  go_wp2
  go_ret
  exact ⟨rfl, box_below _ _⟩

theorem right_with (v t : Int) (b : ByteArray) (w : World) (hb : b.size ≤ 9223372036854775807) (ht : t = 0 ∨ t = 3) :
    Calls Try.prog 13 #[ep v t b] w fun e w' => e = .returned (.bool (decide (1 ≤ v ∧ v ≤ 255 ∧ b.size ≤ 1024))) ∧ Below w.heap.size w w' := by
  rcases ht with rfl | rfl <;> rcases (show ¬ 1 ≤ v ∨ (1 ≤ v ∧ v ≤ 255) ∨ ¬ v ≤ 255 by omega) with h1 | ⟨h1, h2⟩ | h2 <;>
  · go_enter Try.func13, Try.ntmps13
    go_wp2
    go_ret
    exact ⟨ret_bool (by rw [Bool.eq_iff_iff]; simp <;> omega), box_below _ _⟩

theorem right_bare (v t : Int) (w : World) (ht : t = 1 ∨ t = 2) :
    Calls Try.prog 13 #[ep v t ⟨#[]⟩] w fun e w' => e = .returned (.bool (decide (1 ≤ v ∧ v ≤ 255))) ∧ Below w.heap.size w w' := by
  rcases ht with rfl | rfl <;> rcases (show ¬ 1 ≤ v ∨ (1 ≤ v ∧ v ≤ 255) ∨ ¬ v ≤ 255 by omega) with h1 | ⟨h1, h2⟩ | h2 <;>
  · go_enter Try.func13, Try.ntmps13
    go_wp2
    go_ret
    exact ⟨ret_bool (by rw [Bool.eq_iff_iff]; simp <;> omega), box_below _ _⟩

theorem right_full (v t : Int) (b : ByteArray) (w : World) (ht : t = 1 ∨ t = 2) (hb : b.toList.isEmpty = false) :
    Calls Try.prog 13 #[ep v t b] w fun e w' => e = .returned (.bool false) ∧ Below w.heap.size w w' := by
  rcases ht with rfl | rfl <;>
  · go_enter Try.func13, Try.ntmps13
    go_wp2
    go_ret
    exact ⟨rfl, box_below _ _⟩

theorem right_any (v t : Int) (b : ByteArray) (w : World) (hb : b.size ≤ 9223372036854775807) :
    Calls Try.prog 13 #[ep v t b] w fun e w' => e = .returned (.bool (rightE v t b)) ∧ Below w.heap.size w w' := by
  by_cases h0 : t = 0 ∨ t = 3
  · rw [show rightE v t b = decide (1 ≤ v ∧ v ≤ 255 ∧ b.size ≤ 1024) by unfold rightE; rw [decide_eq_decide]; omega]
    exact right_with v t b w hb h0
  by_cases h1 : t = 1 ∨ t = 2
  · by_cases hz : b = ⟨#[]⟩
    · subst hz
      rw [show rightE v t ⟨#[]⟩ = decide (1 ≤ v ∧ v ≤ 255) by unfold rightE; rw [decide_eq_decide]; have : (⟨#[]⟩ : ByteArray).size = 0 := rfl; omega]
      exact right_bare v t w h1
    · rw [show rightE v t b = false by unfold rightE; rw [decide_eq_false_iff_not]; have := size_pos hz; omega]
      exact right_full v t b w h1 (full_list hz)
  · rw [show rightE v t b = false by unfold rightE; rw [decide_eq_false_iff_not]; omega]
    exact right_wrong v t b w (by simp; omega) (by simp; omega) (by simp; omega) (by simp; omega)

theorem rright_out (v t : Int) (b : ByteArray) (w : World) (hb : b.size ≤ 9223372036854775807) (h : ¬ 1 ≤ v ∨ (1 ≤ v ∧ v ≤ 255) ∧ 1024 < b.size ∨ ¬ v ≤ 255) :
    Calls Try.prog 14 #[ep v t b] w fun e w' => e = .returned (.bool false) ∧ Below w.heap.size w w' := by
  rcases h with h1 | ⟨⟨h1, h2⟩, h3⟩ | h2 <;>
  · go_enter Try.func14, Try.ntmps14
    go_wp2
    go_ret
    exact ⟨rfl, box_below _ _⟩

theorem rright_with (v t : Int) (b : ByteArray) (w : World) (ht : t = 0 ∨ t = 3) (h1 : 1 ≤ v) (h2 : v ≤ 255) (h3 : b.size ≤ 1024) :
    Calls Try.prog 14 #[ep v t b] w fun e w' => e = .returned (.bool true) ∧ Below w.heap.size w w' := by
  rcases ht with rfl | rfl <;>
  · go_enter Try.func14, Try.ntmps14
    go_wp2
    go_ret
    exact ⟨rfl, box_below _ _⟩

theorem rright_bare (v t : Int) (w : World) (ht : t = 1 ∨ t = 2) (h1 : 1 ≤ v) (h2 : v ≤ 255) :
    Calls Try.prog 14 #[ep v t ⟨#[]⟩] w fun e w' => e = .returned (.bool true) ∧ Below w.heap.size w w' := by
  rcases ht with rfl | rfl <;>
  · go_enter Try.func14, Try.ntmps14
    go_wp2
    go_ret
    exact ⟨rfl, box_below _ _⟩

theorem rright_full (v t : Int) (b : ByteArray) (w : World) (ht : t = 1 ∨ t = 2) (h1 : 1 ≤ v) (h2 : v ≤ 255) (h3 : b.size ≤ 1024) (hb : b.toList.isEmpty = false) :
    Calls Try.prog 14 #[ep v t b] w fun e w' => e = .returned (.bool false) ∧ Below w.heap.size w w' := by
  rcases ht with rfl | rfl <;>
  · go_enter Try.func14, Try.ntmps14
    go_wp2
    go_ret
    exact ⟨rfl, box_below _ _⟩

theorem rright_wrong (v t : Int) (b : ByteArray) (w : World) (h1 : 1 ≤ v) (h2 : v ≤ 255) (h3 : b.size ≤ 1024) (e0 : (t == 0) = false) (e1 : (t == 1) = false) (e2 : (t == 2) = false) (e3 : (t == 3) = false) :
    Calls Try.prog 14 #[ep v t b] w fun e w' => e = .returned (.bool false) ∧ Below w.heap.size w w' := by
  go_enter Try.func14, Try.ntmps14
  go_wp2
  go_ret
  exact ⟨rfl, box_below _ _⟩

theorem rright_any (v t : Int) (b : ByteArray) (w : World) (hb : b.size ≤ 9223372036854775807) :
    Calls Try.prog 14 #[ep v t b] w fun e w' => e = .returned (.bool (rightE v t b)) ∧ Below w.heap.size w w' := by
  by_cases hv : 1 ≤ v ∧ v ≤ 255 ∧ b.size ≤ 1024
  case neg =>
    rw [show rightE v t b = false by unfold rightE; rw [decide_eq_false_iff_not]; omega]
    exact rright_out v t b w hb (by omega)
  obtain ⟨g1, g2, g3⟩ := hv
  by_cases h0 : t = 0 ∨ t = 3
  · rw [show rightE v t b = true by unfold rightE; rw [decide_eq_true_iff]; omega]
    exact rright_with v t b w h0 g1 g2 g3
  by_cases h1 : t = 1 ∨ t = 2
  · by_cases hz : b = ⟨#[]⟩
    · subst hz
      rw [show rightE v t ⟨#[]⟩ = true by unfold rightE; rw [decide_eq_true_iff]; have : (⟨#[]⟩ : ByteArray).size = 0 := rfl; omega]
      exact rright_bare v t w h1 g1 g2
    · rw [show rightE v t b = false by unfold rightE; rw [decide_eq_false_iff_not]; have := size_pos hz; omega]
      exact rright_full v t b w h1 g1 g2 g3 (full_list hz)
  · rw [show rightE v t b = false by unfold rightE; rw [decide_eq_false_iff_not]; omega]
    exact rright_wrong v t b w g1 g2 g3 (by simp; omega) (by simp; omega) (by simp; omega) (by simp; omega)

end Epl
end Go.Proofs.Ytdnpmajehnddkaa
