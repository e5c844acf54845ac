/-
  What Go's slices.Index and slices.Contains answer for a slice of integers that reads as a list; and that they change nothing.
-/
import Derived.Test.YtmgjjcadeikdgaaEapE
import Derived.Test.YtmgjjcadeikdgaaInts
namespace Go.Proofs.Ytmgjjcadeikdgaa
open Go.RowKit
namespace Eap
open Oct Mac Eth Epl

/-- The place of v, or -1. -/
def idxF (v : Int) : List Int → Nat → Int
  | [], _ => -1
  | x :: l, k => if v = x then (k : Int) else idxF v l (k + 1)

theorem idxF_mem (v : Int) : ∀ (l : List Int) (k : Nat), decide (0 ≤ idxF v l k) = decide (v ∈ l)
  | [], k => by simp [idxF]
  | x :: l, k => by
    unfold idxF
    by_cases h : v = x
    · simp [h]
    · simp only [h, if_false]
      rw [idxF_mem v l (k + 1)]
      simp [h]

theorem drop_at (l : List Int) (k : Nat) (h : k < l.length) : l.drop k = l[k] :: l.drop (k + 1) := List.drop_eq_getElem_cons h

set_option maxHeartbeats 400000 in
theorem index_any (A : Option Addr) (l : List Int) (cap : Nat) (v : Int) (w : World) (hl : l.length ≤ 9223372036854775807) (h : Hid (Bx.Ints w A l)) :
    Calls Try.prog 39 #[.slice A l.length cap, .int .i64 v] w fun e w' => e = .returned (.int .i64 (idxF v l 0)) ∧ w = w' := by
  obtain ⟨r, hr⟩ : ∃ r, idxF v l 0 = r := ⟨_, rfl⟩
  rw [hr]
  have HR := Lib.hid hr
  clear hr
  go_enter Try.func39, Try.ntmps39
  go_wp2
  go_loop [5, 8] (fun _ i => ∃ k : Nat, k ≤ l.length ∧ i = .int .i64 k ∧ Aside (idxF v (l.drop k) k = r)) (fun _ i => l.length - (intOf i).toNat)
  case atStart => exact ⟨0, Nat.zero_le _, rfl, HR.out⟩
  case round =>
    obtain ⟨k, hk, rfl, HK⟩ := hrel
    by_cases hlt : k < l.length
    · obtain ⟨ad, rfl, hb, hc⟩ := h.out.at hlt
      have hK := HK.out
      rw [drop_at l k hlt] at hK
      unfold idxF at hK
      generalize l[k] = x at *
      by_cases hx : v = x
      · rw [if_pos hx] at hK
        have e1 : (v == x) = true := by simpa using hx
        have HK2 := Lib.hid hK
        clear hK HK hx HR
        go_wp2
        go_ret
        exact ⟨by rw [← HK2.out]; rfl, rfl⟩
      · rw [if_neg hx] at hK
        have e1 : (v == x) = false := by simpa using hx
        have HK2 := Lib.hid hK
        clear hK HK hx HR
        go_wp2
        go_round
        case rel => exact ⟨k + 1, by omega, by go_num, HK2.out⟩
        case measure => simp [intOf]; omega
    · have hK := HK.out
      rw [List.drop_of_length_le (by omega)] at hK
      have HK2 := Lib.hid hK
      clear hK HK HR
      go_wp2
      go_ret
      exact ⟨by rw [← HK2.out]; rfl, rfl⟩

theorem contains_any (A : Option Addr) (l : List Int) (cap : Nat) (v : Int) (w : World) (hl : l.length ≤ 9223372036854775807) (h : Hid (Bx.Ints w A l)) :
    Calls Try.prog 36 #[.slice A l.length cap, .int .i64 v] w fun e w' => e = .returned (.bool (decide (v ∈ l))) ∧ w = w' := by
  rw [← idxF_mem v l 0]
  generalize hr : idxF v l 0 = r
  have HI := Lib.hid (index_any A l cap v w hl h)
  rw [hr] at HI
  clear hr
  go_enter Try.func36, Try.ntmps36
  go_wp2_with fail
  refine HI.out.mono ?_; rintro e w' ⟨rfl, rfl⟩
  go_wp2_with fail
  go_ret
  exact ⟨rfl, rfl⟩

end Eap
end Go.Proofs.Ytmgjjcadeikdgaa
