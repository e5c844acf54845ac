/-
  The law's guard over packets: how much of a packet is gone through.
-/
import Derived.Test.YtaeeonohakkgbaaDoorPacB
import Derived.Test.YtaeeonohakkgbaaDoorAttB
namespace Go.Proofs.YtaeeonohakkgbaaDoor
open Go.RowKit
namespace Pac
open Oct Att Bx

/-- What the guard says. -/
def longP (a : ByteArray) (l : List At) : Bool := if l = [] then decide (30000 < a.size) else longB 0 a.size l

set_option maxRecDepth 20000 in
set_option maxHeartbeats 1000000 in
theorem long_any (c i : Int) (a : ByteArray) (ha : a.size ≤ maxLen) (l : List At) (hl : l.length ≤ maxLen) (A : Option Addr) (kc : Nat) (w : World) (hA : Ats w A l) :
    Calls Tryd.prog 5 #[pv c i a A l.length kc] w fun e w' => e = .returned (.bool (longP a l)) ∧ Below w.heap.size w w' := by
  have HA := Lib.hid (hA.below (box_below w (po c i a A l.length kc)))
  have B0 := Lib.hid (box_below w (po c i a A l.length kc))
  clear hA
  have hl' : l.length ≤ 9223372036854775807 := hl
  have ha' : a.size ≤ 9223372036854775807 := ha
  go_enter Tryd.func5, Tryd.ntmps5
  go_wp2
  go_loopw [3, 4, 12] (fun n _ ix wr => ∃ (k : Nat) (m : Int), k ≤ l.length ∧ ix = .int .i64 k ∧ n = .int .i64 m ∧ Aside (longB 0 a.size l = longB k m (l.drop k)) ∧ Aside (k = 0 → m = a.size) ∧ Aside (0 < k → m ≤ 30000) ∧ Aside (Below (w.alloc (po c i a A l.length kc)).heap.size (w.alloc (po c i a A l.length kc)) wr)) (fun _ _ ix _ => l.length - (intOf ix).toNat)
  case atStart => exact ⟨0, a.size, Nat.zero_le _, rfl, rfl, rfl, fun _ => rfl, fun h => absurd h (Nat.lt_irrefl 0), Below.refl _ _⟩
  case round =>
    obtain ⟨k, m, hk, rfl, rfl, HE, H0, H1, HB⟩ := hrel
    by_cases hlt : k < l.length
    · obtain ⟨b, o, rfl, _, c0, c1⟩ := (HA.out.below HB.out).at hlt
      have HN := Lib.hid (show longB 0 a.size l = if wrap64 (m + l[k].2.size) > 30000 ∨ k > 80 then true else longB (k + 1) (wrap64 (m + l[k].2.size)) (l.drop (k + 1)) by rw [HE.out, List.drop_eq_getElem_cons hlt, longB])
      have BX := Lib.hid (Bx.bel_box HB.out (Obj.cells #[.int .i64 l[k].1, .string l[k].2] 39))
      have HQ := Lib.hid (show longP a l = longB 0 a.size l from if_neg (fun h => by rw [h] at hlt; exact absurd hlt (Nat.not_lt_zero _)))
      generalize l[k] = x at *
      obtain ⟨x1, x2⟩ := x
      simp only at c0 c1 HN BX
      rcases Classical.em (wrap64 (m + x2.size) > 30000 ∨ k > 80) with h1 | h1
      · have HN2 := Lib.hid (HN.out.trans (if_pos h1))
        have B2 := Lib.hid (then_below B0.out BX.out)
        clear HN HE
        rcases Classical.em (30000 < wrap64 (m + x2.size)) with h2 | h2
        · go_wp2
          go_ret
          exact ⟨by rw [HQ.out, HN2.out]; rfl, B2.out⟩
        · have h3 : (80 : Int) < k := by omega
          go_wp2
          go_ret
          exact ⟨by rw [HQ.out, HN2.out]; rfl, B2.out⟩
      · have HN2 := Lib.hid (HN.out.trans (if_neg h1))
        clear HN HE
        have h2 : ¬ 30000 < wrap64 (m + x2.size) := by omega
        have h3 : ¬ (80 : Int) < k := by omega
        have H2 := Lib.hid (show wrap64 (m + x2.size) ≤ 30000 by omega)
        go_wp2
        go_roundw
        case rel => exact ⟨k + 1, _, by omega, by go_num, rfl, HN2.out, fun h => absurd h (Nat.succ_ne_zero _), fun _ => H2.out, BX.out⟩
        case measure => simp [intOf]; omega
    · have B2 := Lib.hid (then_below B0.out HB.out)
      have e1 : longB 0 a.size l = false := by rw [HE.out, List.drop_of_length_le (by omega)]; rfl
      have HQ := Lib.hid (show longP a l = decide (30000 < m) by
        unfold longP
        split
        · rename_i h
          have : k = 0 := by rw [h] at hk; exact Nat.le_zero.1 hk
          rw [H0.out this]
          exact decide_eq_decide.2 (by omega)
        · rename_i h
          have : 0 < l.length := by cases l with
            | nil => exact absurd rfl h
            | cons => simp
          rw [e1, decide_eq_false (by have := H1.out (by omega); omega)])
      clear HE H0 H1
      go_wp2
      go_ret
      exact ⟨by rw [HQ.out]; rfl, B2.out⟩

theorem longB_few : ∀ (l : List At) (i : Nat) (n : Int), longB i n l = false → i ≤ 81 → i + l.length ≤ 81
  | [], i, _, _, h => by simpa using h
  | a :: l, i, n, h, _ => by
    rw [longB] at h
    split at h
    · cases h
    · rename_i h2
      have := longB_few l (i + 1) _ h (by omega)
      rw [List.length_cons]
      omega

/-- A packet that the law goes through has few attributes. -/
theorem longP_few {a : ByteArray} {l : List At} (h : longP a l = false) : l.length ≤ 81 := by
  unfold longP at h
  split at h
  · rename_i e
    rw [e]
    exact Nat.zero_le _
  · have := longB_few l 0 _ h (by omega)
    omega

end Pac
end Go.Proofs.YtaeeonohakkgbaaDoor
