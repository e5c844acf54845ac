/-
  Loops over attributes: how long they are, whether all are right; and the document's answers beside them.
-/
import Derived.Test.YtaeeonohakkgbaaDoorAttA
namespace Go.Proofs.YtaeeonohakkgbaaDoor
open Go.RowKit
namespace Att
open Oct

theorem info_at : (Tryd.prog.info? 39).map (fun i => (i.zero, i.size, i.bytes)) = some (some (.agg #[.int .i64 0, .string ⟨#[]⟩]), 2, 24) := by kernel_rfl
theorem info_tx : (Tryd.prog.info? 9).map (fun i => (i.zero, i.size, i.bytes)) = some (some (.string ⟨#[]⟩), 1, 16) := by kernel_rfl

/-- How many bytes attributes have when they are written, as machines count. -/
def lgA (l : List At) : Int := l.foldl (fun n a => wrap64 (n + wrap64 (2 + a.2.size))) 0

theorem lgA_take (l : List At) (k : Nat) (h : k < l.length) : lgA (l.take (k + 1)) = wrap64 (lgA (l.take k) + wrap64 (2 + l[k].2.size)) := by
  rw [List.take_succ_eq_append_getElem h]
  unfold lgA
  rw [List.foldl_append]
  rfl

set_option maxHeartbeats 1000000 in
theorem length_any (l : List At) (hl : l.length ≤ maxLen) (A : Option Addr) (c : Nat) (w : World) (hA : Ats w A l) :
    Calls Tryd.prog 92 #[.slice A l.length c] w fun e w' => e = .returned (.int .i64 (lgA l)) ∧ Below w.heap.size w w' := by
  have HA := Lib.hid hA
  clear hA
  have hl' : l.length ≤ 9223372036854775807 := hl
  go_enter Tryd.func92, Tryd.ntmps92
  go_wp2
  go_loopw [3, 5, 8] (fun n _ ix wr => ∃ k : Nat, k ≤ l.length ∧ ix = .int .i64 k ∧ n = .int .i64 (lgA (l.take k)) ∧ Aside (Below w.heap.size w wr)) (fun _ _ ix _ => l.length - (intOf ix).toNat)
  case atStart => exact ⟨0, Nat.zero_le _, rfl, rfl, Below.refl _ _⟩
  case round =>
    obtain ⟨k, hk, rfl, rfl, HB⟩ := hrel
    by_cases hlt : k < l.length
    · obtain ⟨b, o, rfl, _, c0, c1⟩ := (HA.out.below HB.out).at hlt
      have HN := Lib.hid (lgA_take l k hlt)
      have BX := Lib.hid (Bx.bel_box HB.out (Obj.cells #[.int .i64 l[k].1, .string l[k].2] 39))
      generalize l[k] = x at *
      obtain ⟨x1, x2⟩ := x
      simp only at c0 c1 HN BX
      generalize lgA (l.take k) = n at *
      go_wp2
      go_roundw
      case rel => exact ⟨k + 1, by omega, by go_num, by rw [HN.out], BX.out⟩
      case measure => simp [intOf]; omega
    · obtain rfl : k = l.length := by omega
      rw [List.take_length]
      go_wp2
      go_ret
      exact ⟨rfl, HB.out⟩

set_option maxHeartbeats 1000000 in
theorem allRight_any (l : List At) (hl : l.length ≤ maxLen) (A : Option Addr) (c : Nat) (w : World) (hA : Ats w A l) :
    Calls Tryd.prog 86 #[.slice A l.length c] w fun e w' => e = .returned (.bool (l.all rightA)) ∧ Below w.heap.size w w' := by
  have HA := Lib.hid hA
  have HR := Lib.hid right_any
  clear hA
  have hl' : l.length ≤ 9223372036854775807 := hl
  go_enter Tryd.func86, Tryd.ntmps86
  go_wp2
  go_loopw [4, 7] (fun _ ix wr => ∃ k : Nat, k ≤ l.length ∧ ix = .int .i64 k ∧ Aside (l.all rightA = (l.drop k).all rightA) ∧ Aside (Below w.heap.size w wr)) (fun _ ix _ => l.length - (intOf ix).toNat)
  case atStart => exact ⟨0, Nat.zero_le _, rfl, rfl, Below.refl _ _⟩
  case round =>
    obtain ⟨k, hk, rfl, HE, HB⟩ := hrel
    by_cases hlt : k < l.length
    · obtain ⟨b, o, rfl, _, c0, c1⟩ := (HA.out.below HB.out).at hlt
      have HN := Lib.hid (show l.all rightA = (rightA l[k] && (l.drop (k + 1)).all rightA) by rw [HE.out, List.drop_eq_getElem_cons hlt, List.all_cons])
      have BX := Lib.hid (Bx.bel_box HB.out (Obj.cells #[.int .i64 l[k].1, .string l[k].2] 39))
      generalize l[k] = x at *
      obtain ⟨x1, x2⟩ := x
      simp only at c0 c1 BX
      have HR' := Lib.hid (fun w => HR.out (x1, x2) w)
      generalize rightA (x1, x2) = r at *
      cases r with
      | false =>
        go_wp2_with fail
        refine (HR'.out _).mono ?_; rintro e w1 ⟨rfl, hb1⟩
        have B2 := Lib.hid (Bx.then_below BX.out hb1)
        go_wp2_with fail
        go_ret
        exact ⟨by rw [HN.out]; rfl, B2.out⟩
      | true =>
        go_wp2_with fail
        refine (HR'.out _).mono ?_; rintro e w1 ⟨rfl, hb1⟩
        have B2 := Lib.hid (Bx.then_below BX.out hb1)
        go_wp2_with fail
        go_roundw
        case rel => exact ⟨k + 1, by omega, by go_num, HN.out.trans (Bool.true_and _), B2.out⟩
        case measure => simp [intOf]; omega
    · have e1 : l.all rightA = true := by rw [HE.out, List.drop_of_length_le (by omega)]; rfl
      go_wp2
      go_ret
      exact ⟨by rw [e1]; rfl, HB.out⟩

/-- What the law's guard says: more than 30000 bytes, or more than 81 attributes. -/
def longB : Nat → Int → List At → Bool
  | _, _, [] => false
  | i, n, a :: l => if wrap64 (n + a.2.size) > 30000 ∨ i > 80 then true else longB (i + 1) (wrap64 (n + a.2.size)) l

end Att
end Go.Proofs.YtaeeonohakkgbaaDoor
