/-
  The statement AttrFinds: for every slice of attributes and every number the law AttrFinds returns true, and its arguments read afterwards as they read before.
-/
import Derived.Test.YtjocabnhdifedaaAttN
import Derived.Test.YtjocabnhdifedaaAttReach
import Derived.Test.YtjocabnhdifedaaRows
namespace Go.Proofs.Ytjocabnhdifedaa
open Go.RowKit
namespace Att
open Oct

set_option maxHeartbeats 1000000 in
theorem finds_long (l : List At) (hl : l.length ≤ maxLen) (A : Option Addr) (c : Nat) (kind : Int) (w : World) (hA : Ats w A l) (hb : longB 0 0 l = true) :
    Calls Try.prog 7 #[.slice A l.length c, .int .i64 kind] w fun e w' => e = .returned (.bool true) ∧ Below w.heap.size w w' := by
  have HG := Lib.hid (guard_any l hl A c w hA)
  rw [hb] at HG
  go_enter Try.func7, Try.ntmps7
  go_wp2_with fail
  refine HG.out.mono ?_; rintro e w1 ⟨rfl, hb1⟩
  have B1 := Lib.hid hb1
  go_wp2_with fail
  refine (awake_any _).mono ?_; rintro e w2 ⟨rfl, hb2⟩
  have B2 := Lib.hid (Bx.then_below B1.out hb2)
  go_wp2_with fail
  go_ret
  exact ⟨rfl, B2.out⟩

set_option maxHeartbeats 4000000 in
theorem finds_none (l : List At) (A : Option Addr) (c : Nat) (kind : Int) (w : World) (hA : Ats w A l)
    (HG : Hid (∀ w, Ats w A l → Calls Try.prog 8 #[.slice A l.length c] w fun e w' => e = .returned (.bool false) ∧ Below w.heap.size w w'))
    (HAL : Hid (∀ w, Ats w A l → Calls Try.prog 16 #[.slice A l.length c, .int .i64 kind] w (GivesT ([] : List ByteArray) w)))
    (HF : Hid (∀ w, Ats w A l → Calls Try.prog 14 #[.slice A l.length c, .int .i64 kind] w fun e w' => e = .returned (.tuple #[.string ⟨#[]⟩, .bool false]) ∧ Below w.heap.size w w'))
    (HJ : Hid (∀ w, Ats w A l → Calls Try.prog 21 #[.slice A l.length c, .int .i64 kind] w fun e w' => e = .returned (.string (catS ([] : List ByteArray))) ∧ Below w.heap.size w w')) :
    Calls Try.prog 7 #[.slice A l.length c, .int .i64 kind] w fun e w' => e = .returned (.bool true) ∧ Below w.heap.size w w' := by
  have A0 := Lib.hid hA
  clear hA
  go_enter Try.func7, Try.ntmps7
  go_wp2_with fail
  refine (HG.out _ A0.out).mono ?_; rintro e w1 ⟨rfl, hb1⟩
  have B1 := Lib.hid hb1
  have A1 := Lib.hid (A0.out.below hb1)
  clear hb1 A0 HG
  go_wp2_with fail
  refine (HAL.out _ A1.out).mono ?_; rintro e w2 ⟨B, d, rfl, hd, ht2, hb2⟩
  have B2 := Lib.hid (Bx.then_below B1.out hb2)
  have A2 := Lib.hid (A1.out.below hb2)
  have T2 := Lib.hid ht2
  clear hb2 ht2 B1 A1
  go_wp2_with fail
  refine (HF.out _ A2.out).mono ?_; rintro e w3 ⟨rfl, hb3⟩
  have B3 := Lib.hid (Bx.then_below B2.out hb3)
  have A3 := Lib.hid (A2.out.below hb3)
  have T3 := Lib.hid (T2.out.below hb3)
  clear hb3 B2 A2 T2
  go_wp2
  go_loopw [8, 10, 48] (fun s _ ix wr => ∃ k : Nat, k ≤ (([] : List ByteArray)).length ∧ ix = .int .i64 k ∧ s = .string (catS ((([] : List ByteArray)).take k)) ∧ wr = w3) (fun _ _ ix _ => (([] : List ByteArray)).length - (intOf ix).toNat)
  case atStart => exact ⟨0, Nat.zero_le _, rfl, rfl, rfl⟩
  case round =>
    obtain ⟨k, hk, rfl, rfl, rfl⟩ := hrel
    by_cases hlt : k < (([] : List ByteArray)).length
    · exact absurd hlt (Nat.not_lt_zero _)
    · have HN := Lib.hid (show catS ((([] : List ByteArray)).take k) = catS (([] : List ByteArray)) by rw [List.take_of_length_le (by omega)])
      rw [HN.out]
      generalize catS ([] : List ByteArray) = S at *
      go_wp2_with fail
      refine (HJ.out _ A3.out).mono ?_; rintro e w4 ⟨rfl, hb4⟩
      have B4 := Lib.hid (Bx.then_below B3.out hb4)
      go_wp2_with fail
      refine (awake_any _).mono ?_; rintro e w5 ⟨rfl, hb5⟩
      have B5 := Lib.hid (Bx.then_below B4.out hb5)
      go_wp2_with fail
      go_ret
      exact ⟨rfl, B5.out⟩

set_option maxHeartbeats 4000000 in
theorem finds_some (l : List At) (A : Option Addr) (c : Nat) (kind : Int) (w : World) (hA : Ats w A l) (R : List ByteArray) (v : ByteArray) (hv : R[0]? = some v) (hx : (catS R).size ≤ 1048576) (hn : (R).length ≤ 1000)
    (HG : Hid (∀ w, Ats w A l → Calls Try.prog 8 #[.slice A l.length c] w fun e w' => e = .returned (.bool false) ∧ Below w.heap.size w w'))
    (HAL : Hid (∀ w, Ats w A l → Calls Try.prog 16 #[.slice A l.length c, .int .i64 kind] w (GivesT R w)))
    (HF : Hid (∀ w, Ats w A l → Calls Try.prog 14 #[.slice A l.length c, .int .i64 kind] w fun e w' => e = .returned (.tuple #[.string v, .bool true]) ∧ Below w.heap.size w w'))
    (HJ : Hid (∀ w, Ats w A l → Calls Try.prog 21 #[.slice A l.length c, .int .i64 kind] w fun e w' => e = .returned (.string (catS R)) ∧ Below w.heap.size w w')) :
    Calls Try.prog 7 #[.slice A l.length c, .int .i64 kind] w fun e w' => e = .returned (.bool true) ∧ Below w.heap.size w w' := by
  have A0 := Lib.hid hA
  clear hA
  go_enter Try.func7, Try.ntmps7
  go_wp2_with fail
  refine (HG.out _ A0.out).mono ?_; rintro e w1 ⟨rfl, hb1⟩
  have B1 := Lib.hid hb1
  have A1 := Lib.hid (A0.out.below hb1)
  clear hb1 A0 HG
  go_wp2_with fail
  refine (HAL.out _ A1.out).mono ?_; rintro e w2 ⟨B, d, rfl, hd, ht2, hb2⟩
  have B2 := Lib.hid (Bx.then_below B1.out hb2)
  have A2 := Lib.hid (A1.out.below hb2)
  have T2 := Lib.hid ht2
  clear hb2 ht2 B1 A1
  go_wp2_with fail
  refine (HF.out _ A2.out).mono ?_; rintro e w3 ⟨rfl, hb3⟩
  have B3 := Lib.hid (Bx.then_below B2.out hb3)
  have A3 := Lib.hid (A2.out.below hb3)
  have T3 := Lib.hid (T2.out.below hb3)
  clear hb3 B2 A2 T2
  have hv' := hv
  obtain ⟨b0, o0, rfl, _, c0⟩ := T3.out 0 v hv
  rw [Nat.add_zero] at c0
  have hpos : (0 : Int) < R.length := by
    have := (List.getElem?_eq_some_iff.1 hv').1
    omega
  have hpos' : 0 < R.length := by omega
  go_wp2
  go_loopw [8, 10, 48] (fun s _ ix wr => ∃ k : Nat, k ≤ (R).length ∧ ix = .int .i64 k ∧ s = .string (catS ((R).take k)) ∧ wr = w3) (fun _ _ ix _ => (R).length - (intOf ix).toNat)
  case atStart => exact ⟨0, Nat.zero_le _, rfl, rfl, rfl⟩
  case round =>
    obtain ⟨k, hk, rfl, rfl, rfl⟩ := hrel
    by_cases hlt : k < (R).length
    · obtain ⟨b, o, eb, _, c1⟩ := T3.out.at hlt
      cases eb
      have HN := Lib.hid (catS_take R k hlt)
      have z1 : ¬ ((catS (R.take k)).size + R[k].size > 9223372036854775807) := by
        have e1 := catS_le R (k + 1)
        rw [HN.out, ByteArray.size_append] at e1
        omega
      generalize R[k] = y at *
      generalize catS (R.take k) = s at *
      go_wp2
      go_roundw
      case rel => exact ⟨k + 1, by omega, by go_num, by rw [HN.out], trivial⟩
      case measure => simp [intOf]; omega
    · have HN := Lib.hid (show catS ((R).take k) = catS (R) by rw [List.take_of_length_le (by omega)])
      rw [HN.out]
      generalize catS R = S at *
      go_wp2_with fail
      refine (HJ.out _ A3.out).mono ?_; rintro e w4 ⟨rfl, hb4⟩
      have B4 := Lib.hid (Bx.then_below B3.out hb4)
      go_wp2_with fail
      refine (awake_any _).mono ?_; rintro e w5 ⟨rfl, hb5⟩
      have B5 := Lib.hid (Bx.then_below B4.out hb5)
      go_wp2_with fail
      go_ret
      exact ⟨rfl, B5.out⟩

theorem walk_finds (w : World) (l : List At) (hl : l.length ≤ maxLen) (A : Option Addr) (c : Nat) (hA : Ats w A l) (hz : ∀ x ∈ l, x.2.size ≤ 140737488351232) (kind : Int) (_hk : (Lit.int .i64 kind).wf = true) :
    Calls Try.prog 7 #[.slice A l.length c, .int .i64 kind] w fun e w' => e = .returned (.bool true) ∧ Below w.heap.size w w' := by
  cases hb : longB 0 0 l with
  | true => exact finds_long l hl A c kind w hA hb
  | false =>
    have h81 := longB_le l 0 0 hb (by omega)
    have hs := longB_sum l 0 0 hb (by omega) hz
    have hc := cat_vals l kind
    have hl2 : l.length ≤ 1000 := by omega
    have hn := allV_length l kind
    have HG := Lib.hid (fun w h => guard_any l hl A c w h)
    rw [hb] at HG
    have HAL := Lib.hid (fun w h => all_any l hl2 kind A c w h)
    have HF := Lib.hid (fun w h => find_any l hl2 kind A c w h)
    have HJ := Lib.hid (fun w h => join_any l hl2 kind (by omega) A c w h)
    unfold findV at HF
    cases hR : allV l kind with
    | nil =>
      rw [hR] at HAL HF HJ
      exact finds_none l A c kind w hA HG HAL HF HJ
    | cons v r =>
      rw [hR] at HAL HF HJ hc hn
      exact finds_some l A c kind w hA (v :: r) v rfl (by omega) (by omega) HG HAL HF HJ

end Att
namespace LawAttrFinds
open Go.ChangeShapes Go.WideShapes Go.ChangeAt Go.RowKit
open Go.ChangeMaps (open_string shut_string)

theorem own : ownKnob Try.prog.godebug = none := by kernel_rfl
theorem laidOut : laidOutB Try.prog = true := by kernel_rfl

set_option maxRecDepth 100000 in
theorem lifted (os : Os) (started : os.Started) (H : Type) (enc : TypeId × Value → H) :
    ReturnsInHanded {} Try.checked os 7 .any (Rows.attrFindsSpec.pre6 enc Try.prog Try.f7 Rows.attrFindsRow.domain false) (Rows.attrFindsSpec.post enc Try.prog Try.f7 false true false false) := by
  refine Fr.law_lift_sized (C := Try.checked) (tb := 4) own started (by kernel_rfl) Try.func7
    (ChangeSpec.witness6 (enc := enc) (C := Try.checked) false ⟨#[], #[.slice none 0 0, .int .i64 0], []⟩ 8 (by kernel_rfl) (by kernel_rfl) (by kernel_rfl) (by kernel_rfl))
    laidOut (by rw [Try.params7]; decide +kernel) rfl Try.underlying4 rfl ?_ ?_
  · intro ds hl
    match ds, hl with
    | [d0, d1], _ => rfl
  · intro W base args ds p hval hA hz
    rw [Try.params7] at hA hval hz
    obtain ⟨v0, vs0, d0, ds0, p0, q0, hargs, rfl, rfl, h0, r0⟩ := trodAll_cons hA
    obtain ⟨v1, vs1, d1, ds1, p1, q1, rfl, rfl, rfl, h1, r1⟩ := trodAll_cons r0
    obtain ⟨rfl, rfl, rfl⟩ := trodAll_nil r1
    obtain rfl : args = #[v0, v1] := by cases args; simp_all
    obtain ⟨A0, l0, c0, rfl, hl0, hA0, hz0⟩ := Att.open_reach (hval 0 22 v0 rfl rfl) h0 (hz 0 _ _ rfl rfl)
    obtain ⟨a1, rfl, rfl, rfl, w1⟩ := open_int Try.underlying3 (hval 1 3 v1 rfl rfl) h1
    exact Att.walk_finds W l0 hl0 A0 c0 hA0 hz0 a1 w1

theorem over : Rows.attrFindsRow.holds Try.pinned (OpenSpec.ofChange Rows.attrFindsSpec) :=
  OpenClaim.holds_of_wide 7 Try.f7 rfl rfl rfl rfl rfl rfl rfl ⟨rfl, rfl, rfl, rfl, rfl⟩ rfl rfl rfl rfl rfl (by kernel_rfl) Try.func7 (by kernel_rfl)
    (of_decide_eq_true (by kernel_rfl)) (by unfold Func.isWrapper; first | (rw [if_pos (by decide +kernel)]; kernel_rfl) | (rw [if_neg (by decide +kernel)]; exact ⟨rfl, rfl⟩))
    (fun os started H enc _ => lifted os started H enc)
end LawAttrFinds

/-- The statement AttrFinds. -/
theorem attrFinds_holds : Rows.AttrFindsSaid := LawAttrFinds.over

end Go.Proofs.Ytjocabnhdifedaa
