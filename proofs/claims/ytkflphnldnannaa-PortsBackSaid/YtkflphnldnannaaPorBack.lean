/-
  The statement PortsBack: for every set, port and text the law PortsBack returns true, and its arguments read afterwards as they read before.
-/
import Derived.Test.YtkflphnldnannaaPorAwake
import Derived.Test.YtkflphnldnannaaFrame
import Derived.Test.YtkflphnldnannaaRows
namespace Go.Proofs.Ytkflphnldnannaa
open Go.RowKit
namespace Por

theorem and_set2 (x : Int) : bits BinOp.and IntKind.i64 x 255 = ((low x : Nat) : Int) := by rw [and255]; unfold low; omega

theorem rem_eight (n : Int) : ∃ r : Nat, r < 8 ∧ wrap64 ((IntKind.u64.wrap n).tmod 8) = r := by
  have h0 : 0 ≤ IntKind.u64.wrap n := by rw [IntKind.wrap_u64]; omega
  refine ⟨((IntKind.u64.wrap n) % 8).toNat, by omega, ?_⟩
  rw [Int.tmod_eq_emod_of_nonneg h0]
  unfold wrap64
  omega

theorem back_text (m : Nat) (h : m < 256) : valT (textB m) = m ∧ errT (textB m) = 0 := by
  have := (readT_some (textB m) m).2 ⟨h, (textB_list m).symm⟩
  unfold valT errT
  rw [this]
  exact ⟨rfl, rfl⟩

theorem read_ways (s : ByteArray) : (valT s = 0 ∧ errT s = 3) ∨ (valT s < 256 ∧ errT s = 0 ∧ textB (valT s) = s) := by
  cases h : readT s with
  | none =>
    left
    unfold valT errT
    rw [h]
    exact ⟨rfl, rfl⟩
  | some m =>
    right
    obtain ⟨h1, h2⟩ := (readT_some s m).1 h
    have h3 : valT s = m := by unfold valT; rw [h]; rfl
    rw [h3]
    exact ⟨h1, by unfold errT; rw [h]; rfl, (bytes_eq s _).2 h2⟩

theorem textB_size : ∀ m : Nat, (textB m).size ≤ 8 := by
  intro m
  show (textL m).toArray.size ≤ 8
  unfold textL
  split
  · decide
  · simpa using digL_len m 8

set_option maxRecDepth 100000 in
set_option maxHeartbeats 2000000 in
theorem law_back (w : World) (x : Int) (_wx : (Lit.int .i64 x).wf = true) (p : Int) (_wp : (Lit.int .i64 p).wf = true) (s : ByteArray) (_ws : s.size ≤ maxLen) :
    Calls Try.prog 4 #[.int .i64 x, .int .i64 p, .string s] w fun e w' => e = .returned (.bool true) ∧ Below w.heap.size w w' := by
  have HA := Lib.hid (awake_any)
  by_cases hl : 300 < s.size
  · have bel := Bx.bel_refl w
    go_enter Try.func4, Try.ntmps4
    go_wp2_with fail
    refine (HA.out _).mono ?_; rintro e w1 ⟨rfl, hb1⟩
    replace bel := Bx.then_below bel hb1
    clear hb1
    go_wp2
    go_ret
    exact ⟨rfl, bel⟩
  · have bel := Bx.bel_refl w
    have T1 := Lib.hid (text_any x)
    have P1 := Lib.hid (fun w => parse_any (textB (low x)) w (by have := textB_size (low x); omega))
    rw [(back_text _ (low_lt x)).1, (back_text _ (low_lt x)).2] at P1
    have hand := and_set2 x
    have hm := low_lt x
    have P2 := Lib.hid (fun w => parse_any s w (by omega))
    obtain ⟨j, hj, hre⟩ := rem_eight p
    have hj8 : 0 ≤ (j : Int) ∧ (j : Int) < 8 := by omega
    have W1 := Lib.hid (with_any x j)
    have U1 := Lib.hid (without_any x j)
    have H1 := Lib.hid (has_is (withI x j) j true (has_with x j hj8))
    have H2 := Lib.hid (has_is (withoutI x j) j false (has_without x j hj8))
    have W2 := Lib.hid (with_any (withoutI x j) j)
    rw [with_without] at W2
    have U2 := Lib.hid (without_any (withI x j) j)
    rw [without_with] at U2
    generalize withI x j = X at *
    generalize withoutI x j = O at *
    have hways := read_ways s
    generalize textB (low x) = T at *
    generalize low x = m at *
    rcases hways with ⟨v1, v2⟩ | ⟨v0, v1, v2⟩
    · rw [v1, v2] at P2
      clear v1 v2
      go_enter Try.func4, Try.ntmps4
      go_wp2_with fail
      refine (T1.out _).mono ?_; rintro e w1 ⟨rfl, hb1⟩
      replace bel := Bx.then_below bel hb1
      clear hb1
      go_wp2_with fail
      refine (P1.out _).mono ?_; rintro e w2 ⟨rfl, hb2⟩
      replace bel := Bx.then_below bel hb2
      clear hb2
      go_wp2_with fail
      refine (P2.out _).mono ?_; rintro e w3 ⟨rfl, hb3⟩
      replace bel := Bx.then_below bel hb3
      clear hb3
      go_wp2_with fail
      refine (W1.out _).mono ?_; rintro e w' ⟨rfl, rfl⟩
      go_wp2_with fail
      refine (U1.out _).mono ?_; rintro e w' ⟨rfl, rfl⟩
      go_wp2_with fail
      refine (H1.out _).mono ?_; rintro e w' ⟨rfl, rfl⟩
      go_wp2_with fail
      refine (H2.out _).mono ?_; rintro e w' ⟨rfl, rfl⟩
      go_wp2_with fail
      refine (W2.out _).mono ?_; rintro e w' ⟨rfl, rfl⟩
      go_wp2_with fail
      refine (U2.out _).mono ?_; rintro e w' ⟨rfl, rfl⟩
      go_wp2_with fail
      refine (HA.out _).mono ?_; rintro e w9 ⟨rfl, hb9⟩
      replace bel := Bx.then_below bel hb9
      clear hb9
      go_wp2
      go_ret
      exact ⟨rfl, bel⟩
    · have T2 := Lib.hid (text_any (valT s))
      rw [low_nat _ v0, v2] at T2
      rw [v1] at P2
      generalize valT s = b at *
      clear v1 v2
      go_enter Try.func4, Try.ntmps4
      go_wp2_with fail
      refine (T1.out _).mono ?_; rintro e w1 ⟨rfl, hb1⟩
      replace bel := Bx.then_below bel hb1
      clear hb1
      go_wp2_with fail
      refine (P1.out _).mono ?_; rintro e w2 ⟨rfl, hb2⟩
      replace bel := Bx.then_below bel hb2
      clear hb2
      go_wp2_with fail
      refine (P2.out _).mono ?_; rintro e w3 ⟨rfl, hb3⟩
      replace bel := Bx.then_below bel hb3
      clear hb3
      go_wp2_with fail
      refine (T2.out _).mono ?_; rintro e w4 ⟨rfl, hb4⟩
      replace bel := Bx.then_below bel hb4
      clear hb4
      go_wp2_with fail
      refine (W1.out _).mono ?_; rintro e w' ⟨rfl, rfl⟩
      go_wp2_with fail
      refine (U1.out _).mono ?_; rintro e w' ⟨rfl, rfl⟩
      go_wp2_with fail
      refine (H1.out _).mono ?_; rintro e w' ⟨rfl, rfl⟩
      go_wp2_with fail
      refine (H2.out _).mono ?_; rintro e w' ⟨rfl, rfl⟩
      go_wp2_with fail
      refine (W2.out _).mono ?_; rintro e w' ⟨rfl, rfl⟩
      go_wp2_with fail
      refine (U2.out _).mono ?_; rintro e w' ⟨rfl, rfl⟩
      go_wp2_with fail
      refine (HA.out _).mono ?_; rintro e w9 ⟨rfl, hb9⟩
      replace bel := Bx.then_below bel hb9
      clear hb9
      go_wp2
      go_ret
      exact ⟨rfl, bel⟩

end Por

namespace LawPortsBack
open Go.ChangeShapes Go.WideShapes Go.ChangeAt Go.RowKit
open Go.ChangeMaps (open_string shut_string)

theorem own : ownKnob Try.prog.godebug = none := by kernel_rfl
theorem laidOut : laidOutB Try.prog = true := by kernel_rfl

set_option maxRecDepth 100000 in
theorem lifted (os : Os) (started : os.Started) (H : Type) (enc : TypeId × Value → H) :
    ReturnsInHanded {} Try.checked os 4 .any (Rows.portsBackSpec.pre6 enc Try.prog Try.f4 Rows.portsBackRow.domain false) (Rows.portsBackSpec.post enc Try.prog Try.f4 false true false false) := by
  refine Fr.law_lift (C := Try.checked) (tb := 4) own started (by kernel_rfl) Try.func4
    (ChangeSpec.witness6 (enc := enc) (C := Try.checked) false ⟨#[], #[.int .i64 0, .int .i64 0, .string ByteArray.empty], []⟩ 8 (by kernel_rfl) (by kernel_rfl) (by kernel_rfl) (by kernel_rfl))
    laidOut (by rw [Try.params4]; decide +kernel) rfl Try.underlying4 rfl ?_ ?_
  · intro ds hl
    match ds, hl with
    | [d0, d1, d2], _ => rfl
  · intro W base args ds p hval hA
    rw [Try.params4] at hA hval
    obtain ⟨v0, vs0, d0, ds0, p0, q0, hargs, rfl, rfl, h0, r0⟩ := trodAll_cons hA
    obtain ⟨v1, vs1, d1, ds1, p1, q1, rfl, rfl, rfl, h1, r1⟩ := trodAll_cons r0
    obtain ⟨v2, vs2, d2, ds2, p2, q2, rfl, rfl, rfl, h2, r2⟩ := trodAll_cons r1
    obtain ⟨rfl, rfl, rfl⟩ := trodAll_nil r2
    obtain rfl : args = #[v0, v1, v2] := by cases args; simp_all
    obtain ⟨a0, rfl, rfl, rfl, w0⟩ := open_int Try.underlying3 (hval 0 3 v0 rfl rfl) h0
    obtain ⟨a1, rfl, rfl, rfl, w1⟩ := open_int Try.underlying3 (hval 1 3 v1 rfl rfl) h1
    obtain ⟨a2, rfl, rfl, rfl, w2⟩ := open_string Try.underlying9 (hval 2 9 v2 rfl rfl) h2
    exact Por.law_back W a0 w0 a1 w1 a2 w2

theorem over : Rows.portsBackRow.holds Try.pinned (OpenSpec.ofChange Rows.portsBackSpec) :=
  OpenClaim.holds_of_wide 4 Try.f4 rfl rfl rfl rfl rfl rfl rfl ⟨rfl, rfl, rfl, rfl, rfl⟩ rfl rfl rfl rfl rfl (by kernel_rfl) Try.func4 (by kernel_rfl)
    (of_decide_eq_true (by kernel_rfl)) (by unfold Func.isWrapper; first | (rw [if_pos (by decide +kernel)]; kernel_rfl) | (rw [if_neg (by decide +kernel)]; exact ⟨rfl, rfl⟩))
    (fun os started H enc _ => lifted os started H enc)
end LawPortsBack

/-- The statement PortsBack. -/
theorem portsBack_holds : Rows.PortsBackSaid := LawPortsBack.over
end Go.Proofs.Ytkflphnldnannaa
