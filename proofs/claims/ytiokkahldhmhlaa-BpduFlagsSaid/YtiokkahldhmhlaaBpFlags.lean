/-
  The statement BpduFlags: for every two that are told the law BpduFlags returns true, and its arguments read afterwards as they read before.
-/
import Derived.Test.YtiokkahldhmhlaaBpFlagsA
import Derived.Test.YtiokkahldhmhlaaFrame
namespace Go.Proofs.Ytiokkahldhmhlaa
open Go.RowKit
namespace Bpd
open Oct Mac Eth Epl

theorem walk_flags (w : World) (a : Bp) (_hr : a.r < 18446744073709551616) (_hc : a.c < 18446744073709551616) (_hg : a.g < 18446744073709551616) (b : Bp) (_hr' : b.r < 18446744073709551616) (_hc' : b.c < 18446744073709551616) (_hg' : b.g < 18446744073709551616) :
    Calls Try.prog 5 #[bp a, bp b] w fun e w' => e = .returned (.bool true) ∧ Below w.heap.size w w' := by
  have HF := Lib.hid fun w => flags_any a w
  have HG := Lib.hid fun w => flags_any b w
  have hF := flagN_lt a
  have ne : ∀ h : flagN a ≠ flagN b, (((flagN a : Nat) : Int) == ((flagN b : Nat) : Int)) = false := fun h => by rw [beq_eq_false_iff_ne]; omega
  by_cases h0 : a.ch = b.ch
  case neg => exact flags_0 a b _ _ w hF (ne fun h => h0 (flag_inj h).1) (by simpa using h0) HF HG
  by_cases h1 : a.pr = b.pr
  case neg => exact flags_1 a b _ _ w hF (ne fun h => h1 (flag_inj h).2.1) (by simpa using h0) (by simpa using h1) HF HG
  have e2 : (bits BinOp.and IntKind.i64 a.ro 3 == bits BinOp.and IntKind.i64 b.ro 3) = (a.ro % 4 == b.ro % 4) := by rw [and3, and3]
  by_cases h2 : a.ro % 4 = b.ro % 4
  case neg => exact flags_2 a b _ _ w hF (ne fun h => h2 (flag_inj h).2.2.1) (by simpa using h0) (by simpa using h1) (by rw [e2]; simpa using h2) HF HG
  have q2 : (bits BinOp.and IntKind.i64 a.ro 3 == bits BinOp.and IntKind.i64 b.ro 3) = true := by rw [e2]; simpa using h2
  by_cases h3 : a.le = b.le
  case neg => exact flags_3 a b _ _ w hF (ne fun h => h3 (flag_inj h).2.2.2.1) (by simpa using h0) (by simpa using h1) q2 (by simpa using h3) HF HG
  by_cases h4 : a.fo = b.fo
  case neg => exact flags_4 a b _ _ w hF (ne fun h => h4 (flag_inj h).2.2.2.2.1) (by simpa using h0) (by simpa using h1) q2 (by simpa using h3) (by simpa using h4) HF HG
  by_cases h5 : a.ag = b.ag
  case neg => exact flags_5 a b _ _ w hF (ne fun h => h5 (flag_inj h).2.2.2.2.2.1) (by simpa using h0) (by simpa using h1) q2 (by simpa using h3) (by simpa using h4) (by simpa using h5) HF HG
  by_cases h6 : a.ac = b.ac
  case neg => exact flags_6 a b _ _ w hF (ne fun h => h6 (flag_inj h).2.2.2.2.2.2) (by simpa using h0) (by simpa using h1) q2 (by simpa using h3) (by simpa using h4) (by simpa using h5) (by simpa using h6) HF HG
  exact flags_7 a b _ _ w hF (by rw [beq_iff_eq, flag_same h0 h1 h2 h3 h4 h5 h6]) (by simpa using h0) (by simpa using h1) q2 (by simpa using h3) (by simpa using h4) (by simpa using h5) (by simpa using h6) HF HG

end Bpd
namespace LawBpduFlags
open Go.ChangeShapes Go.WideShapes Go.ChangeAt Go.RowKit
open Go.ChangeMaps (open_string shut_string)

theorem own : ownKnob Try.prog.godebug = none := by kernel_rfl
theorem laidOut : laidOutB Try.prog = true := by kernel_rfl

set_option maxRecDepth 100000 in
theorem lifted (os : Os) (started : os.Started) (H : Type) (enc : TypeId × Value → H) :
    ReturnsInHanded {} Try.checked os 5 .any (Rows.bpduFlagsSpec.pre6 enc Try.prog Try.f5 Rows.bpduFlagsRow.domain false) (Rows.bpduFlagsSpec.post enc Try.prog Try.f5 false true false false) := by
  refine Fr.law_lift (C := Try.checked) (tb := 4) own started (by kernel_rfl) Try.func5
    (ChangeSpec.witness6 (enc := enc) (C := Try.checked) false ⟨#[], #[.agg #[.int .i64 0, .bool false, .bool false, .int .i64 0, .bool false, .bool false, .bool false, .bool false, .int .u64 0, .int .u64 0, .int .u64 0, .int .i64 0, .int .i64 0, .int .i64 0, .int .i64 0, .int .i64 0], .agg #[.int .i64 0, .bool false, .bool false, .int .i64 0, .bool false, .bool false, .bool false, .bool false, .int .u64 0, .int .u64 0, .int .u64 0, .int .i64 0, .int .i64 0, .int .i64 0, .int .i64 0, .int .i64 0]], []⟩ 8 (by kernel_rfl) (by kernel_rfl) (by kernel_rfl) (by kernel_rfl))
    laidOut (by rw [Try.params5]; decide +kernel) rfl Try.underlying4 rfl ?_ ?_
  · intro ds hl
    match ds, hl with
    | [d0, d1], _ => rfl
  · intro W base args ds p hval hA
    rw [Try.params5] at hA hval
    obtain ⟨v0, vs0, d0, ds0, p0, q0, hargs, rfl, rfl, h0, r0⟩ := trodAll_cons hA
    obtain ⟨v1, vs1, d1, ds1, p1, q1, rfl, rfl, rfl, h1, r1⟩ := trodAll_cons r0
    obtain ⟨rfl, rfl, rfl⟩ := trodAll_nil r1
    obtain rfl : args = #[v0, v1] := by cases args; simp_all
    obtain ⟨b0, rfl, hr0, hc0, hg0⟩ := Bpd.open_bpdu (hval 0 26 v0 rfl rfl) h0
    obtain ⟨b1, rfl, hr1, hc1, hg1⟩ := Bpd.open_bpdu (hval 1 26 v1 rfl rfl) h1
    exact Bpd.walk_flags W b0 hr0 hc0 hg0 b1 hr1 hc1 hg1

theorem over : Rows.bpduFlagsRow.holds Try.pinned (OpenSpec.ofChange Rows.bpduFlagsSpec) :=
  OpenClaim.holds_of_wide 5 Try.f5 rfl rfl rfl rfl rfl rfl rfl ⟨rfl, rfl, rfl, rfl, rfl⟩ rfl rfl rfl rfl rfl (by kernel_rfl) Try.func5 (by kernel_rfl)
    (of_decide_eq_true (by kernel_rfl)) (by unfold Func.isWrapper; first | (rw [if_pos (by decide +kernel)]; kernel_rfl) | (rw [if_neg (by decide +kernel)]; exact ⟨rfl, rfl⟩))
    (fun os started H enc _ => lifted os started H enc)
end LawBpduFlags

/-- The statement BpduFlags. -/
theorem bpduFlags_holds : Rows.BpduFlagsSaid := LawBpduFlags.over

end Go.Proofs.Ytiokkahldhmhlaa
