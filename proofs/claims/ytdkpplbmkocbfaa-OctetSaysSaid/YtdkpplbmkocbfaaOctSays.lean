/-
  The statement OctetSays: for every number, text and two numbers the law OctetSays returns true, and its arguments read afterwards as they read before.
-/
import Derived.Test.YtdkpplbmkocbfaaOctSaysA
import Derived.Test.YtdkpplbmkocbfaaOctRef
namespace Go.Proofs.Ytdkpplbmkocbfaa
open Go.RowKit
namespace Oct

theorem wf_i64 {n : Int} (h : (Lit.int .i64 n).wf = true) : -9223372036854775808 ≤ n ∧ n ≤ 9223372036854775807 := by
  simpa [Lit.wf, IntKind.min, IntKind.max, IntKind.signed, IntKind.bits] using h

set_option maxHeartbeats 400000 in
theorem law_says (w : World) (n : Int) (wn : (Lit.int .u64 n).wf = true) (s : ByteArray) (ws : s.size ≤ maxLen) (a b : Int) (_wa : (Lit.int .i64 a).wf = true) (wb : (Lit.int .i64 b).wf = true) :
    Calls Try.prog 3 #[.int .u64 n, .string s, .agg #[.int .i64 a, .int .i64 b]] w fun e w' => e = .returned (.bool true) ∧ Below w.heap.size w w' := by
  unfold maxLen at ws
  have wn' : 0 ≤ n ∧ n ≤ 18446744073709551615 := by simpa [Lit.wf, IntKind.min, IntKind.max, IntKind.signed, IntKind.bits] using wn
  have wb' := wf_i64 wb
  obtain ⟨n, rfl⟩ := Int.eq_ofNat_of_zero_le wn'.1
  have hn : n < 18446744073709551616 := by omega
  clear wn wn' wb
  by_cases hs : 600 < s.size
  · go_enter Try.func3, Try.ntmps3
    go_wp2_with fail
    refine (awake_any _).mono ?_; rintro e w1 ⟨rfl, hb1⟩
    go_wp2_with fail
    go_ret
    exact ⟨rfl, ((Below.refl _ _).alloc (Nat.le_refl _) _).trans (hb1.mono (by simp))⟩
  · exact says_core w n _ s _ _ _ _ _ a b _ _ _ _ (by omega)
      (fun w => get_any s a b w (by omega) wb'.2) (fun w => rget_any s a b w (by omega)) (fun w => cut_any s a b w (by omega) wb'.2) (fun w => rcut_any s a b w (by omega) wb'.2)
      (fun w => unhex_any s w (by omega)) (fun w => runhex_any s w (by omega)) (fun w => put_any n hn b w) (fun w => rput_any n hn b w)
      (fun w => pad_any s a w (by omega)) (fun w => rpad_any s a w (by omega)) (fun w => hex_any s w (by omega)) (fun w => rhex_any s w (by omega))
      (fun w => same_any s _ w (by omega)) (fun w => rsame_any s _ w (by omega))

end Oct

namespace LawOctetSays
open Go.ChangeShapes Go.WideShapes Go.ChangeAt Go.RowKit
open Go.ChangeMaps (open_string shut_string)

theorem own : ownKnob Try.prog.godebug = none := by kernel_rfl
theorem laidOut : laidOutB Try.prog = true := by kernel_rfl

set_option maxRecDepth 100000 in
theorem lifted (os : Os) (started : os.Started) (H : Type) (enc : TypeId × Value → H) :
    ReturnsInHanded {} Try.checked os 3 .any (Rows.octetSaysSpec.pre6 enc Try.prog Try.f3 Rows.octetSaysRow.domain false) (Rows.octetSaysSpec.post enc Try.prog Try.f3 false true false false) := by
  refine Fr.law_lift (C := Try.checked) (tb := 4) own started (by kernel_rfl) Try.func3
    (ChangeSpec.witness6 (enc := enc) (C := Try.checked) false ⟨#[], #[.int .u64 0, .string ByteArray.empty, .agg #[.int .i64 0, .int .i64 0]], []⟩ 8 (by kernel_rfl) (by kernel_rfl) (by kernel_rfl) (by kernel_rfl))
    laidOut (by rw [Try.params3]; decide +kernel) rfl Try.underlying4 rfl ?_ ?_
  · intro ds hl
    match ds, hl with
    | [d0, d1, d2], _ => rfl
  · intro W base args ds p hval hA
    rw [Try.params3] at hA hval
    obtain ⟨v0, vs0, d0, ds0, p0, q0, hargs, rfl, rfl, h0, r0⟩ := trodAll_cons hA
    obtain ⟨v1, vs1, d1, ds1, p1, q1, rfl, rfl, rfl, h1, r1⟩ := trodAll_cons r0
    obtain ⟨v2, vs2, d2, ds2, p2, q2, rfl, rfl, rfl, h2, r2⟩ := trodAll_cons r1
    obtain ⟨rfl, rfl, rfl⟩ := trodAll_nil r2
    obtain rfl : args = #[v0, v1, v2] := by cases args; simp_all
    obtain ⟨a0, rfl, rfl, rfl, w0⟩ := open_int Try.underlying22 (hval 0 22 v0 rfl rfl) h0
    obtain ⟨a1, rfl, rfl, rfl, w1⟩ := open_string Try.underlying9 (hval 1 9 v1 rfl rfl) h1
    obtain ⟨a2, b2, rfl, w2, u2⟩ := Fr.open_two Try.underlying23 Try.underlying3 (by kernel_rfl) (by kernel_rfl) (hval 2 23 v2 rfl rfl) h2
    exact Oct.law_says W a0 w0 a1 w1 a2 b2 w2 u2

theorem over : Rows.octetSaysRow.holds Try.pinned (OpenSpec.ofChange Rows.octetSaysSpec) :=
  OpenClaim.holds_of_wide 3 Try.f3 rfl rfl rfl rfl rfl rfl rfl ⟨rfl, rfl, rfl, rfl, rfl⟩ rfl rfl rfl rfl rfl (by kernel_rfl) Try.func3 (by kernel_rfl)
    (of_decide_eq_true (by kernel_rfl)) (by unfold Func.isWrapper; first | (rw [if_pos (by decide +kernel)]; kernel_rfl) | (rw [if_neg (by decide +kernel)]; exact ⟨rfl, rfl⟩))
    (fun os started H enc _ => lifted os started H enc)
end LawOctetSays

/-- The statement OctetSays. -/
theorem octetSays_holds : Rows.OctetSaysSaid := LawOctetSays.over

end Go.Proofs.Ytdkpplbmkocbfaa
