/-
  The statement EapSays: for every two packets and every text the law EapSays returns true, and its arguments read afterwards as they read before.
-/
import Derived.Test.YtmgjjcadeikdgaaEapSaysA
import Derived.Test.YtmgjjcadeikdgaaFrame
namespace Go.Proofs.Ytmgjjcadeikdgaa
open Go.RowKit
namespace Eap
open Oct Mac Eth Epl

theorem walk_says (w : World) (c i t : Int) (d : ByteArray) (_hb : d.size ≤ maxLen) (_hy : (Lit.int .i64 i).wf = true) (C I T : Int) (D : ByteArray) (_hB : D.size ≤ maxLen) (_hY : (Lit.int .i64 I).wf = true) (S : ByteArray) (hS : S.size ≤ maxLen) :
    Calls Try.prog 3 #[pk c i t d, pk C I T D, .string S] w fun e w' => e = .returned (.bool true) ∧ Below w.heap.size w w' := by
  unfold maxLen at hS
  by_cases hz : 3000 < d.size
  · exact says_big1 c i t C I T d D S w hz
  by_cases hz2 : 3000 < S.size
  · exact says_big2 c i t C I T d D S w (by omega) hz2
  exact says_all c i t C I T d D S _ _ _ _ _ _ _ _ _ _ _ _ w (by omega) (by omega) rfl (Lib.hid fun w => bytes_any c i t d w (by omega)) (Lib.hid fun w => rbytes_any c i t d w (by omega))
    (Lib.hid fun w => read_any S w (by omega)) (Lib.hid fun w => rread_any S w (by omega)) (Lib.hid fun w => right_any c i t d w (by omega)) (Lib.hid fun w => rright_any c i t d w (by omega))
    (Lib.hid fun w => answer_any c i t C I T d D w) (Lib.hid fun w => ranswer_any c i t C I T d D w) (Lib.hid fun w => ident_any i w) (Lib.hid fun w => rident_any i w) (Lib.hid fun w => end_any i _ w) (Lib.hid fun w => rend_any i _ w)

end Eap
namespace LawEapSays
open Go.ChangeShapes Go.WideShapes Go.ChangeAt Go.RowKit
open Go.ChangeMaps (open_string shut_string)

theorem own : ownKnob Try.prog.godebug = none := by kernel_rfl
theorem laidOut : laidOutB Try.prog = true := by kernel_rfl

set_option maxRecDepth 100000 in
theorem lifted (os : Os) (started : os.Started) (H : Type) (enc : TypeId × Value → H) :
    ReturnsInHanded {} Try.checked os 3 .any (Rows.eapSaysSpec.pre6 enc Try.prog Try.f3 Rows.eapSaysRow.domain false) (Rows.eapSaysSpec.post enc Try.prog Try.f3 false true false false) := by
  refine Fr.law_lift (C := Try.checked) (tb := 4) own started (by kernel_rfl) Try.func3
    (ChangeSpec.witness6 (enc := enc) (C := Try.checked) false ⟨#[], #[.agg #[.int .i64 0, .int .i64 0, .int .i64 0, .string ByteArray.empty], .agg #[.int .i64 0, .int .i64 0, .int .i64 0, .string ByteArray.empty], .string ByteArray.empty], []⟩ 8 (by kernel_rfl) (by kernel_rfl) (by kernel_rfl) (by kernel_rfl))
    laidOut (by rw [Try.params3]; decide +kernel) rfl Try.underlying4 rfl ?_ ?_
  · intro ds hl
    match ds, hl with
    | [d0, d1, d2], _ => rfl
  · intro W base args ds p hval hA
    rw [Try.params3] at hA hval
    obtain ⟨v0, vs0, d0, ds0, p0, q0, hargs, rfl, rfl, h0, r0⟩ := trodAll_cons hA
    obtain ⟨v1, vs1, d1, ds1, p1, q1, rfl, rfl, rfl, h1, r1⟩ := trodAll_cons r0
    obtain ⟨v2, vs2, d2, ds2, p2, q2, rfl, rfl, rfl, h2, r2⟩ := trodAll_cons r1
    obtain ⟨rfl, rfl, rfl⟩ := trodAll_nil r2
    obtain rfl : args = #[v0, v1, v2] := by cases args; simp_all
    obtain ⟨x0, y0, z0, b0, rfl, hb0, hy0⟩ := Eap.open_eap (hval 0 23 v0 rfl rfl) h0
    obtain ⟨x1, y1, z1, b1, rfl, hb1, hy1⟩ := Eap.open_eap (hval 1 23 v1 rfl rfl) h1
    obtain ⟨a2, rfl, rfl, rfl, w2⟩ := open_string Try.underlying9 (hval 2 9 v2 rfl rfl) h2
    exact Eap.walk_says W x0 y0 z0 b0 hb0 hy0 x1 y1 z1 b1 hb1 hy1 a2 w2

theorem over : Rows.eapSaysRow.holds Try.pinned (OpenSpec.ofChange Rows.eapSaysSpec) :=
  OpenClaim.holds_of_wide 3 Try.f3 rfl rfl rfl rfl rfl rfl rfl ⟨rfl, rfl, rfl, rfl, rfl⟩ rfl rfl rfl rfl rfl (by kernel_rfl) Try.func3 (by kernel_rfl)
    (of_decide_eq_true (by kernel_rfl)) (by unfold Func.isWrapper; first | (rw [if_pos (by decide +kernel)]; kernel_rfl) | (rw [if_neg (by decide +kernel)]; exact ⟨rfl, rfl⟩))
    (fun os started H enc _ => lifted os started H enc)
end LawEapSays

/-- The statement EapSays. -/
theorem eapSays_holds : Rows.EapSaysSaid := LawEapSays.over

end Go.Proofs.Ytmgjjcadeikdgaa
