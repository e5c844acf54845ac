/-
  The statement EapEnds: for every number and either end the law EapEnds returns true, and its arguments read afterwards as they read before.
-/
import Derived.Test.YtmgjjcadeikdgaaEapEndsA
import Derived.Test.YtmgjjcadeikdgaaFrame
namespace Go.Proofs.Ytmgjjcadeikdgaa
open Go.RowKit
namespace Eap
open Oct Mac Eth Epl

theorem walk_ends (w : World) (i : Int) (_hi : (Lit.int .i64 i).wf = true) (g : Bool) :
    Calls Try.prog 6 #[.int .i64 i, .bool g] w fun e w' => e = .returned (.bool true) ∧ Below w.heap.size w w' := by
  have hm : 0 ≤ i % 256 ∧ i % 256 ≤ 255 := by omega
  obtain ⟨n, hn⟩ : ∃ n : Nat, i % 256 = n := ⟨(i % 256).toNat, by omega⟩
  have r1 : rightP 1 (n : Int) 1 ⟨#[]⟩ = true := by unfold rightP; rw [decide_eq_true_iff]; exact ⟨by omega, by omega, Or.inl ⟨by omega, by omega, by omega, by decide⟩⟩
  have HI := fun w => ident_any i w
  have HE := fun w => end_any i g w
  rw [hn] at HI HE
  obtain ⟨e, he, he2⟩ : ∃ e : Nat, (if g then (3 : Int) else 4) = e ∧ (e = 3 ∨ e = 4) := by cases g; exact ⟨4, rfl, Or.inr rfl⟩; exact ⟨3, rfl, Or.inl rfl⟩
  rw [he] at HE
  have r2 : rightP (e : Int) (n : Int) 0 ⟨#[]⟩ = true := by unfold rightP; rw [decide_eq_true_iff]; exact ⟨by omega, by omega, Or.inr ⟨by omega, rfl, rfl⟩⟩
  have HB := fun w => bytes_any 1 n 1 ⟨#[]⟩ w (Nat.zero_le _)
  have HB2 := fun w => bytes_any e n 0 ⟨#[]⟩ w (Nat.zero_le _)
  unfold bTxt bErr at HB HB2
  rw [r1] at HB
  rw [r2] at HB2
  simp only [if_true, Int.toNat_natCast] at HB HB2
  have s1 := wireP_size 1 n 1 ⟨#[]⟩
  have s2 := wireP_size e n 0 ⟨#[]⟩
  rw [restP_size] at s1 s2
  have s1' : (wireP 1 n 1 ⟨#[]⟩).size ≤ 9223372036854775807 := by rw [s1]; split <;> decide
  have s2' : (wireP e n 0 ⟨#[]⟩).size ≤ 9223372036854775807 := by rw [s2]; split <;> decide
  have HX := fun w => read_any (wireP 1 n 1 ⟨#[]⟩) w s1'
  have HX2 := fun w => read_any (wireP e n 0 ⟨#[]⟩) w s2'
  have x1 := read_wireP 1 n 1 ⟨#[]⟩ ⟨#[]⟩ r1
  have x2 := read_wireP e n 0 ⟨#[]⟩ ⟨#[]⟩ r2
  rw [show wireP 1 n 1 ⟨#[]⟩ ++ ⟨#[]⟩ = wireP 1 n 1 ⟨#[]⟩ from ByteArray.append_empty] at x1
  rw [show wireP e n 0 ⟨#[]⟩ ++ ⟨#[]⟩ = wireP e n 0 ⟨#[]⟩ from ByteArray.append_empty] at x2
  rw [x1.1, x1.2] at HX
  rw [x2.1, x2.2] at HX2
  have HA := fun w => answer_any 1 n 1 e n 0 ⟨#[]⟩ ⟨#[]⟩ w
  rw [show ansB 1 n e n = false by unfold ansB; rw [decide_eq_false_iff_not]; omega] at HA
  exact ends_all i n e g _ _ w ((and255 i).trans hn) (Lib.hid HI) (Lib.hid HE) (Lib.hid HB) (Lib.hid HB2) (Lib.hid HX) (Lib.hid HX2) (Lib.hid HA)

end Eap
namespace LawEapEnds
open Go.ChangeShapes Go.WideShapes Go.ChangeAt Go.RowKit
open Go.ChangeMaps (open_string shut_string)

theorem own : ownKnob Try.prog.godebug = none := by kernel_rfl
theorem laidOut : laidOutB Try.prog = true := by kernel_rfl

set_option maxRecDepth 100000 in
theorem lifted (os : Os) (started : os.Started) (H : Type) (enc : TypeId × Value → H) :
    ReturnsInHanded {} Try.checked os 6 .any (Rows.eapEndsSpec.pre6 enc Try.prog Try.f6 Rows.eapEndsRow.domain false) (Rows.eapEndsSpec.post enc Try.prog Try.f6 false true false false) := by
  refine Fr.law_lift (C := Try.checked) (tb := 4) own started (by kernel_rfl) Try.func6
    (ChangeSpec.witness6 (enc := enc) (C := Try.checked) false ⟨#[], #[.int .i64 0, .bool false], []⟩ 8 (by kernel_rfl) (by kernel_rfl) (by kernel_rfl) (by kernel_rfl))
    laidOut (by rw [Try.params6]; decide +kernel) rfl Try.underlying4 rfl ?_ ?_
  · intro ds hl
    match ds, hl with
    | [d0, d1], _ => rfl
  · intro W base args ds p hval hA
    rw [Try.params6] at hA hval
    obtain ⟨v0, vs0, d0, ds0, p0, q0, hargs, rfl, rfl, h0, r0⟩ := trodAll_cons hA
    obtain ⟨v1, vs1, d1, ds1, p1, q1, rfl, rfl, rfl, h1, r1⟩ := trodAll_cons r0
    obtain ⟨rfl, rfl, rfl⟩ := trodAll_nil r1
    obtain rfl : args = #[v0, v1] := by cases args; simp_all
    obtain ⟨a0, rfl, rfl, rfl, w0⟩ := open_int Try.underlying3 (hval 0 3 v0 rfl rfl) h0
    obtain ⟨a1, rfl, rfl, rfl⟩ := open_bool Try.underlying4 (hval 1 4 v1 rfl rfl) h1
    exact Eap.walk_ends W a0 w0 a1

theorem over : Rows.eapEndsRow.holds Try.pinned (OpenSpec.ofChange Rows.eapEndsSpec) :=
  OpenClaim.holds_of_wide 6 Try.f6 rfl rfl rfl rfl rfl rfl rfl ⟨rfl, rfl, rfl, rfl, rfl⟩ rfl rfl rfl rfl rfl (by kernel_rfl) Try.func6 (by kernel_rfl)
    (of_decide_eq_true (by kernel_rfl)) (by unfold Func.isWrapper; first | (rw [if_pos (by decide +kernel)]; kernel_rfl) | (rw [if_neg (by decide +kernel)]; exact ⟨rfl, rfl⟩))
    (fun os started H enc _ => lifted os started H enc)
end LawEapEnds

/-- The statement EapEnds. -/
theorem eapEnds_holds : Rows.EapEndsSaid := LawEapEnds.over

end Go.Proofs.Ytmgjjcadeikdgaa
