/-
  The statement EapBack: for every packet and every text the law EapBack returns true, and its arguments read afterwards as they read before.
-/
import Derived.Test.YtmgjjcadeikdgaaEapBackA
import Derived.Test.YtmgjjcadeikdgaaFrame
namespace Go.Proofs.Ytmgjjcadeikdgaa
open Go.RowKit
namespace Eap
open Oct Mac Eth Epl

theorem walk_back (w : World) (c i t : Int) (d : ByteArray) (_hb : d.size ≤ maxLen) (_hy : (Lit.int .i64 i).wf = true) (S : ByteArray) (hS : S.size ≤ maxLen) :
    Calls Try.prog 4 #[pk c i t d, .string S] w fun e w' => e = .returned (.bool true) ∧ Below w.heap.size w w' := by
  unfold maxLen at hS
  by_cases hz : 3000 < d.size
  · exact back_big1 c i t d S w hz
  by_cases hz2 : 3000 < S.size
  · exact back_big2 c i t d S w (by omega) hz2
  have HB := fun w => bytes_any c i t d w (by omega)
  have HS := fun w => read_any S w (by omega)
  unfold bTxt bErr at HB
  have second : pErr S = 0 → ∃ A2 : ByteArray, A2.size ≤ S.size ∧ S.extract 0 A2.size = A2 ∧ (∀ w, Calls Try.prog 8 #[(pVal S).val] w fun e w' => e = .returned (.tuple #[.string A2, .int .i64 0]) ∧ Below w.heap.size w w') ∧
      (∀ w, Calls Try.prog 12 #[(pVal S).val] w fun e w' => e = .returned (.bool true) ∧ Below w.heap.size w w') := fun hE => by
    have hr := pVal_right S hE
    obtain ⟨_, _, _, _, _, _, _, _, _, h4, _⟩ := nats _ _ _ _ hr
    obtain ⟨w1, w2⟩ := wire_read S hE
    refine ⟨wireP (pVal S).c (pVal S).i (pVal S).t (pVal S).d, w1, w2, fun w => ?_, fun w => ?_⟩
    · have h := bytes_any (pVal S).c (pVal S).i (pVal S).t (pVal S).d w (by omega)
      unfold bTxt bErr at h
      rw [hr] at h
      exact h
    · have h := right_any (pVal S).c (pVal S).i (pVal S).t (pVal S).d w (by omega)
      rw [hr] at h
      exact h
  cases hr : rightP c i t d
  · rw [hr] at HB
    by_cases hE : pErr S = 0
    · obtain ⟨A2, g1, g2, k1, k2⟩ := second hE
      rw [hE] at HS
      exact back_10 c i t d S _ _ _ _ A2 w (by omega) (by omega) g1 g2 (Lib.hid HB) (Lib.hid HS) (Lib.hid k1) (Lib.hid k2)
    · exact back_11 c i t d S _ _ _ _ _ w (by omega) (by omega) (by simpa using hE) (Lib.hid HB) (Lib.hid HS)
  · rw [hr] at HB
    obtain ⟨x, y, z, rfl, rfl, rfl, h1, h2, h3, h4, _⟩ := nats c i t d hr
    simp only [if_true, Int.toNat_natCast] at HB
    have hw := wireP_size x y z d
    rw [restP_size] at hw
    have hw' : (wireP x y z d).size ≤ 5 + d.size := by split at hw <;> omega
    have hsz : (wireP x y z d ++ S).size = (wireP x y z d).size + S.size := ByteArray.size_append
    have HX := fun w => read_any (wireP x y z d ++ S) w (by omega)
    obtain ⟨r1, r2⟩ := read_wireP x y z d S hr
    rw [r1, r2] at HX
    by_cases hE : pErr S = 0
    · obtain ⟨A2, g1, g2, k1, k2⟩ := second hE
      rw [hE] at HS
      exact back_00 x y z d S _ _ _ _ _ A2 w (by omega) (by omega) (by omega) g1 g2 (Lib.hid HB) (Lib.hid HX) (Lib.hid HS) (Lib.hid k1) (Lib.hid k2)
    · exact back_01 x y z d S _ _ _ _ _ _ w (by omega) (by omega) (by omega) (by simpa using hE) (Lib.hid HB) (Lib.hid HX) (Lib.hid HS)

end Eap
namespace LawEapBack
open Go.ChangeShapes Go.WideShapes Go.ChangeAt Go.RowKit
open Go.ChangeMaps (open_string shut_string)

theorem own : ownKnob Try.prog.godebug = none := by kernel_rfl
theorem laidOut : laidOutB Try.prog = true := by kernel_rfl

set_option maxRecDepth 100000 in
theorem lifted (os : Os) (started : os.Started) (H : Type) (enc : TypeId × Value → H) :
    ReturnsInHanded {} Try.checked os 4 .any (Rows.eapBackSpec.pre6 enc Try.prog Try.f4 Rows.eapBackRow.domain false) (Rows.eapBackSpec.post enc Try.prog Try.f4 false true false false) := by
  refine Fr.law_lift (C := Try.checked) (tb := 4) own started (by kernel_rfl) Try.func4
    (ChangeSpec.witness6 (enc := enc) (C := Try.checked) false ⟨#[], #[.agg #[.int .i64 0, .int .i64 0, .int .i64 0, .string ByteArray.empty], .string ByteArray.empty], []⟩ 8 (by kernel_rfl) (by kernel_rfl) (by kernel_rfl) (by kernel_rfl))
    laidOut (by rw [Try.params4]; decide +kernel) rfl Try.underlying4 rfl ?_ ?_
  · intro ds hl
    match ds, hl with
    | [d0, d1], _ => rfl
  · intro W base args ds p hval hA
    rw [Try.params4] at hA hval
    obtain ⟨v0, vs0, d0, ds0, p0, q0, hargs, rfl, rfl, h0, r0⟩ := trodAll_cons hA
    obtain ⟨v1, vs1, d1, ds1, p1, q1, rfl, rfl, rfl, h1, r1⟩ := trodAll_cons r0
    obtain ⟨rfl, rfl, rfl⟩ := trodAll_nil r1
    obtain rfl : args = #[v0, v1] := by cases args; simp_all
    obtain ⟨x0, y0, z0, b0, rfl, hb0, hy0⟩ := Eap.open_eap (hval 0 23 v0 rfl rfl) h0
    obtain ⟨a1, rfl, rfl, rfl, w1⟩ := open_string Try.underlying9 (hval 1 9 v1 rfl rfl) h1
    exact Eap.walk_back W x0 y0 z0 b0 hb0 hy0 a1 w1

theorem over : Rows.eapBackRow.holds Try.pinned (OpenSpec.ofChange Rows.eapBackSpec) :=
  OpenClaim.holds_of_wide 4 Try.f4 rfl rfl rfl rfl rfl rfl rfl ⟨rfl, rfl, rfl, rfl, rfl⟩ rfl rfl rfl rfl rfl (by kernel_rfl) Try.func4 (by kernel_rfl)
    (of_decide_eq_true (by kernel_rfl)) (by unfold Func.isWrapper; first | (rw [if_pos (by decide +kernel)]; kernel_rfl) | (rw [if_neg (by decide +kernel)]; exact ⟨rfl, rfl⟩))
    (fun os started H enc _ => lifted os started H enc)
end LawEapBack

/-- The statement EapBack. -/
theorem eapBack_holds : Rows.EapBackSaid := LawEapBack.over

end Go.Proofs.Ytmgjjcadeikdgaa
