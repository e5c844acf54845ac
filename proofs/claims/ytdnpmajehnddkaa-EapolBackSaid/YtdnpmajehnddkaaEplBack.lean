/-
  The statement EapolBack: for everything that is said and every text the law EapolBack returns true, and its arguments read afterwards as they read before.
-/
import Derived.Test.YtdnpmajehnddkaaEplBackA
import Derived.Test.YtdnpmajehnddkaaFrame
namespace Go.Proofs.Ytdnpmajehnddkaa
open Go.RowKit
namespace Epl
open Oct Mac Eth

theorem walk_back (w : World) (v t : Int) (b : ByteArray) (_hb : b.size ≤ maxLen) (S : ByteArray) (hS : S.size ≤ maxLen) :
    Calls Try.prog 4 #[ep v t b, .string S] w fun e w' => e = .returned (.bool true) ∧ Below w.heap.size w w' := by
  unfold maxLen at hS
  by_cases hz : 3000 < b.size
  · exact back_big1 v t b S w hz
  by_cases hz2 : 3000 < S.size
  · exact back_big2 v t b S w (by omega) hz2
  have HB := fun w => bytes_any v t b w (by omega)
  have HS := fun w => read_any S w (by omega)
  unfold bTxt bErr at HB
  have second : eErr S = 0 → ∃ A2 : ByteArray, (∀ w, Calls Try.prog 7 #[(eVal S).val] w fun e w' => e = .returned (.tuple #[.string A2, .int .i64 0]) ∧ Below w.heap.size w w') ∧
      (∀ w, Calls Try.prog 9 #[.string A2] w fun e w' => e = .returned (.tuple #[(eVal S).val, .int .i64 0]) ∧ Below w.heap.size w w') ∧
      (∀ w, Calls Try.prog 13 #[(eVal S).val] w fun e w' => e = .returned (.bool true) ∧ Below w.heap.size w w') := fun hE => by
    have hr := eVal_right S hE
    obtain ⟨_, _, _, _, _, _, _, h4⟩ := nats _ _ _ hr
    have hw := wireE_size (eVal S).v (eVal S).t (eVal S).b
    have hrd := read_wireE (eVal S).v (eVal S).t (eVal S).b ⟨#[]⟩ hr
    have he : wireE (eVal S).v (eVal S).t (eVal S).b ++ ⟨#[]⟩ = wireE (eVal S).v (eVal S).t (eVal S).b := ByteArray.append_empty
    rw [he] at hrd
    refine ⟨wireE (eVal S).v (eVal S).t (eVal S).b, fun w => ?_, fun w => ?_, fun w => ?_⟩
    · have h := bytes_any (eVal S).v (eVal S).t (eVal S).b w (by omega)
      unfold bTxt bErr at h
      rw [hr] at h
      exact h
    · have h := read_any (wireE (eVal S).v (eVal S).t (eVal S).b) w (by omega)
      rw [hrd.1, hrd.2] at h
      exact h
    · have h := right_any (eVal S).v (eVal S).t (eVal S).b w (by omega)
      rw [hr] at h
      exact h
  cases hr : rightE v t b
  · rw [hr] at HB
    by_cases hE : eErr S = 0
    · obtain ⟨A2, k1, k2, k3⟩ := second hE
      rw [hE] at HS
      exact back_10 v t b S _ _ _ A2 w (by omega) (by omega) (Lib.hid HB) (Lib.hid HS) (Lib.hid k1) (Lib.hid k2) (Lib.hid k3)
    · exact back_11 v t b S _ _ _ _ w (by omega) (by omega) (by simpa using hE) (Lib.hid HB) (Lib.hid HS)
  · rw [hr] at HB
    obtain ⟨x, y, rfl, rfl, h1, h2, h3, h4⟩ := nats v t b hr
    simp only [if_true, Int.toNat_natCast] at HB
    have hw := wireE_size x y b
    have hsz : (wireE x y b ++ S).size = 4 + b.size + S.size := by rw [ByteArray.size_append, hw]
    have HX := fun w => read_any (wireE x y b ++ S) w (by omega)
    obtain ⟨r1, r2⟩ := read_wireE x y b S hr
    rw [r1, r2] at HX
    by_cases hE : eErr S = 0
    · obtain ⟨A2, k1, k2, k3⟩ := second hE
      rw [hE] at HS
      exact back_00 x y b S _ _ _ _ A2 w (by omega) (by omega) (by omega) (Lib.hid HB) (Lib.hid HX) (Lib.hid HS) (Lib.hid k1) (Lib.hid k2) (Lib.hid k3)
    · exact back_01 x y b S _ _ _ _ _ w (by omega) (by omega) (by omega) (by simpa using hE) (Lib.hid HB) (Lib.hid HX) (Lib.hid HS)

end Epl
namespace LawEapolBack
open Go.ChangeShapes Go.WideShapes Go.ChangeAt Go.RowKit
open Go.ChangeMaps (open_string shut_string)

theorem own : ownKnob Try.prog.godebug = none := by kernel_rfl
theorem laidOut : laidOutB Try.prog = true := by kernel_rfl

set_option maxRecDepth 100000 in
theorem lifted (os : Os) (started : os.Started) (H : Type) (enc : TypeId × Value → H) :
    ReturnsInHanded {} Try.checked os 4 .any (Rows.eapolBackSpec.pre6 enc Try.prog Try.f4 Rows.eapolBackRow.domain false) (Rows.eapolBackSpec.post enc Try.prog Try.f4 false true false false) := by
  refine Fr.law_lift (C := Try.checked) (tb := 4) own started (by kernel_rfl) Try.func4
    (ChangeSpec.witness6 (enc := enc) (C := Try.checked) false ⟨#[], #[.agg #[.int .i64 0, .int .i64 0, .string ByteArray.empty], .string ByteArray.empty], []⟩ 8 (by kernel_rfl) (by kernel_rfl) (by kernel_rfl) (by kernel_rfl))
    laidOut (by rw [Try.params4]; decide +kernel) rfl Try.underlying4 rfl ?_ ?_
  · intro ds hl
    match ds, hl with
    | [d0, d1], _ => rfl
  · intro W base args ds p hval hA
    rw [Try.params4] at hA hval
    obtain ⟨v0, vs0, d0, ds0, p0, q0, hargs, rfl, rfl, h0, r0⟩ := trodAll_cons hA
    obtain ⟨v1, vs1, d1, ds1, p1, q1, rfl, rfl, rfl, h1, r1⟩ := trodAll_cons r0
    obtain ⟨rfl, rfl, rfl⟩ := trodAll_nil r1
    obtain rfl : args = #[v0, v1] := by cases args; simp_all
    obtain ⟨x0, y0, b0, rfl, hb0⟩ := Epl.open_eapol (hval 0 23 v0 rfl rfl) h0
    obtain ⟨a1, rfl, rfl, rfl, w1⟩ := open_string Try.underlying9 (hval 1 9 v1 rfl rfl) h1
    exact Epl.walk_back W x0 y0 b0 hb0 a1 w1

theorem over : Rows.eapolBackRow.holds Try.pinned (OpenSpec.ofChange Rows.eapolBackSpec) :=
  OpenClaim.holds_of_wide 4 Try.f4 rfl rfl rfl rfl rfl rfl rfl ⟨rfl, rfl, rfl, rfl, rfl⟩ rfl rfl rfl rfl rfl (by kernel_rfl) Try.func4 (by kernel_rfl)
    (of_decide_eq_true (by kernel_rfl)) (by unfold Func.isWrapper; first | (rw [if_pos (by decide +kernel)]; kernel_rfl) | (rw [if_neg (by decide +kernel)]; exact ⟨rfl, rfl⟩))
    (fun os started H enc _ => lifted os started H enc)
end LawEapolBack

/-- The statement EapolBack. -/
theorem eapolBack_holds : Rows.EapolBackSaid := LawEapolBack.over

end Go.Proofs.Ytdnpmajehnddkaa
