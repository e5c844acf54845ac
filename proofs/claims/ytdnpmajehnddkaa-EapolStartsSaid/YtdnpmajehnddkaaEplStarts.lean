/-
  The statement EapolStarts: for every text and every two addresses the law EapolStarts returns true, and its arguments read afterwards as they read before.
-/
import Derived.Test.YtdnpmajehnddkaaEplStartsA
import Derived.Test.YtdnpmajehnddkaaFrame
namespace Go.Proofs.Ytdnpmajehnddkaa
open Go.RowKit
namespace Epl
open Oct Mac Eth

theorem walk_starts (w : World) (S : ByteArray) (hS : S.size ≤ maxLen) (x y : Int) (hx : (Lit.int .u64 x).wf = true) (hy : (Lit.int .u64 y).wf = true) :
    Calls Try.prog 5 #[.string S, .agg #[.int .u64 x, .int .u64 y]] w fun e w' => e = .returned (.bool true) ∧ Below w.heap.size w w' := by
  unfold maxLen at hS
  obtain ⟨x, rfl, _⟩ := wf_u64 hx
  obtain ⟨y, rfl, _⟩ := wf_u64 hy
  by_cases hz : 3000 < S.size
  · exact starts_big S x y w hz
  have hr : rightE 1 1 ⟨#[]⟩ = true := by decide +kernel
  have hw : wireE 1 1 ⟨#[]⟩ = ⟨#[1, 1, 0, 0]⟩ := by decide +kernel
  obtain ⟨r1, r2⟩ := read_wireE 1 1 ⟨#[]⟩ S hr
  rw [hw] at r1 r2
  have hsz : ((⟨#[1, 1, 0, 0]⟩ : ByteArray) ++ S).size = 4 + S.size := by rw [ByteArray.size_append]; rfl
  have HX := fun w => read_any (⟨#[1, 1, 0, 0]⟩ ++ S) w (by omega)
  rw [r1, r2] at HX
  have HW := fun w => wrap_any x y 1 1 ⟨#[]⟩ w (by decide)
  unfold wVal wErr at HW
  by_cases hm : x < 281474976710656 ∧ y < 281474976710656
  · rw [if_pos ⟨hr, hm⟩, if_pos ⟨hr, hm⟩, show wireE (Int.toNat 1) (Int.toNat 1) ⟨#[]⟩ = ⟨#[1, 1, 0, 0]⟩ from hw] at HW
    exact starts_yes S x y w (by omega) (Lib.hid HX) (Lib.hid HW)
  · rw [if_neg (fun h => hm h.2), if_neg (fun h => hm h.2)] at HW
    by_cases hx : x < 281474976710656
    · exact starts_no2 S x y w (by omega) (by rw [decide_eq_false_iff_not]; omega) (by rw [decide_eq_true_iff]; omega) (Lib.hid HX) (Lib.hid HW)
    · exact starts_no1 S x y w (by omega) (by rw [decide_eq_true_iff]; omega) (Lib.hid HX) (Lib.hid HW)

end Epl
namespace LawEapolStarts
open Go.ChangeShapes Go.WideShapes Go.ChangeAt Go.RowKit
open Go.ChangeMaps (open_string shut_string)

theorem own : ownKnob Try.prog.godebug = none := by kernel_rfl
theorem laidOut : laidOutB Try.prog = true := by kernel_rfl

set_option maxRecDepth 100000 in
theorem lifted (os : Os) (started : os.Started) (H : Type) (enc : TypeId × Value → H) :
    ReturnsInHanded {} Try.checked os 5 .any (Rows.eapolStartsSpec.pre6 enc Try.prog Try.f5 Rows.eapolStartsRow.domain false) (Rows.eapolStartsSpec.post enc Try.prog Try.f5 false true false false) := by
  refine Fr.law_lift (C := Try.checked) (tb := 4) own started (by kernel_rfl) Try.func5
    (ChangeSpec.witness6 (enc := enc) (C := Try.checked) false ⟨#[], #[.string ByteArray.empty, .agg #[.int .u64 0, .int .u64 0]], []⟩ 8 (by kernel_rfl) (by kernel_rfl) (by kernel_rfl) (by kernel_rfl))
    laidOut (by rw [Try.params5]; decide +kernel) rfl Try.underlying4 rfl ?_ ?_
  · intro ds hl
    match ds, hl with
    | [d0, d1], _ => rfl
  · intro W base args ds p hval hA
    rw [Try.params5] at hA hval
    obtain ⟨v0, vs0, d0, ds0, p0, q0, hargs, rfl, rfl, h0, r0⟩ := trodAll_cons hA
    obtain ⟨v1, vs1, d1, ds1, p1, q1, rfl, rfl, rfl, h1, r1⟩ := trodAll_cons r0
    obtain ⟨rfl, rfl, rfl⟩ := trodAll_nil r1
    obtain rfl : args = #[v0, v1] := by cases args; simp_all
    obtain ⟨a0, rfl, rfl, rfl, w0⟩ := open_string Try.underlying9 (hval 0 9 v0 rfl rfl) h0
    obtain ⟨a1, b1, rfl, w1, u1⟩ := Fr.open_two Try.underlying26 Try.underlying25 (by kernel_rfl) (by kernel_rfl) (hval 1 26 v1 rfl rfl) h1
    exact Epl.walk_starts W a0 w0 a1 b1 w1 u1

theorem over : Rows.eapolStartsRow.holds Try.pinned (OpenSpec.ofChange Rows.eapolStartsSpec) :=
  OpenClaim.holds_of_wide 5 Try.f5 rfl rfl rfl rfl rfl rfl rfl ⟨rfl, rfl, rfl, rfl, rfl⟩ rfl rfl rfl rfl rfl (by kernel_rfl) Try.func5 (by kernel_rfl)
    (of_decide_eq_true (by kernel_rfl)) (by unfold Func.isWrapper; first | (rw [if_pos (by decide +kernel)]; kernel_rfl) | (rw [if_neg (by decide +kernel)]; exact ⟨rfl, rfl⟩))
    (fun os started H enc _ => lifted os started H enc)
end LawEapolStarts

/-- The statement EapolStarts. -/
theorem eapolStarts_holds : Rows.EapolStartsSaid := LawEapolStarts.over

end Go.Proofs.Ytdnpmajehnddkaa
