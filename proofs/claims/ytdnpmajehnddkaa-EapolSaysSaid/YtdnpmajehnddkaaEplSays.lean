/-
  The statement EapolSays: for everything that is said, every text and every two addresses the law EapolSays returns true, and its arguments read afterwards as they read before.
-/
import Derived.Test.YtdnpmajehnddkaaEplSaysA
import Derived.Test.YtdnpmajehnddkaaFrame
namespace Go.Proofs.Ytdnpmajehnddkaa
open Go.RowKit
namespace Epl
open Oct Mac Eth

theorem wVal_frame (x y : Nat) (v t : Int) (b : ByteArray) : ∃ (fd fs : Int) (fg : Bool) (fp fv ft : Int) (fb : ByteArray), wVal x y v t b = fr fd fs fg fp fv ft fb := by
  unfold wVal
  split
  · exact ⟨_, _, _, _, _, _, _, rfl⟩
  · exact ⟨_, _, _, _, _, _, _, rfl⟩

theorem walk_says (w : World) (v t : Int) (b : ByteArray) (_hb : b.size ≤ maxLen) (S : ByteArray) (hS : S.size ≤ maxLen) (x y : Int) (hx : (Lit.int .u64 x).wf = true) (hy : (Lit.int .u64 y).wf = true) :
    Calls Try.prog 3 #[ep v t b, .string S, .agg #[.int .u64 x, .int .u64 y]] w fun e w' => e = .returned (.bool true) ∧ Below w.heap.size w w' := by
  unfold maxLen at hS
  obtain ⟨x, rfl, _⟩ := wf_u64 hx
  obtain ⟨y, rfl, _⟩ := wf_u64 hy
  by_cases hz : 3000 < b.size
  · exact says_big1 v t b S x y w hz
  by_cases hz2 : 3000 < S.size
  · exact says_big2 v t b S x y w (by omega) hz2
  have HW1 := fun w => wrap_any x y v t b w (by omega)
  have HW2 := fun w => rwrap_any x y v t b w (by omega)
  obtain ⟨fd, fs, fg, fp, fv, ft, fb, he⟩ := wVal_frame x y v t b
  rw [he] at HW1 HW2
  exact says_all v t b S x y _ _ _ _ _ _ fd fs fg fp fv ft fb _ _ w (by omega) (by omega) (Lib.hid fun w => bytes_any v t b w (by omega)) (Lib.hid fun w => rbytes_any v t b w (by omega))
    (Lib.hid fun w => read_any S w (by omega)) (Lib.hid fun w => rread_any S w (by omega)) (Lib.hid HW1) (Lib.hid HW2) (Lib.hid fun w => right_any v t b w (by omega)) (Lib.hid fun w => rright_any v t b w (by omega))

end Epl
namespace LawEapolSays
open Go.ChangeShapes Go.WideShapes Go.ChangeAt Go.RowKit
open Go.ChangeMaps (open_string shut_string)

theorem own : ownKnob Try.prog.godebug = none := by kernel_rfl
theorem laidOut : laidOutB Try.prog = true := by kernel_rfl

set_option maxRecDepth 100000 in
theorem lifted (os : Os) (started : os.Started) (H : Type) (enc : TypeId × Value → H) :
    ReturnsInHanded {} Try.checked os 3 .any (Rows.eapolSaysSpec.pre6 enc Try.prog Try.f3 Rows.eapolSaysRow.domain false) (Rows.eapolSaysSpec.post enc Try.prog Try.f3 false true false false) := by
  refine Fr.law_lift (C := Try.checked) (tb := 4) own started (by kernel_rfl) Try.func3
    (ChangeSpec.witness6 (enc := enc) (C := Try.checked) false ⟨#[], #[.agg #[.int .i64 0, .int .i64 0, .string ByteArray.empty], .string ByteArray.empty, .agg #[.int .u64 0, .int .u64 0]], []⟩ 8 (by kernel_rfl) (by kernel_rfl) (by kernel_rfl) (by kernel_rfl))
    laidOut (by rw [Try.params3]; decide +kernel) rfl Try.underlying4 rfl ?_ ?_
  · intro ds hl
    match ds, hl with
    | [d0, d1, d2], _ => rfl
  · intro W base args ds p hval hA
    rw [Try.params3] at hA hval
    obtain ⟨v0, vs0, d0, ds0, p0, q0, hargs, rfl, rfl, h0, r0⟩ := trodAll_cons hA
    obtain ⟨v1, vs1, d1, ds1, p1, q1, rfl, rfl, rfl, h1, r1⟩ := trodAll_cons r0
    obtain ⟨v2, vs2, d2, ds2, p2, q2, rfl, rfl, rfl, h2, r2⟩ := trodAll_cons r1
    obtain ⟨rfl, rfl, rfl⟩ := trodAll_nil r2
    obtain rfl : args = #[v0, v1, v2] := by cases args; simp_all
    obtain ⟨x0, y0, b0, rfl, hb0⟩ := Epl.open_eapol (hval 0 23 v0 rfl rfl) h0
    obtain ⟨a1, rfl, rfl, rfl, w1⟩ := open_string Try.underlying9 (hval 1 9 v1 rfl rfl) h1
    obtain ⟨a2, b2, rfl, w2, u2⟩ := Fr.open_two Try.underlying26 Try.underlying25 (by kernel_rfl) (by kernel_rfl) (hval 2 26 v2 rfl rfl) h2
    exact Epl.walk_says W x0 y0 b0 hb0 a1 w1 a2 b2 w2 u2

theorem over : Rows.eapolSaysRow.holds Try.pinned (OpenSpec.ofChange Rows.eapolSaysSpec) :=
  OpenClaim.holds_of_wide 3 Try.f3 rfl rfl rfl rfl rfl rfl rfl ⟨rfl, rfl, rfl, rfl, rfl⟩ rfl rfl rfl rfl rfl (by kernel_rfl) Try.func3 (by kernel_rfl)
    (of_decide_eq_true (by kernel_rfl)) (by unfold Func.isWrapper; first | (rw [if_pos (by decide +kernel)]; kernel_rfl) | (rw [if_neg (by decide +kernel)]; exact ⟨rfl, rfl⟩))
    (fun os started H enc _ => lifted os started H enc)
end LawEapolSays

/-- The statement EapolSays. -/
theorem eapolSays_holds : Rows.EapolSaysSaid := LawEapolSays.over

end Go.Proofs.Ytdnpmajehnddkaa
