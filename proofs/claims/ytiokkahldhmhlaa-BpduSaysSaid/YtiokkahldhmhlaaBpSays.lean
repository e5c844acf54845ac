/-
  The statement BpduSays: for everything that is told, every text and every frame the law BpduSays returns true, and its arguments read afterwards as they read before.
-/
import Derived.Test.YtiokkahldhmhlaaBpSaysA
import Derived.Test.YtiokkahldhmhlaaEthOpen
import Derived.Test.YtiokkahldhmhlaaFrame
namespace Go.Proofs.Ytiokkahldhmhlaa
open Go.RowKit
namespace Bpd
open Oct Mac Eth Epl

theorem walk_says (w : World) (b : Bp) (hr : b.r < 18446744073709551616) (_hc : b.c < 18446744073709551616) (hg : b.g < 18446744073709551616) (S : ByteArray) (_hS : S.size ≤ maxLen) (D s : Nat) (g : Bool) (p v t : Int) (X : ByteArray) (_hD : D < 18446744073709551616) (_hs : s < 18446744073709551616) (_hX : X.size ≤ maxLen) :
    Calls Try.prog 3 #[bp b, .string S, fr D s g p v t X] w fun e w' => e = .returned (.bool true) ∧ Below w.heap.size w w' := by
  by_cases hz : 3000 < S.size
  · exact says_big1 b S D s g p v t X w hz
  by_cases hz2 : 12000 < X.size
  · exact says_big2 b S D s g p v t X w (by omega) hz2
  have HW := fun w => wrap_any s b w hr hg
  have HW2 := fun w => rwrap_any s b w hr hg
  have all := fun D2 s2 t2 X2 E3 HW HW2 => says_all b S D s g p v t X (bTxt b) X2 (rVal S) (oVal D g t X) D2 s2 t2 (bErr b) (rErr S) E3 (oErr D g t X) (flagN b) (rightB b) w (by omega) (by omega)
    (Lib.hid fun w => bytes_any b w hr hg) (Lib.hid fun w => rbytes_any b w hr hg) (Lib.hid fun w => read_any S w (by omega)) (Lib.hid fun w => rread_any S w (by omega)) HW HW2
    (Lib.hid fun w => of_any D s g p v t X w (by omega)) (Lib.hid fun w => rof_any D s g p v t X w (by omega)) (Lib.hid fun w => right_any b w) (Lib.hid fun w => rright_any b w) (Lib.hid fun w => flags_any b w) (Lib.hid fun w => rflags_any b w)
  unfold wVal at HW HW2
  by_cases h : rightB b = true ∧ s < 281474976710656
  · rw [if_pos h] at HW HW2
    exact all _ _ _ _ _ (Lib.hid HW) (Lib.hid HW2)
  · rw [if_neg h] at HW HW2
    exact all 0 0 0 ⟨#[]⟩ _ (Lib.hid HW) (Lib.hid HW2)

end Bpd
namespace LawBpduSays
open Go.ChangeShapes Go.WideShapes Go.ChangeAt Go.RowKit
open Go.ChangeMaps (open_string shut_string)

theorem own : ownKnob Try.prog.godebug = none := by kernel_rfl
theorem laidOut : laidOutB Try.prog = true := by kernel_rfl

set_option maxRecDepth 100000 in
theorem lifted (os : Os) (started : os.Started) (H : Type) (enc : TypeId × Value → H) :
    ReturnsInHanded {} Try.checked os 3 .any (Rows.bpduSaysSpec.pre6 enc Try.prog Try.f3 Rows.bpduSaysRow.domain false) (Rows.bpduSaysSpec.post enc Try.prog Try.f3 false true false false) := by
  refine Fr.law_lift (C := Try.checked) (tb := 4) own started (by kernel_rfl) Try.func3
    (ChangeSpec.witness6 (enc := enc) (C := Try.checked) false ⟨#[], #[.agg #[.int .i64 0, .bool false, .bool false, .int .i64 0, .bool false, .bool false, .bool false, .bool false, .int .u64 0, .int .u64 0, .int .u64 0, .int .i64 0, .int .i64 0, .int .i64 0, .int .i64 0, .int .i64 0], .string ByteArray.empty, .agg #[.int .u64 0, .int .u64 0, .bool false, .int .i64 0, .int .i64 0, .int .i64 0, .string ByteArray.empty]], []⟩ 8 (by kernel_rfl) (by kernel_rfl) (by kernel_rfl) (by kernel_rfl))
    laidOut (by rw [Try.params3]; decide +kernel) rfl Try.underlying4 rfl ?_ ?_
  · intro ds hl
    match ds, hl with
    | [d0, d1, d2], _ => rfl
  · intro W base args ds p hval hA
    rw [Try.params3] at hA hval
    obtain ⟨v0, vs0, d0, ds0, p0, q0, hargs, rfl, rfl, h0, r0⟩ := trodAll_cons hA
    obtain ⟨v1, vs1, d1, ds1, p1, q1, rfl, rfl, rfl, h1, r1⟩ := trodAll_cons r0
    obtain ⟨v2, vs2, d2, ds2, p2, q2, rfl, rfl, rfl, h2, r2⟩ := trodAll_cons r1
    obtain ⟨rfl, rfl, rfl⟩ := trodAll_nil r2
    obtain rfl : args = #[v0, v1, v2] := by cases args; simp_all
    obtain ⟨b0, rfl, hr0, hc0, hg0⟩ := Bpd.open_bpdu (hval 0 26 v0 rfl rfl) h0
    obtain ⟨a1, rfl, rfl, rfl, w1⟩ := open_string Try.underlying9 (hval 1 9 v1 rfl rfl) h1
    obtain ⟨x2, y2, g2, q2, u2, k2, b2, rfl, hx2, hy2, hb2⟩ := Eth.open_frame (hval 2 29 v2 rfl rfl) h2
    exact Bpd.walk_says W b0 hr0 hc0 hg0 a1 w1 x2 y2 g2 q2 u2 k2 b2 hx2 hy2 hb2

theorem over : Rows.bpduSaysRow.holds Try.pinned (OpenSpec.ofChange Rows.bpduSaysSpec) :=
  OpenClaim.holds_of_wide 3 Try.f3 rfl rfl rfl rfl rfl rfl rfl ⟨rfl, rfl, rfl, rfl, rfl⟩ rfl rfl rfl rfl rfl (by kernel_rfl) Try.func3 (by kernel_rfl)
    (of_decide_eq_true (by kernel_rfl)) (by unfold Func.isWrapper; first | (rw [if_pos (by decide +kernel)]; kernel_rfl) | (rw [if_neg (by decide +kernel)]; exact ⟨rfl, rfl⟩))
    (fun os started H enc _ => lifted os started H enc)
end LawBpduSays

/-- The statement BpduSays. -/
theorem bpduSays_holds : Rows.BpduSaysSaid := LawBpduSays.over

end Go.Proofs.Ytiokkahldhmhlaa
