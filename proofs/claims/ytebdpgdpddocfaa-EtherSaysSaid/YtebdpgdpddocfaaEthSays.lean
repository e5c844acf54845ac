/-
  The statement EtherSays: for every frame, text and number the law EtherSays returns true, and its arguments read afterwards as they read before.
-/
import Derived.Test.YtebdpgdpddocfaaEthSaysA
namespace Go.Proofs.Ytebdpgdpddocfaa
open Go.RowKit
namespace Eth
open Oct Mac

theorem walk_says (w : World) (d s : Nat) (g : Bool) (p v t : Int) (b : ByteArray) (_hd : d < 18446744073709551616) (_hs : s < 18446744073709551616) (_hb : b.size ≤ maxLen) (S : ByteArray) (hS : S.size ≤ maxLen) (n : Int) (_wn : (Lit.int .i64 n).wf = true) :
    Calls Try.prog 3 #[fr d s g p v t b, .string S, .int .i64 n] w fun e w' => e = .returned (.bool true) ∧ Below w.heap.size w w' := by
  unfold maxLen at hS
  by_cases hz : 12000 < b.size
  · exact says_big1 d s p v t n g b S w hz
  by_cases hz2 : 12000 < S.size
  · exact says_big2 d s p v t n g b S w (by omega) hz2
  exact says_all d s p v t n g b S _ _ _ _ _ _ _ _ _ _ _ _ _ _ _ _ w (by omega) (by omega) rfl rfl
    (Lib.hid fun w => bytes_any d s g p v t b w (by omega)) (Lib.hid fun w => read_any S w (by omega)) (Lib.hid fun w => right_any d s g p v t b w (by omega)) (Lib.hid fun w => vlan_any d s g p v t b n w) (Lib.hid fun w => retag_any d s g p v t b _ n w)
    (Lib.hid fun w => rbytes_any d s g p v t b w (by omega)) (Lib.hid fun w => rread_any S w (by omega)) (Lib.hid fun w => rright_any d s g p v t b w (by omega)) (Lib.hid fun w => rvlan_any d s g p v t b n w) (Lib.hid fun w => rretag_any d s g p v t b _ n w)

end Eth
namespace LawEtherSays
open Go.ChangeShapes Go.WideShapes Go.ChangeAt Go.RowKit
open Go.ChangeMaps (open_string shut_string)

theorem own : ownKnob Try.prog.godebug = none := by kernel_rfl
theorem laidOut : laidOutB Try.prog = true := by kernel_rfl

set_option maxRecDepth 100000 in
theorem lifted (os : Os) (started : os.Started) (H : Type) (enc : TypeId × Value → H) :
    ReturnsInHanded {} Try.checked os 3 .any (Rows.etherSaysSpec.pre6 enc Try.prog Try.f3 Rows.etherSaysRow.domain false) (Rows.etherSaysSpec.post enc Try.prog Try.f3 false true false false) := by
  refine Fr.law_lift (C := Try.checked) (tb := 4) own started (by kernel_rfl) Try.func3
    (ChangeSpec.witness6 (enc := enc) (C := Try.checked) false ⟨#[], #[.agg #[.int .u64 0, .int .u64 0, .bool false, .int .i64 0, .int .i64 0, .int .i64 0, .string ByteArray.empty], .string ByteArray.empty, .int .i64 0], []⟩ 8 (by kernel_rfl) (by kernel_rfl) (by kernel_rfl) (by kernel_rfl))
    laidOut (by rw [Try.params3]; decide +kernel) rfl Try.underlying4 rfl ?_ ?_
  · intro ds hl
    match ds, hl with
    | [d0, d1, d2], _ => rfl
  · intro W base args ds p hval hA
    rw [Try.params3] at hA hval
    obtain ⟨v0, vs0, d0, ds0, p0, q0, hargs, rfl, rfl, h0, r0⟩ := trodAll_cons hA
    obtain ⟨v1, vs1, d1, ds1, p1, q1, rfl, rfl, rfl, h1, r1⟩ := trodAll_cons r0
    obtain ⟨v2, vs2, d2, ds2, p2, q2, rfl, rfl, rfl, h2, r2⟩ := trodAll_cons r1
    obtain ⟨rfl, rfl, rfl⟩ := trodAll_nil r2
    obtain rfl : args = #[v0, v1, v2] := by cases args; simp_all
    obtain ⟨x0, y0, g0, q0, u0, k0, b0, rfl, hx0, hy0, hb0⟩ := Eth.open_frame (hval 0 25 v0 rfl rfl) h0
    obtain ⟨a1, rfl, rfl, rfl, w1⟩ := open_string Try.underlying9 (hval 1 9 v1 rfl rfl) h1
    obtain ⟨a2, rfl, rfl, rfl, w2⟩ := open_int Try.underlying3 (hval 2 3 v2 rfl rfl) h2
    exact Eth.walk_says W x0 y0 g0 q0 u0 k0 b0 hx0 hy0 hb0 a1 w1 a2 w2

theorem over : Rows.etherSaysRow.holds Try.pinned (OpenSpec.ofChange Rows.etherSaysSpec) :=
  OpenClaim.holds_of_wide 3 Try.f3 rfl rfl rfl rfl rfl rfl rfl ⟨rfl, rfl, rfl, rfl, rfl⟩ rfl rfl rfl rfl rfl (by kernel_rfl) Try.func3 (by kernel_rfl)
    (of_decide_eq_true (by kernel_rfl)) (by unfold Func.isWrapper; first | (rw [if_pos (by decide +kernel)]; kernel_rfl) | (rw [if_neg (by decide +kernel)]; exact ⟨rfl, rfl⟩))
    (fun os started H enc _ => lifted os started H enc)
end LawEtherSays

/-- The statement EtherSays. -/
theorem etherSays_holds : Rows.EtherSaysSaid := LawEtherSays.over

end Go.Proofs.Ytebdpgdpddocfaa
