/-
  The statement EtherLong: for every frame the law EtherLong returns true, and its argument reads afterwards as it read before.
-/
import Derived.Test.YtebdpgdpddocfaaEthLongA
namespace Go.Proofs.Ytebdpgdpddocfaa
open Go.RowKit
namespace Eth
open Oct Mac

theorem walk_long (w : World) (d s : Nat) (g : Bool) (p v t : Int) (b : ByteArray) (_hd : d < 18446744073709551616) (_hs : s < 18446744073709551616) (hb : b.size ≤ maxLen) :
    Calls Try.prog 7 #[fr d s g p v t b] w fun e w' => e = .returned (.bool true) ∧ Below w.heap.size w w' := by
  unfold maxLen at hb
  by_cases hz : 12000 < b.size
  · exact long_big d s p v t g b w hz
  have HB := fun w => bytes_any d s g p v t b w (by omega)
  have HR := fun w => right_any d s g p v t b w (by omega)
  unfold bytesS bytesE at HB
  cases hr : rightF d s g p v t b
  · rw [hr] at HB HR
    cases g
    · exact long_wrong_no d s p v t b w (by omega) (Lib.hid HB) (Lib.hid HR)
    · exact long_wrong_tag d s p v t b w (by omega) (Lib.hid HB) (Lib.hid HR)
  · rw [hr] at HB HR
    have h1 := wire_size ⟨d, s, g, p.toNat, v.toNat, t.toNat, b⟩
    have h2 := wire_body ⟨d, s, g, p.toNat, v.toNat, t.toNat, b⟩
    simp only [if_true] at HB
    generalize wire ⟨d, s, g, p.toNat, v.toNat, t.toNat, b⟩ = X at *
    cases g
    · simp only [Bool.false_eq_true, if_false] at h1 h2
      exact long_right_no d s p v t b X w _ (by omega) rfl (by omega) h2 (Lib.hid HB) (Lib.hid HR)
    · simp only [if_true] at h1 h2
      exact long_right_tag d s p v t b X w _ (by omega) rfl (by omega) h2 (Lib.hid HB) (Lib.hid HR)

end Eth
namespace LawEtherLong
open Go.ChangeShapes Go.WideShapes Go.ChangeAt Go.RowKit
open Go.ChangeMaps (open_string shut_string)

theorem own : ownKnob Try.prog.godebug = none := by kernel_rfl
theorem laidOut : laidOutB Try.prog = true := by kernel_rfl

set_option maxRecDepth 100000 in
theorem lifted (os : Os) (started : os.Started) (H : Type) (enc : TypeId × Value → H) :
    ReturnsInHanded {} Try.checked os 7 .any (Rows.etherLongSpec.pre6 enc Try.prog Try.f7 Rows.etherLongRow.domain false) (Rows.etherLongSpec.post enc Try.prog Try.f7 false true false false) := by
  refine Fr.law_lift (C := Try.checked) (tb := 4) own started (by kernel_rfl) Try.func7
    (ChangeSpec.witness6 (enc := enc) (C := Try.checked) false ⟨#[], #[.agg #[.int .u64 0, .int .u64 0, .bool false, .int .i64 0, .int .i64 0, .int .i64 0, .string ByteArray.empty]], []⟩ 8 (by kernel_rfl) (by kernel_rfl) (by kernel_rfl) (by kernel_rfl))
    laidOut (by rw [Try.params7]; decide +kernel) rfl Try.underlying4 rfl ?_ ?_
  · intro ds hl
    match ds, hl with
    | [d0], _ => rfl
  · intro W base args ds p hval hA
    rw [Try.params7] at hA hval
    obtain ⟨v0, vs0, d0, ds0, p0, q0, hargs, rfl, rfl, h0, r0⟩ := trodAll_cons hA
    obtain ⟨rfl, rfl, rfl⟩ := trodAll_nil r0
    obtain rfl : args = #[v0] := by cases args; simp_all
    obtain ⟨x0, y0, g0, q0, u0, k0, b0, rfl, hx0, hy0, hb0⟩ := Eth.open_frame (hval 0 25 v0 rfl rfl) h0
    exact Eth.walk_long W x0 y0 g0 q0 u0 k0 b0 hx0 hy0 hb0

theorem over : Rows.etherLongRow.holds Try.pinned (OpenSpec.ofChange Rows.etherLongSpec) :=
  OpenClaim.holds_of_wide 7 Try.f7 rfl rfl rfl rfl rfl rfl rfl ⟨rfl, rfl, rfl, rfl, rfl⟩ rfl rfl rfl rfl rfl (by kernel_rfl) Try.func7 (by kernel_rfl)
    (of_decide_eq_true (by kernel_rfl)) (by unfold Func.isWrapper; first | (rw [if_pos (by decide +kernel)]; kernel_rfl) | (rw [if_neg (by decide +kernel)]; exact ⟨rfl, rfl⟩))
    (fun os started H enc _ => lifted os started H enc)
end LawEtherLong

/-- The statement EtherLong. -/
theorem etherLong_holds : Rows.EtherLongSaid := LawEtherLong.over

end Go.Proofs.Ytebdpgdpddocfaa
