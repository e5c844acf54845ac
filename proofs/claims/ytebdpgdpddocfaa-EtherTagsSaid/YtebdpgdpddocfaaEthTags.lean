/-
  The statement EtherTags: for every frame and two numbers the law EtherTags returns true, and its arguments read afterwards as they read before.
-/
import Derived.Test.YtebdpgdpddocfaaEthTagsA
namespace Go.Proofs.Ytebdpgdpddocfaa
open Go.RowKit
namespace Eth
open Oct Mac

theorem walk_tags (w : World) (d s : Nat) (g : Bool) (p v t : Int) (b : ByteArray) (_hd : d < 18446744073709551616) (_hs : s < 18446744073709551616) (_hb : b.size ≤ maxLen) (n : Int) (_wn : (Lit.int .i64 n).wf = true) (own : Int) (_wo : (Lit.int .i64 own).wf = true) :
    Calls Try.prog 5 #[fr d s g p v t b, .int .i64 n, .int .i64 own] w fun e w' => e = .returned (.bool true) ∧ Below w.heap.size w w' := by
  refine tags_core d s p v t n own _ g b w rfl ?_
  have h0 : 0 ≤ IntKind.u64.wrap n := by rw [IntKind.wrap_u64]; omega
  have h1 := Int.emod_lt_of_pos (IntKind.u64.wrap n) (show (0 : Int) < 4094 by omega)
  have h2 := Int.emod_nonneg (IntKind.u64.wrap n) (show (4094 : Int) ≠ 0 by omega)
  rw [Int.tmod_eq_emod_of_nonneg h0]
  unfold wrap64
  omega

end Eth
namespace LawEtherTags
open Go.ChangeShapes Go.WideShapes Go.ChangeAt Go.RowKit
open Go.ChangeMaps (open_string shut_string)

theorem own : ownKnob Try.prog.godebug = none := by kernel_rfl
theorem laidOut : laidOutB Try.prog = true := by kernel_rfl

set_option maxRecDepth 100000 in
theorem lifted (os : Os) (started : os.Started) (H : Type) (enc : TypeId × Value → H) :
    ReturnsInHanded {} Try.checked os 5 .any (Rows.etherTagsSpec.pre6 enc Try.prog Try.f5 Rows.etherTagsRow.domain false) (Rows.etherTagsSpec.post enc Try.prog Try.f5 false true false false) := by
  refine Fr.law_lift (C := Try.checked) (tb := 4) own started (by kernel_rfl) Try.func5
    (ChangeSpec.witness6 (enc := enc) (C := Try.checked) false ⟨#[], #[.agg #[.int .u64 0, .int .u64 0, .bool false, .int .i64 0, .int .i64 0, .int .i64 0, .string ByteArray.empty], .int .i64 0, .int .i64 0], []⟩ 8 (by kernel_rfl) (by kernel_rfl) (by kernel_rfl) (by kernel_rfl))
    laidOut (by rw [Try.params5]; decide +kernel) rfl Try.underlying4 rfl ?_ ?_
  · intro ds hl
    match ds, hl with
    | [d0, d1, d2], _ => rfl
  · intro W base args ds p hval hA
    rw [Try.params5] at hA hval
    obtain ⟨v0, vs0, d0, ds0, p0, q0, hargs, rfl, rfl, h0, r0⟩ := trodAll_cons hA
    obtain ⟨v1, vs1, d1, ds1, p1, q1, rfl, rfl, rfl, h1, r1⟩ := trodAll_cons r0
    obtain ⟨v2, vs2, d2, ds2, p2, q2, rfl, rfl, rfl, h2, r2⟩ := trodAll_cons r1
    obtain ⟨rfl, rfl, rfl⟩ := trodAll_nil r2
    obtain rfl : args = #[v0, v1, v2] := by cases args; simp_all
    obtain ⟨x0, y0, g0, q0, u0, k0, b0, rfl, hx0, hy0, hb0⟩ := Eth.open_frame (hval 0 25 v0 rfl rfl) h0
    obtain ⟨a1, rfl, rfl, rfl, w1⟩ := open_int Try.underlying3 (hval 1 3 v1 rfl rfl) h1
    obtain ⟨a2, rfl, rfl, rfl, w2⟩ := open_int Try.underlying3 (hval 2 3 v2 rfl rfl) h2
    exact Eth.walk_tags W x0 y0 g0 q0 u0 k0 b0 hx0 hy0 hb0 a1 w1 a2 w2

theorem over : Rows.etherTagsRow.holds Try.pinned (OpenSpec.ofChange Rows.etherTagsSpec) :=
  OpenClaim.holds_of_wide 5 Try.f5 rfl rfl rfl rfl rfl rfl rfl ⟨rfl, rfl, rfl, rfl, rfl⟩ rfl rfl rfl rfl rfl (by kernel_rfl) Try.func5 (by kernel_rfl)
    (of_decide_eq_true (by kernel_rfl)) (by unfold Func.isWrapper; first | (rw [if_pos (by decide +kernel)]; kernel_rfl) | (rw [if_neg (by decide +kernel)]; exact ⟨rfl, rfl⟩))
    (fun os started H enc _ => lifted os started H enc)
end LawEtherTags

/-- The statement EtherTags. -/
theorem etherTags_holds : Rows.EtherTagsSaid := LawEtherTags.over

end Go.Proofs.Ytebdpgdpddocfaa
