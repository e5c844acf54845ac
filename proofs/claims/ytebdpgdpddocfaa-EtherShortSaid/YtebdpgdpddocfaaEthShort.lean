/-
  The statement EtherShort: for every frame and address the law EtherShort returns true, and its arguments read afterwards as they read before.
-/
import Derived.Test.YtebdpgdpddocfaaEthShortA
namespace Go.Proofs.Ytebdpgdpddocfaa
open Go.RowKit
namespace Eth
open Oct Mac

theorem pad46_size (b : ByteArray) : (padS b 46).size = max b.size 46 := by
  have e : (padS b 46).size = b.size + (min (46 : Int) 9216 - b.size).toNat := by
    unfold padS
    rw [ByteArray.size_append]
    congr 1
    generalize (min (46 : Int) 9216 - b.size).toNat = c
    show (List.replicate c (0 : UInt8)).toArray.size = c
    simp
  omega

theorem pad46_begin (b : ByteArray) : (padS b 46).extract 0 b.size = b := by
  unfold padS
  generalize (min (46 : Int) 9216 - b.size).toNat = c
  apply ByteArray.ext
  simp

theorem walk_short (w : World) (d s : Nat) (g : Bool) (p v t : Int) (b : ByteArray) (_hd : d < 18446744073709551616) (_hs : s < 18446744073709551616) (_hb : b.size ≤ maxLen) (y : Int) (_wy : (Lit.int .u64 y).wf = true) :
    Calls Try.prog 6 #[fr d s g p v t b, .int .u64 y] w fun e w' => e = .returned (.bool true) ∧ Below w.heap.size w w' := by
  by_cases hz : 12000 < b.size
  · exact short_big d s p v t y g b w hz
  have h1 := pad46_size b
  have h2 := pad46_begin b
  have HS1 := fun w => short_any d s g p v t b w (by omega)
  have HS2 := fun w => rshort_any d s g p v t b w (by omega)
  have HR1 := fun w => right_any d s g p v t b w (by omega)
  have HR2 := fun w => right_any d s g p v t (padS b 46) w (by omega)
  cases hr : rightF d s g p v t b
  · rw [hr] at HR1
    exact short_not d s p v t y g b _ w (by omega) (by omega) (by omega) h2 (Lib.hid HS1) (Lib.hid HS2) (Lib.hid HR1)
  · rw [hr] at HR1
    have hr2 : rightF d s g p v t (padS b 46) = true := by
      revert hr
      unfold rightF
      simp only [h1]
      cases g <;> simp <;> omega
    rw [hr2] at HR2
    exact short_yes d s p v t y g b _ w (by omega) (by omega) (by omega) h2 (Lib.hid HS1) (Lib.hid HS2) (Lib.hid HR1) (Lib.hid HR2)

end Eth
namespace LawEtherShort
open Go.ChangeShapes Go.WideShapes Go.ChangeAt Go.RowKit
open Go.ChangeMaps (open_string shut_string)

theorem own : ownKnob Try.prog.godebug = none := by kernel_rfl
theorem laidOut : laidOutB Try.prog = true := by kernel_rfl

set_option maxRecDepth 100000 in
theorem lifted (os : Os) (started : os.Started) (H : Type) (enc : TypeId × Value → H) :
    ReturnsInHanded {} Try.checked os 6 .any (Rows.etherShortSpec.pre6 enc Try.prog Try.f6 Rows.etherShortRow.domain false) (Rows.etherShortSpec.post enc Try.prog Try.f6 false true false false) := by
  refine Fr.law_lift (C := Try.checked) (tb := 4) own started (by kernel_rfl) Try.func6
    (ChangeSpec.witness6 (enc := enc) (C := Try.checked) false ⟨#[], #[.agg #[.int .u64 0, .int .u64 0, .bool false, .int .i64 0, .int .i64 0, .int .i64 0, .string ByteArray.empty], .int .u64 0], []⟩ 8 (by kernel_rfl) (by kernel_rfl) (by kernel_rfl) (by kernel_rfl))
    laidOut (by rw [Try.params6]; decide +kernel) rfl Try.underlying4 rfl ?_ ?_
  · intro ds hl
    match ds, hl with
    | [d0, d1], _ => rfl
  · intro W base args ds p hval hA
    rw [Try.params6] at hA hval
    obtain ⟨v0, vs0, d0, ds0, p0, q0, hargs, rfl, rfl, h0, r0⟩ := trodAll_cons hA
    obtain ⟨v1, vs1, d1, ds1, p1, q1, rfl, rfl, rfl, h1, r1⟩ := trodAll_cons r0
    obtain ⟨rfl, rfl, rfl⟩ := trodAll_nil r1
    obtain rfl : args = #[v0, v1] := by cases args; simp_all
    obtain ⟨x0, y0, g0, q0, u0, k0, b0, rfl, hx0, hy0, hb0⟩ := Eth.open_frame (hval 0 25 v0 rfl rfl) h0
    obtain ⟨a1, rfl, rfl, rfl, w1⟩ := open_int Try.underlying23 (hval 1 23 v1 rfl rfl) h1
    exact Eth.walk_short W x0 y0 g0 q0 u0 k0 b0 hx0 hy0 hb0 a1 w1

theorem over : Rows.etherShortRow.holds Try.pinned (OpenSpec.ofChange Rows.etherShortSpec) :=
  OpenClaim.holds_of_wide 6 Try.f6 rfl rfl rfl rfl rfl rfl rfl ⟨rfl, rfl, rfl, rfl, rfl⟩ rfl rfl rfl rfl rfl (by kernel_rfl) Try.func6 (by kernel_rfl)
    (of_decide_eq_true (by kernel_rfl)) (by unfold Func.isWrapper; first | (rw [if_pos (by decide +kernel)]; kernel_rfl) | (rw [if_neg (by decide +kernel)]; exact ⟨rfl, rfl⟩))
    (fun os started H enc _ => lifted os started H enc)
end LawEtherShort

/-- The statement EtherShort. -/
theorem etherShort_holds : Rows.EtherShortSaid := LawEtherShort.over

end Go.Proofs.Ytebdpgdpddocfaa
