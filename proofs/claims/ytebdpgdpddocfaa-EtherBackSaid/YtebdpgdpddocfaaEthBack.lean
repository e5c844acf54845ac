/-
  The statement EtherBack: for every frame and text the law EtherBack returns true, and its arguments read afterwards as they read before.
-/
import Derived.Test.YtebdpgdpddocfaaEthBackA
namespace Go.Proofs.Ytebdpgdpddocfaa
open Go.RowKit
namespace Eth
open Oct Mac

theorem walk_back (w : World) (d s : Nat) (g : Bool) (p v t : Int) (b : ByteArray) (_hd : d < 18446744073709551616) (_hs : s < 18446744073709551616) (_hb : b.size ≤ maxLen) (S : ByteArray) (hS : S.size ≤ maxLen) :
    Calls Try.prog 4 #[fr d s g p v t b, .string S] w fun e w' => e = .returned (.bool true) ∧ Below w.heap.size w w' := by
  unfold maxLen at hS
  by_cases hz : 12000 < b.size
  · exact back_big1 d s p v t g b S w hz
  by_cases hz2 : 12000 < S.size
  · exact back_big2 d s p v t g b S w (by omega) hz2
  have HB := fun w => bytes_any d s g p v t b w (by omega)
  have HS := fun w => read_any S w (by omega)
  unfold bytesS bytesE at HB
  cases hr : rightF d s g p v t b
  · rw [hr] at HB
    by_cases hE : readE S = 0
    · obtain ⟨h1, h2⟩ := wire_read S hE
      have HB2 := fun w => bytes_any (readV S).d (readV S).s (readV S).g (readV S).p (readV S).v (readV S).t (readV S).b w (by obtain ⟨_, _, _, _, h⟩ := h2; omega)
      have HR2 := fun w => right_any (readV S).d (readV S).s (readV S).g (readV S).p (readV S).v (readV S).t (readV S).b w (by obtain ⟨_, _, _, _, h⟩ := h2; omega)
      rw [(rightF_ok _).2 h2] at HR2
      unfold bytesS bytesE at HB2
      rw [(rightF_ok _).2 h2] at HB2
      simp only [if_true, Int.toNat_natCast] at HB2
      rw [h1] at HB2
      rw [hE] at HS
      exact back_10 d s p v t g b S _ _ _ _ _ _ _ w (by omega) (by omega) (Lib.hid HB) (Lib.hid HS) (Lib.hid HB2) (Lib.hid HR2)
    · exact back_11 d s p v t g b S _ _ _ _ _ _ _ _ w (by omega) (by omega) (by simpa using hE) (Lib.hid HB) (Lib.hid HS)
  · rw [hr] at HB
    have hok := hr
    unfold rightF at hok
    simp at hok
    obtain ⟨q1, q2, q3, q4, q5, q6⟩ := hok
    obtain ⟨t, rfl⟩ := Int.eq_ofNat_of_zero_le q3
    obtain ⟨p, rfl⟩ : ∃ q : Nat, p = q := ⟨p.toNat, by omega⟩
    obtain ⟨v, rfl⟩ : ∃ q : Nat, v = q := ⟨v.toNat, by omega⟩
    have hf : ok ⟨d, s, g, p, v, t, b⟩ := (rightF_ok ⟨d, s, g, p, v, t, b⟩).1 hr
    obtain ⟨r1, r2⟩ := read_wire _ hf
    have hsz := wire_size ⟨d, s, g, p, v, t, b⟩
    simp only [if_true, Int.toNat_natCast] at HB hsz
    have hX : (wire ⟨d, s, g, p, v, t, b⟩).size ≤ 9216 := by cases g <;> simp at q6 hsz <;> omega
    have HX := fun w => read_any (wire ⟨d, s, g, p, v, t, b⟩) w (by omega)
    rw [r1, r2] at HX
    by_cases hE : readE S = 0
    · obtain ⟨h1, h2⟩ := wire_read S hE
      have HB2 := fun w => bytes_any (readV S).d (readV S).s (readV S).g (readV S).p (readV S).v (readV S).t (readV S).b w (by obtain ⟨_, _, _, _, h⟩ := h2; omega)
      have HR2 := fun w => right_any (readV S).d (readV S).s (readV S).g (readV S).p (readV S).v (readV S).t (readV S).b w (by obtain ⟨_, _, _, _, h⟩ := h2; omega)
      rw [(rightF_ok _).2 h2] at HR2
      unfold bytesS bytesE at HB2
      rw [(rightF_ok _).2 h2] at HB2
      simp only [if_true, Int.toNat_natCast] at HB2
      rw [h1] at HB2
      rw [hE] at HS
      exact back_00 d s p v t g b S _ _ _ _ _ _ _ _ w (by omega) (by omega) hX (Lib.hid HB) (Lib.hid HX) (Lib.hid HS) (Lib.hid HB2) (Lib.hid HR2)
    · exact back_01 d s p v t g b S _ _ _ _ _ _ _ _ _ w (by omega) (by omega) hX (by simpa using hE) (Lib.hid HB) (Lib.hid HX) (Lib.hid HS)

end Eth
namespace LawEtherBack
open Go.ChangeShapes Go.WideShapes Go.ChangeAt Go.RowKit
open Go.ChangeMaps (open_string shut_string)

theorem own : ownKnob Try.prog.godebug = none := by kernel_rfl
theorem laidOut : laidOutB Try.prog = true := by kernel_rfl

set_option maxRecDepth 100000 in
theorem lifted (os : Os) (started : os.Started) (H : Type) (enc : TypeId × Value → H) :
    ReturnsInHanded {} Try.checked os 4 .any (Rows.etherBackSpec.pre6 enc Try.prog Try.f4 Rows.etherBackRow.domain false) (Rows.etherBackSpec.post enc Try.prog Try.f4 false true false false) := by
  refine Fr.law_lift (C := Try.checked) (tb := 4) own started (by kernel_rfl) Try.func4
    (ChangeSpec.witness6 (enc := enc) (C := Try.checked) false ⟨#[], #[.agg #[.int .u64 0, .int .u64 0, .bool false, .int .i64 0, .int .i64 0, .int .i64 0, .string ByteArray.empty], .string ByteArray.empty], []⟩ 8 (by kernel_rfl) (by kernel_rfl) (by kernel_rfl) (by kernel_rfl))
    laidOut (by rw [Try.params4]; decide +kernel) rfl Try.underlying4 rfl ?_ ?_
  · intro ds hl
    match ds, hl with
    | [d0, d1], _ => rfl
  · intro W base args ds p hval hA
    rw [Try.params4] at hA hval
    obtain ⟨v0, vs0, d0, ds0, p0, q0, hargs, rfl, rfl, h0, r0⟩ := trodAll_cons hA
    obtain ⟨v1, vs1, d1, ds1, p1, q1, rfl, rfl, rfl, h1, r1⟩ := trodAll_cons r0
    obtain ⟨rfl, rfl, rfl⟩ := trodAll_nil r1
    obtain rfl : args = #[v0, v1] := by cases args; simp_all
    obtain ⟨x0, y0, g0, q0, u0, k0, b0, rfl, hx0, hy0, hb0⟩ := Eth.open_frame (hval 0 25 v0 rfl rfl) h0
    obtain ⟨a1, rfl, rfl, rfl, w1⟩ := open_string Try.underlying9 (hval 1 9 v1 rfl rfl) h1
    exact Eth.walk_back W x0 y0 g0 q0 u0 k0 b0 hx0 hy0 hb0 a1 w1

theorem over : Rows.etherBackRow.holds Try.pinned (OpenSpec.ofChange Rows.etherBackSpec) :=
  OpenClaim.holds_of_wide 4 Try.f4 rfl rfl rfl rfl rfl rfl rfl ⟨rfl, rfl, rfl, rfl, rfl⟩ rfl rfl rfl rfl rfl (by kernel_rfl) Try.func4 (by kernel_rfl)
    (of_decide_eq_true (by kernel_rfl)) (by unfold Func.isWrapper; first | (rw [if_pos (by decide +kernel)]; kernel_rfl) | (rw [if_neg (by decide +kernel)]; exact ⟨rfl, rfl⟩))
    (fun os started H enc _ => lifted os started H enc)
end LawEtherBack

/-- The statement EtherBack. -/
theorem etherBack_holds : Rows.EtherBackSaid := LawEtherBack.over

end Go.Proofs.Ytebdpgdpddocfaa
