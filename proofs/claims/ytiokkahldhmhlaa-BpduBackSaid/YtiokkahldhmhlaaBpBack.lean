/-
  The statement BpduBack: for everything that is told and every text the law BpduBack returns true, and its arguments read afterwards as they read before.
-/
import Derived.Test.YtiokkahldhmhlaaBpBackA
import Derived.Test.YtiokkahldhmhlaaFrame
namespace Go.Proofs.Ytiokkahldhmhlaa
open Go.RowKit
namespace Bpd
open Oct Mac Eth Epl

theorem link_wire (l : List UInt8) : linkB (ofL ([66, 66, 3] ++ l)) = true := by
  unfold linkB
  show Lib.hasPrefix ([66, 66, 3] ++ l) [66, 66, 3] = true
  simp [Lib.hasPrefix]

theorem cut_wire (l : List UInt8) : (ofL ([66, 66, 3] ++ l)).extract 3 (3 + l.length) = ofL l := by
  have h := extract_within [66, 66, 3] l [] 3 l.length rfl rfl
  rw [List.append_nil] at h
  exact h

theorem of_wire (b : Bp) : oErr 1652522221568 false (3 + ((wireL b).length : Int)) (ofL ([66, 66, 3] ++ wireL b)) = rErr (ofL (wireL b)) ∧ oVal 1652522221568 false (3 + ((wireL b).length : Int)) (ofL ([66, 66, 3] ++ wireL b)) = rVal (ofL (wireL b)) := by
  have hl := wire_len b
  have hk := link_wire (wireL b)
  have hz : (ofL ([66, 66, 3] ++ wireL b)).size = 3 + (wireL b).length := by rw [ofL_size]; simp; omega
  have c1 : ¬ ((1652522221568 : Nat) ≠ 1652522221568 ∨ false = true ∨ 1500 < (3 + ((wireL b).length : Int)) ∨ linkB (ofL ([66, 66, 3] ++ wireL b)) = false) := by rw [hk]; simp; omega
  have c2 : ¬ ((3 + ((wireL b).length : Int)) < 3 ∨ ((ofL ([66, 66, 3] ++ wireL b)).size : Int) < 3 + ((wireL b).length : Int)) := by rw [hz]; omega
  unfold oErr oVal
  rw [if_neg c1, if_neg c2, if_neg c1, if_neg c2, show (3 + ((wireL b).length : Int)).toNat = 3 + (wireL b).length by omega, cut_wire]
  exact ⟨rfl, rfl⟩

theorem walk_back (w : World) (b : Bp) (hr : b.r < 18446744073709551616) (_hc : b.c < 18446744073709551616) (hg : b.g < 18446744073709551616) (S : ByteArray) (_hS : S.size ≤ maxLen) :
    Calls Try.prog 4 #[bp b, .string S] w fun e w' => e = .returned (.bool true) ∧ Below w.heap.size w w' := by
  by_cases hz : 3000 < S.size
  · exact back_big b S w hz
  have hz' : S.size ≤ 3000 := by omega
  have HB := fun w => bytes_any b w hr hg
  have HS := fun w => read_any S w (by omega)
  unfold bTxt bErr at HB
  have HR : rErr S = 0 → ∀ w, Calls Try.prog 15 #[bp (rVal S)] w fun e w' => e = .returned (.bool true) ∧ Below w.heap.size w w' := fun h w => by
    have q := right_any (rVal S) w
    rw [read_right S h] at q
    exact q
  have hE : rErr S ≠ 0 → (rErr S != 0) = true := fun h => by simpa using h
  cases hR : rightB b
  · rw [hR] at HB
    by_cases h0 : rErr S = 0
    · rw [h0] at HS
      exact back_wrong0 b S _ w hz' (Lib.hid HB) (Lib.hid HS) (Lib.hid (HR h0))
    · exact back_wrongE b S _ _ w hz' (hE h0) (Lib.hid HB) (Lib.hid HS)
  rw [hR] at HB
  simp only [if_true] at HB
  have hl := wire_len b
  have HX := fun w => read_any (ofL (wireL b)) w (by rw [ofL_size]; omega)
  have HW := fun w => wrap_any 1 b w hr hg
  unfold wVal wErr at HW
  rw [if_pos ⟨hR, by decide⟩, if_pos ⟨hR, by decide⟩] at HW
  have HO := fun w => of_any 1652522221568 1 false 0 0 (3 + ((wireL b).length : Int)) (ofL ([66, 66, 3] ++ wireL b)) w (by rw [ofL_size]; simp; omega)
  rw [(of_wire b).1, (of_wire b).2] at HO
  have rw' := read_wire b hR hr hg
  by_cases ho : b.k ≠ 128 ∧ b.m ≤ b.a
  · rw [if_pos ho] at rw'
    rw [rw'.1, rw'.2] at HX HO
    have e1 : (b.k != 128) = true := by simpa using ho.1
    by_cases h0 : rErr S = 0
    · rw [h0] at HS
      exact back_old0 b S _ _ _ _ w hz' e1 ho.2 (Lib.hid HB) (Lib.hid HX) (Lib.hid HW) (Lib.hid HO) (Lib.hid HS) (Lib.hid (HR h0))
    · exact back_oldE b S _ _ _ _ _ w hz' e1 ho.2 (hE h0) (Lib.hid HB) (Lib.hid HX) (Lib.hid HW) (Lib.hid HO) (Lib.hid HS)
  rw [if_neg ho] at rw'
  rw [rw'.1, rw'.2] at HX HO
  by_cases hk : b.k = 128
  · have e1 : (b.k != 128) = false := by simpa using hk
    by_cases h0 : rErr S = 0
    · rw [h0] at HS
      exact back_chg0 b S _ _ _ _ w hz' e1 (Lib.hid HB) (Lib.hid HX) (Lib.hid HW) (Lib.hid HO) (Lib.hid HS) (Lib.hid (HR h0))
    · exact back_chgE b S _ _ _ _ _ w hz' e1 (hE h0) (Lib.hid HB) (Lib.hid HX) (Lib.hid HW) (Lib.hid HO) (Lib.hid HS)
  · have e1 : (b.k != 128) = true := by simpa using hk
    have e2 : b.a < b.m := by omega
    by_cases h0 : rErr S = 0
    · rw [h0] at HS
      exact back_new0 b S _ _ _ _ w hz' e1 e2 (Lib.hid HB) (Lib.hid HX) (Lib.hid HW) (Lib.hid HO) (Lib.hid HS) (Lib.hid (HR h0))
    · exact back_newE b S _ _ _ _ _ w hz' e1 e2 (hE h0) (Lib.hid HB) (Lib.hid HX) (Lib.hid HW) (Lib.hid HO) (Lib.hid HS)

end Bpd
namespace LawBpduBack
open Go.ChangeShapes Go.WideShapes Go.ChangeAt Go.RowKit
open Go.ChangeMaps (open_string shut_string)

theorem own : ownKnob Try.prog.godebug = none := by kernel_rfl
theorem laidOut : laidOutB Try.prog = true := by kernel_rfl

set_option maxRecDepth 100000 in
theorem lifted (os : Os) (started : os.Started) (H : Type) (enc : TypeId × Value → H) :
    ReturnsInHanded {} Try.checked os 4 .any (Rows.bpduBackSpec.pre6 enc Try.prog Try.f4 Rows.bpduBackRow.domain false) (Rows.bpduBackSpec.post enc Try.prog Try.f4 false true false false) := by
  refine Fr.law_lift (C := Try.checked) (tb := 4) own started (by kernel_rfl) Try.func4
    (ChangeSpec.witness6 (enc := enc) (C := Try.checked) false ⟨#[], #[.agg #[.int .i64 0, .bool false, .bool false, .int .i64 0, .bool false, .bool false, .bool false, .bool false, .int .u64 0, .int .u64 0, .int .u64 0, .int .i64 0, .int .i64 0, .int .i64 0, .int .i64 0, .int .i64 0], .string ByteArray.empty], []⟩ 8 (by kernel_rfl) (by kernel_rfl) (by kernel_rfl) (by kernel_rfl))
    laidOut (by rw [Try.params4]; decide +kernel) rfl Try.underlying4 rfl ?_ ?_
  · intro ds hl
    match ds, hl with
    | [d0, d1], _ => rfl
  · intro W base args ds p hval hA
    rw [Try.params4] at hA hval
    obtain ⟨v0, vs0, d0, ds0, p0, q0, hargs, rfl, rfl, h0, r0⟩ := trodAll_cons hA
    obtain ⟨v1, vs1, d1, ds1, p1, q1, rfl, rfl, rfl, h1, r1⟩ := trodAll_cons r0
    obtain ⟨rfl, rfl, rfl⟩ := trodAll_nil r1
    obtain rfl : args = #[v0, v1] := by cases args; simp_all
    obtain ⟨b0, rfl, hr0, hc0, hg0⟩ := Bpd.open_bpdu (hval 0 26 v0 rfl rfl) h0
    obtain ⟨a1, rfl, rfl, rfl, w1⟩ := open_string Try.underlying9 (hval 1 9 v1 rfl rfl) h1
    exact Bpd.walk_back W b0 hr0 hc0 hg0 a1 w1

theorem over : Rows.bpduBackRow.holds Try.pinned (OpenSpec.ofChange Rows.bpduBackSpec) :=
  OpenClaim.holds_of_wide 4 Try.f4 rfl rfl rfl rfl rfl rfl rfl ⟨rfl, rfl, rfl, rfl, rfl⟩ rfl rfl rfl rfl rfl (by kernel_rfl) Try.func4 (by kernel_rfl)
    (of_decide_eq_true (by kernel_rfl)) (by unfold Func.isWrapper; first | (rw [if_pos (by decide +kernel)]; kernel_rfl) | (rw [if_neg (by decide +kernel)]; exact ⟨rfl, rfl⟩))
    (fun os started H enc _ => lifted os started H enc)
end LawBpduBack

/-- The statement BpduBack. -/
theorem bpduBack_holds : Rows.BpduBackSaid := LawBpduBack.over

end Go.Proofs.Ytiokkahldhmhlaa
