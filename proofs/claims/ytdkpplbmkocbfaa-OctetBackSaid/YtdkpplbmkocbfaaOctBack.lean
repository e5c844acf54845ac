/-
  The statement OctetBack: for every number, two texts and a width the law OctetBack returns true, and its arguments read afterwards as they read before.
-/
import Derived.Test.YtdkpplbmkocbfaaOctBackB
namespace Go.Proofs.Ytdkpplbmkocbfaa
open Go.RowKit
namespace Oct

theorem unhex_hex (s : ByteArray) : unhexS ⟨(hexL s.data.toList).toArray⟩ = s ∧ unhexE ⟨(hexL s.data.toList).toArray⟩ = 0 := by
  have h : unhexL (⟨(hexL s.data.toList).toArray⟩ : ByteArray).data.toList = some s.data.toList := unhexL_hexL _
  have h2 : (⟨(hexL s.data.toList).toArray⟩ : ByteArray).size = 2 * s.size := by
    show (hexL s.data.toList).toArray.size = _
    rw [List.size_toArray, hexL_length]; rfl
  have := unhex_good _ s.size h2 _ h
  exact ⟨this.1, this.2⟩

theorem unhex_code (t : ByteArray) : unhexE t = 0 ∧ (⟨(hexL (unhexS t).data.toList).toArray⟩ : ByteArray) = t ∨ unhexE t = 2 ∨ unhexE t = 3 := by
  by_cases h2 : t.size % 2 = 0
  · cases h : unhexL t.data.toList with
    | none => exact .inr (.inr (unhex_bad t (t.size / 2) (by omega) h).2)
    | some v =>
      have := unhex_good t (t.size / 2) (by omega) v h
      refine .inl ⟨this.2, ?_⟩
      rw [this.1]
      show (⟨(hexL v).toArray⟩ : ByteArray) = t
      rw [hexL_unhexL _ _ h]
  · exact .inr (.inl (by unfold unhexE; rw [if_pos h2]))

theorem unhexS_small (t : ByteArray) : (unhexS t).size ≤ t.size := by
  unfold unhexS
  cases h : unhexL t.data.toList with
  | none => exact Nat.zero_le _
  | some v =>
    have := unhexL_length _ _ h
    simp only [Option.getD_some]
    show v.toArray.size ≤ t.size
    rw [List.size_toArray]
    have h2 : t.data.toList.length = t.size := rfl
    omega

set_option maxHeartbeats 400000 in
theorem law_back (w : World) (n : Int) (wn : (Lit.int .u64 n).wf = true) (s t : ByteArray) (ws : s.size ≤ maxLen) (wt : t.size ≤ maxLen) (width : Int) (_ww : (Lit.int .i64 width).wf = true) :
    Calls Try.prog 4 #[.int .u64 n, .agg #[.string s, .string t], .int .i64 width] w fun e w' => e = .returned (.bool true) ∧ Below w.heap.size w w' := by
  unfold maxLen at ws wt
  have wn' : 0 ≤ n ∧ n ≤ 18446744073709551615 := by simpa [Lit.wf, IntKind.min, IntKind.max, IntKind.signed, IntKind.bits] using wn
  obtain ⟨n, rfl⟩ := Int.eq_ofNat_of_zero_le wn'.1
  have hn : n < 18446744073709551616 := by omega
  clear wn wn'
  by_cases hs : 300 < s.size
  · go_enter Try.func4, Try.ntmps4
    go_wp2_with fail
    refine (awake_any _).mono ?_; rintro e w1 ⟨rfl, hb1⟩
    go_wp2_with fail
    go_ret
    exact ⟨rfl, ((Below.refl _ _).alloc (Nat.le_refl _) _).trans (hb1.mono (by simp))⟩
  · by_cases ht : 300 < t.size
    · have hs' : decide (300 < (s.size : Int)) = false := by simp; omega
      go_enter Try.func4, Try.ntmps4
      go_wp2_with fail
      refine (awake_any _).mono ?_; rintro e w1 ⟨rfl, hb1⟩
      go_wp2_with fail
      go_ret
      exact ⟨rfl, ((Below.refl _ _).alloc (Nat.le_refl _) _).trans (hb1.mono (by simp))⟩
    · obtain ⟨r, hr, hre⟩ := rem_small width 8 (by omega) (by omega)
      rw [show ((8 : Nat) : Int) = 8 from rfl] at hre
      have hz : ∀ k, (⟨(putL n k).toArray⟩ : ByteArray).size = k := fun k => by show (putL n k).toArray.size = k; rw [List.size_toArray, putL_length]
      have HP := fun w => put_any n hn (1 + r) w
      rw [show clampW (1 + r) = 1 + r by unfold clampW; omega] at HP
      have HG := fun w => get_any (s ++ ⟨(putL n (1 + r)).toArray⟩ ++ t) s.size ((1 + r : Nat) : Int) w (by rw [ByteArray.size_append, ByteArray.size_append, hz]; omega) (by omega)
      rw [get_mid s ⟨(putL n (1 + r)).toArray⟩ t (1 + r) (by omega) (by omega) (hz _)] at HG
      rw [show (⟨(putL n (1 + r)).toArray⟩ : ByteArray).data.toList = putL n (1 + r) from rfl, getL_putL] at HG
      have HX := fun w => hex_any s w (by omega)
      have HU := fun w => unhex_any ⟨(hexL s.data.toList).toArray⟩ w (by show (hexL s.data.toList).toArray.size ≤ _; rw [List.size_toArray, hexL_length]; have : s.data.toList.length = s.size := rfl; omega)
      rw [(unhex_hex s).1, (unhex_hex s).2] at HU
      have HV := fun w => unhex_any t w (by omega)
      have HY := fun w => hex_any (unhexS t) w (by have := unhexS_small t; omega)
      by_cases h7 : r = 7
      · subst h7
        have e8 : n % 256 ^ (1 + 7) = n := Nat.mod_eq_of_lt (by rw [show 256 ^ (1 + 7) = 18446744073709551616 by decide]; exact hn)
        rw [e8] at HG
        exact back_full w n s t _ (by omega) (by omega) width hre (by rw [hz]; omega) HP HG _ _ _ _ (unhex_code t) HX HU HV HY
      · exact back_core w n _ s t _ (by omega) (by omega) width r (by omega) hre (low_eq n r hn (by omega)) (by rw [hz]; omega) HP HG _ _ _ _ (unhex_code t) HX HU HV HY

end Oct

namespace LawOctetBack
open Go.ChangeShapes Go.WideShapes Go.ChangeAt Go.RowKit
open Go.ChangeMaps (open_string shut_string)

theorem own : ownKnob Try.prog.godebug = none := by kernel_rfl
theorem laidOut : laidOutB Try.prog = true := by kernel_rfl

set_option maxRecDepth 100000 in
theorem lifted (os : Os) (started : os.Started) (H : Type) (enc : TypeId × Value → H) :
    ReturnsInHanded {} Try.checked os 4 .any (Rows.octetBackSpec.pre6 enc Try.prog Try.f4 Rows.octetBackRow.domain false) (Rows.octetBackSpec.post enc Try.prog Try.f4 false true false false) := by
  refine Fr.law_lift (C := Try.checked) (tb := 4) own started (by kernel_rfl) Try.func4
    (ChangeSpec.witness6 (enc := enc) (C := Try.checked) false ⟨#[], #[.int .u64 0, .agg #[.string ByteArray.empty, .string ByteArray.empty], .int .i64 0], []⟩ 8 (by kernel_rfl) (by kernel_rfl) (by kernel_rfl) (by kernel_rfl))
    laidOut (by rw [Try.params4]; decide +kernel) rfl Try.underlying4 rfl ?_ ?_
  · intro ds hl
    match ds, hl with
    | [d0, d1, d2], _ => rfl
  · intro W base args ds p hval hA
    rw [Try.params4] at hA hval
    obtain ⟨v0, vs0, d0, ds0, p0, q0, hargs, rfl, rfl, h0, r0⟩ := trodAll_cons hA
    obtain ⟨v1, vs1, d1, ds1, p1, q1, rfl, rfl, rfl, h1, r1⟩ := trodAll_cons r0
    obtain ⟨v2, vs2, d2, ds2, p2, q2, rfl, rfl, rfl, h2, r2⟩ := trodAll_cons r1
    obtain ⟨rfl, rfl, rfl⟩ := trodAll_nil r2
    obtain rfl : args = #[v0, v1, v2] := by cases args; simp_all
    obtain ⟨a0, rfl, rfl, rfl, w0⟩ := open_int Try.underlying22 (hval 0 22 v0 rfl rfl) h0
    obtain ⟨a1, b1, rfl, w1, u1⟩ := Fr.open_two_strings Try.underlying36 Try.underlying9 (by kernel_rfl) (by kernel_rfl) (hval 1 36 v1 rfl rfl) h1
    obtain ⟨a2, rfl, rfl, rfl, w2⟩ := open_int Try.underlying3 (hval 2 3 v2 rfl rfl) h2
    exact Oct.law_back W a0 w0 a1 b1 w1 u1 a2 w2

theorem over : Rows.octetBackRow.holds Try.pinned (OpenSpec.ofChange Rows.octetBackSpec) :=
  OpenClaim.holds_of_wide 4 Try.f4 rfl rfl rfl rfl rfl rfl rfl ⟨rfl, rfl, rfl, rfl, rfl⟩ rfl rfl rfl rfl rfl (by kernel_rfl) Try.func4 (by kernel_rfl)
    (of_decide_eq_true (by kernel_rfl)) (by unfold Func.isWrapper; first | (rw [if_pos (by decide +kernel)]; kernel_rfl) | (rw [if_neg (by decide +kernel)]; exact ⟨rfl, rfl⟩))
    (fun os started H enc _ => lifted os started H enc)
end LawOctetBack

/-- The statement OctetBack. -/
theorem octetBack_holds : Rows.OctetBackSaid := LawOctetBack.over

end Go.Proofs.Ytdkpplbmkocbfaa
