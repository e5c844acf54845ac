/-
  The statement OctetSame: for all two texts and two numbers the law OctetSame returns true, and its arguments read afterwards as they read before.
-/
import Derived.Test.YtdkpplbmkocbfaaOctAwake
import Derived.Test.YtdkpplbmkocbfaaFrame
import Derived.Test.YtdkpplbmkocbfaaRows
import Derived.Lib.Strings
namespace Go.Proofs.Ytdkpplbmkocbfaa
open Go.RowKit
namespace Oct

theorem wf_le {n : Int} (h : (Lit.int .i64 n).wf = true) : -9223372036854775808 ≤ n ∧ n ≤ 9223372036854775807 := by
  simpa [Lit.wf, IntKind.min, IntKind.max, IntKind.signed, IntKind.bits] using h

set_option maxHeartbeats 400000 in
theorem law_same (w : World) (s : ByteArray) (ws : s.size ≤ maxLen) (t : ByteArray) (wt : t.size ≤ maxLen) (a n : Int) (_wa : (Lit.int .i64 a).wf = true) (wn : (Lit.int .i64 n).wf = true) :
    Calls Try.prog 5 #[.string s, .string t, .agg #[.int .i64 a, .int .i64 n]] w fun e w' => e = .returned (.bool true) ∧ Below w.heap.size w w' := by
  unfold maxLen at ws wt
  have wn' := wf_le wn
  clear wn
  by_cases hs : 600 < s.size
  · go_enter Try.func5, Try.ntmps5
    go_wp2_with fail
    refine (awake_any _).mono ?_; rintro e w1 ⟨rfl, hb1⟩
    go_wp2_with fail
    go_ret
    exact ⟨rfl, ((Below.refl _ _).alloc (Nat.le_refl _) _).trans (hb1.mono (by simp))⟩
  · have hs' : decide (600 < (s.size : Int)) = false := by simp; omega
    by_cases ht : 600 < t.size
    · go_enter Try.func5, Try.ntmps5
      go_wp2_with fail
      refine (awake_any _).mono ?_; rintro e w1 ⟨rfl, hb1⟩
      go_wp2_with fail
      go_ret
      exact ⟨rfl, ((Below.refl _ _).alloc (Nat.le_refl _) _).trans (hb1.mono (by simp))⟩
    · have HSt := fun w => same_any s t w (by omega)
      have HSs := fun w => same_any s s w (by omega)
      rw [show (s.data.toList == t.data.toList) = (s.toList == t.toList) by rw [Lib.toList_data, Lib.toList_data]] at HSt
      rw [show (s.data.toList == s.data.toList) = true by simp] at HSs
      have HSs' := Lib.hid HSs
      clear HSs
      obtain ⟨q, hq⟩ : ∃ q, (s.toList == t.toList) = q := ⟨_, rfl⟩
      rw [hq] at HSt
      have HSt' := Lib.hid HSt
      clear HSt
      have hqq : (q != q) = false := by simp
      have HC := fun w => cut_any s a n w (by omega) wn'.2
      by_cases he : cutE s.size a n = 0
      · have hcs : cutS s a n = s.extract a.toNat (a + n).toNat := by unfold cutS; rw [if_pos he]
        have hz := cutE_zero.1 he
        have hsz := cutS_size s a n he
        rw [he] at HC
        have HC' := Lib.hid HC
        clear HC he
        rw [hcs] at HC' hsz
        have hl : (((s.extract a.toNat (a + n).toNat).size : Int) == n) = true := by simpa using hsz
        clear hcs hsz
        obtain ⟨hz1, hz2, hz3, hz4⟩ := hz
        go_enter Try.func5, Try.ntmps5
        go_wp2_with fail
        refine (HSt'.out _).mono ?_; rintro e w1 ⟨rfl, hb1⟩
        go_wp2_with fail
        refine (HSs'.out _).mono ?_; rintro e w2 ⟨rfl, hb2⟩
        have hb3 := below_then hb1 hb2
        obtain ⟨c0, c1⟩ : w2.cell? ⟨w.heap.size, 0, none⟩ = some (.int .i64 a) ∧ w2.cell? ⟨w.heap.size, 1, none⟩ = some (.int .i64 n) := ⟨by rw [hb3.cell (by simp)]; simp, by rw [hb3.cell (by simp)]; simp⟩
        go_wp2_with fail
        refine (HC'.out _).mono ?_; rintro e w3 ⟨rfl, rfl⟩
        go_wp2_with fail
        refine (awake_any _).mono ?_; rintro e w4 ⟨rfl, hb4⟩
        go_wp2_with fail
        go_ret
        exact ⟨rfl, ((Below.refl _ _).alloc (Nat.le_refl _) _).trans ((below_then hb3 hb4).mono (by simp))⟩
      · rw [cutS_none s a n he] at HC
        have hz : (cutE s.size a n != 0) = true := by simpa using he
        generalize cutE s.size a n = x at *
        have HC' := Lib.hid HC
        clear HC he
        go_enter Try.func5, Try.ntmps5
        go_wp2_with fail
        refine (HSt'.out _).mono ?_; rintro e w1 ⟨rfl, hb1⟩
        go_wp2_with fail
        refine (HSs'.out _).mono ?_; rintro e w2 ⟨rfl, hb2⟩
        have hb3 := below_then hb1 hb2
        obtain ⟨c0, c1⟩ : w2.cell? ⟨w.heap.size, 0, none⟩ = some (.int .i64 a) ∧ w2.cell? ⟨w.heap.size, 1, none⟩ = some (.int .i64 n) := ⟨by rw [hb3.cell (by simp)]; simp, by rw [hb3.cell (by simp)]; simp⟩
        go_wp2_with fail
        refine (HC'.out _).mono ?_; rintro e w3 ⟨rfl, rfl⟩
        go_wp2_with fail
        refine (awake_any _).mono ?_; rintro e w4 ⟨rfl, hb4⟩
        go_wp2_with fail
        go_ret
        exact ⟨rfl, ((Below.refl _ _).alloc (Nat.le_refl _) _).trans ((below_then hb3 hb4).mono (by simp))⟩

end Oct

namespace LawOctetSame
open Go.ChangeShapes Go.WideShapes Go.ChangeAt Go.RowKit
open Go.ChangeMaps (open_string shut_string)

theorem own : ownKnob Try.prog.godebug = none := by kernel_rfl
theorem laidOut : laidOutB Try.prog = true := by kernel_rfl

set_option maxRecDepth 100000 in
theorem lifted (os : Os) (started : os.Started) (H : Type) (enc : TypeId × Value → H) :
    ReturnsInHanded {} Try.checked os 5 .any (Rows.octetSameSpec.pre6 enc Try.prog Try.f5 Rows.octetSameRow.domain false) (Rows.octetSameSpec.post enc Try.prog Try.f5 false true false false) := by
  refine Fr.law_lift (C := Try.checked) (tb := 4) own started (by kernel_rfl) Try.func5
    (ChangeSpec.witness6 (enc := enc) (C := Try.checked) false ⟨#[], #[.string ByteArray.empty, .string ByteArray.empty, .agg #[.int .i64 0, .int .i64 0]], []⟩ 8 (by kernel_rfl) (by kernel_rfl) (by kernel_rfl) (by kernel_rfl))
    laidOut (by rw [Try.params5]; decide +kernel) rfl Try.underlying4 rfl ?_ ?_
  · intro ds hl
    match ds, hl with
    | [d0, d1, d2], _ => rfl
  · intro W base args ds p hval hA
    rw [Try.params5] at hA hval
    obtain ⟨v0, vs0, d0, ds0, p0, q0, hargs, rfl, rfl, h0, r0⟩ := trodAll_cons hA
    obtain ⟨v1, vs1, d1, ds1, p1, q1, rfl, rfl, rfl, h1, r1⟩ := trodAll_cons r0
    obtain ⟨v2, vs2, d2, ds2, p2, q2, rfl, rfl, rfl, h2, r2⟩ := trodAll_cons r1
    obtain ⟨rfl, rfl, rfl⟩ := trodAll_nil r2
    obtain rfl : args = #[v0, v1, v2] := by cases args; simp_all
    obtain ⟨a0, rfl, rfl, rfl, w0⟩ := open_string Try.underlying9 (hval 0 9 v0 rfl rfl) h0
    obtain ⟨a1, rfl, rfl, rfl, w1⟩ := open_string Try.underlying9 (hval 1 9 v1 rfl rfl) h1
    obtain ⟨a2, b2, rfl, w2, u2⟩ := Fr.open_two Try.underlying23 Try.underlying3 (by kernel_rfl) (by kernel_rfl) (hval 2 23 v2 rfl rfl) h2
    exact Oct.law_same W a0 w0 a1 w1 a2 b2 w2 u2

theorem over : Rows.octetSameRow.holds Try.pinned (OpenSpec.ofChange Rows.octetSameSpec) :=
  OpenClaim.holds_of_wide 5 Try.f5 rfl rfl rfl rfl rfl rfl rfl ⟨rfl, rfl, rfl, rfl, rfl⟩ rfl rfl rfl rfl rfl (by kernel_rfl) Try.func5 (by kernel_rfl)
    (of_decide_eq_true (by kernel_rfl)) (by unfold Func.isWrapper; first | (rw [if_pos (by decide +kernel)]; kernel_rfl) | (rw [if_neg (by decide +kernel)]; exact ⟨rfl, rfl⟩))
    (fun os started H enc _ => lifted os started H enc)
end LawOctetSame

/-- The statement OctetSame. -/
theorem octetSame_holds : Rows.OctetSameSaid := LawOctetSame.over

end Go.Proofs.Ytdkpplbmkocbfaa
