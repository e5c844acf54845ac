/-
  The statement OctetPad: for every text and number the law OctetPad returns true, and its arguments read afterwards as they read before.
-/
import Derived.Test.YtdkpplbmkocbfaaOctAwake
import Derived.Test.YtdkpplbmkocbfaaFrame
import Derived.Test.YtdkpplbmkocbfaaRows
namespace Go.Proofs.Ytdkpplbmkocbfaa
open Go.RowKit
namespace Oct

theorem rem_small (n : Int) (k : Nat) (hk : 0 < k) (hk2 : k ≤ 1000000) : ∃ r : Nat, r < k ∧ wrap64 ((IntKind.u64.wrap n).tmod k) = r := by
  have h0 : 0 ≤ IntKind.u64.wrap n := by rw [IntKind.wrap_u64]; omega
  refine ⟨((IntKind.u64.wrap n) % k).toNat, ?_, ?_⟩
  · have := Int.emod_lt_of_pos (IntKind.u64.wrap n) (show (0 : Int) < k by omega)
    have := Int.emod_nonneg (IntKind.u64.wrap n) (show (k : Int) ≠ 0 by omega)
    omega
  · have h1 := Int.emod_lt_of_pos (IntKind.u64.wrap n) (show (0 : Int) < k by omega)
    have h2 := Int.emod_nonneg (IntKind.u64.wrap n) (show (k : Int) ≠ 0 by omega)
    rw [Int.tmod_eq_emod_of_nonneg h0]
    unfold wrap64
    omega

theorem padS_size (s : ByteArray) (r : Nat) (hr : r < 700) : (padS s r).size = max s.size r := by
  have e : (padS s r).size = s.size + (min (r : Int) 9216 - s.size).toNat := by
    unfold padS
    rw [ByteArray.size_append]
    congr 1
    generalize (min (r : Int) 9216 - s.size).toNat = c
    simp [ByteArray.size]
  omega

theorem padS_begin (s : ByteArray) (n : Int) : (padS s n).extract 0 s.size = s := by
  unfold padS
  generalize (min n 9216 - s.size).toNat = c
  apply ByteArray.ext
  simp

theorem padS_zero (s : ByteArray) (n : Int) (i : Nat) (h : s.size ≤ i) (h' : i < (padS s n).size) : (padS s n)[i] = 0 := by
  have e : (padS s n)[i]? = some 0 := by
    revert h'
    unfold padS
    generalize (min n 9216 - s.size).toNat = c
    intro h'
    have hd : s.data.size = s.size := rfl
    have h2 : i < s.size + c := by
      have : (s ++ (⟨(List.replicate c 0).toArray⟩ : ByteArray)).size = s.size + c := by
        rw [ByteArray.size_append]; congr 1; simp [ByteArray.size]
      omega
    show (s ++ (⟨(List.replicate c 0).toArray⟩ : ByteArray))[i]? = some 0
    rw [getElem?_pos _ i h']
    have : (s ++ (⟨(List.replicate c 0).toArray⟩ : ByteArray))[i] = (s ++ (⟨(List.replicate c 0).toArray⟩ : ByteArray)).data[i]'(h') := rfl
    rw [this]
    simp only [ByteArray.data_append]
    rw [Array.getElem_append_right (by omega)]
    simp
  rw [getElem?_pos _ i h'] at e
  simpa using e

set_option maxHeartbeats 400000 in
theorem law_pad (s : ByteArray) (n : Int) (w : World) :
    Calls Try.prog 6 #[.string s, .int .i64 n] w fun e w' => e = .returned (.bool true) ∧ Below w.heap.size w w' := by
  by_cases hl : 600 < s.size
  · go_enter Try.func6, Try.ntmps6
    go_wp2_with fail
    refine (awake_any _).mono ?_; rintro e w1 ⟨rfl, hb1⟩
    go_wp2_with fail
    go_ret
    exact ⟨rfl, hb1⟩
  · go_enter Try.func6, Try.ntmps6
    go_wp2_with fail
    obtain ⟨r, hr, hre⟩ := rem_small n 700 (by omega) (by omega)
    have HE := Lib.hid hre
    clear hre
    rw [show ((700 : Nat) : Int) = 700 from rfl] at HE
    rw [HE.out]
    refine (pad_any s r _ (by omega)).mono ?_; rintro e w1 ⟨rfl, hb1⟩
    have hz := padS_size s r hr
    have hx : ((((padS s r).extract 0 s.size).toList == s.toList)) = true := by rw [padS_begin]; simp
    have HP := Lib.hid (padS_zero s r)
    generalize padS s r = p at *
    have hz' : ((p.size : Int) != max (s.size : Int) (r : Int)) = false := by rw [hz]; simp; omega
    have hz2 : s.size ≤ p.size := by omega
    have hz3 : p.size ≤ 700 := by omega
    clear hz
    go_wp2_with fail
    go_loop [6] (fun i => ∃ k : Nat, s.size ≤ k ∧ k ≤ p.size ∧ i = .int .i64 k) (fun i => p.size - (intOf i).toNat)
    case atStart => exact ⟨s.size, Nat.le_refl _, hz2, rfl⟩
    case round =>
      obtain ⟨k, hk1, hk2, rfl⟩ := hrel
      by_cases hlt : k < p.size
      · have hp := HP.out k hk1 hlt
        have hp' : ((p[k].toNat : Int) != 0) = false := by rw [hp]; rfl
        clear hp
        go_wp2_with fail
        go_round
        case rel => exact ⟨k + 1, by omega, by omega, by go_num⟩
        case measure => simp [intOf]; omega
      · go_wp2_with fail
        refine (awake_any _).mono ?_; rintro e w2 ⟨rfl, hb2⟩
        go_wp2_with fail
        go_ret
        exact ⟨rfl, below_then hb1 hb2⟩

end Oct

namespace LawOctetPad
open Go.ChangeShapes Go.WideShapes Go.ChangeAt Go.RowKit
open Go.ChangeMaps (open_string shut_string)

theorem own : ownKnob Try.prog.godebug = none := by kernel_rfl
theorem laidOut : laidOutB Try.prog = true := by kernel_rfl

set_option maxRecDepth 100000 in
theorem lifted (os : Os) (started : os.Started) (H : Type) (enc : TypeId × Value → H) :
    ReturnsInHanded {} Try.checked os 6 .any (Rows.octetPadSpec.pre6 enc Try.prog Try.f6 Rows.octetPadRow.domain false) (Rows.octetPadSpec.post enc Try.prog Try.f6 false true false false) := by
  refine Fr.law_lift (C := Try.checked) (tb := 4) own started (by kernel_rfl) Try.func6
    (ChangeSpec.witness6 (enc := enc) (C := Try.checked) false ⟨#[], #[.string ByteArray.empty, .int .i64 0], []⟩ 8 (by kernel_rfl) (by kernel_rfl) (by kernel_rfl) (by kernel_rfl))
    laidOut (by rw [Try.params6]; decide +kernel) rfl Try.underlying4 rfl ?_ ?_
  · intro ds hl
    match ds, hl with
    | [d0, d1], _ => rfl
  · intro W base args ds p hval hA
    rw [Try.params6] at hA hval
    obtain ⟨v0, vs0, d0, ds0, p0, q0, hargs, rfl, rfl, h0, r0⟩ := trodAll_cons hA
    obtain ⟨v1, vs1, d1, ds1, p1, q1, rfl, rfl, rfl, h1, r1⟩ := trodAll_cons r0
    obtain ⟨rfl, rfl, rfl⟩ := trodAll_nil r1
    obtain rfl : args = #[v0, v1] := by cases args; simp_all
    obtain ⟨a0, rfl, rfl, rfl, w0⟩ := open_string Try.underlying9 (hval 0 9 v0 rfl rfl) h0
    obtain ⟨a1, rfl, rfl, rfl, w1⟩ := open_int Try.underlying3 (hval 1 3 v1 rfl rfl) h1
    exact Oct.law_pad a0 a1 W

theorem over : Rows.octetPadRow.holds Try.pinned (OpenSpec.ofChange Rows.octetPadSpec) :=
  OpenClaim.holds_of_wide 6 Try.f6 rfl rfl rfl rfl rfl rfl rfl ⟨rfl, rfl, rfl, rfl, rfl⟩ rfl rfl rfl rfl rfl (by kernel_rfl) Try.func6 (by kernel_rfl)
    (of_decide_eq_true (by kernel_rfl)) (by unfold Func.isWrapper; first | (rw [if_pos (by decide +kernel)]; kernel_rfl) | (rw [if_neg (by decide +kernel)]; exact ⟨rfl, rfl⟩))
    (fun os started H enc _ => lifted os started H enc)
end LawOctetPad

/-- The statement OctetPad. -/
theorem octetPad_holds : Rows.OctetPadSaid := LawOctetPad.over

end Go.Proofs.Ytdkpplbmkocbfaa
