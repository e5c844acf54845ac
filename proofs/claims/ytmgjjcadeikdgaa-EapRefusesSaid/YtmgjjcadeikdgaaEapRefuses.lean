/-
  The statement EapRefuses: for every two packets and every list of kinds the law EapRefuses returns true, and its arguments read afterwards as they read before.
-/
import Derived.Test.YtmgjjcadeikdgaaEapRefA
import Derived.Test.YtmgjjcadeikdgaaOpenInts
import Derived.Test.YtmgjjcadeikdgaaFrame
namespace Go.Proofs.Ytmgjjcadeikdgaa
open Go.RowKit
namespace Eap
open Oct Mac Eth Epl

theorem wants_any (c i t : Int) (d : ByteArray) (w : World) (hd : d.size ≤ 9223372036854775807) :
    Calls Try.prog 22 #[pk c i t d] w (Bx.Gives (wantP c i t d) w) := by
  have HR := fun w => right_any c i t d w hd
  unfold wantP
  cases hr : rightP c i t d
  · rw [hr] at HR
    exact wants_right c i t d w (Lib.hid HR)
  rw [hr] at HR
  simp only [Bool.true_and]
  by_cases h1 : c = 2
  case neg =>
    rw [decide_eq_false (fun h => h1 h.1)]
    exact wants_code c i t d w (by simpa using h1) (Lib.hid HR)
  by_cases h2 : t = 3
  case neg =>
    rw [decide_eq_false (fun h => h2 h.2)]
    exact wants_type c i t d w (by simpa using h1) (by simpa using h2) (Lib.hid HR)
  rw [decide_eq_true ⟨h1, h2⟩]
  obtain ⟨_, _, _, _, _, _, _, _, _, h4, _⟩ := nats _ _ _ _ hr
  exact wants_loop c i t d w (by simpa using h1) (by simpa using h2) h4 _ (Lib.hid rfl) (Lib.hid HR)

theorem rwants_any (c i t : Int) (d : ByteArray) (w : World) (hd : d.size ≤ 9223372036854775807) :
    Calls Try.prog 23 #[pk c i t d] w (Bx.Gives (wantP c i t d) w) := by
  have HR := fun w => rright_any c i t d w hd
  unfold wantP
  cases hr : rightP c i t d
  · rw [hr] at HR
    exact rwants_right c i t d w (Lib.hid HR)
  rw [hr] at HR
  simp only [Bool.true_and]
  by_cases h1 : c = 2
  case neg =>
    rw [decide_eq_false (fun h => h1 h.1)]
    exact rwants_code c i t d w (by simpa using h1) (Lib.hid HR)
  by_cases h2 : t = 3
  case neg =>
    rw [decide_eq_false (fun h => h2 h.2)]
    exact rwants_type c i t d w (by simpa using h1) (by simpa using h2) (Lib.hid HR)
  rw [decide_eq_true ⟨h1, h2⟩]
  obtain ⟨_, _, _, _, _, _, _, _, _, h4, _⟩ := nats _ _ _ _ hr
  exact rwants_loop c i t d w (by simpa using h1) (by simpa using h2) h4 _ (Lib.hid rfl) (Lib.hid HR)

theorem wantP_length (c i t : Int) (d : ByteArray) : (wantP c i t d).length ≤ 3000 := by
  unfold wantP
  cases hr : rightP c i t d
  · simp
  · obtain ⟨_, _, _, _, _, _, _, _, _, h4, _⟩ := nats _ _ _ _ hr
    simp only [Bool.true_and]
    split
    · have := wants_length d.data.toList
      have h5 : d.data.toList.length = d.size := Array.length_toList
      omega
    · simp

theorem walk_refuses (w : World) (c i t : Int) (d : ByteArray) (_hb : d.size ≤ maxLen) (_hy : (Lit.int .i64 i).wf = true) (C I T : Int) (D : ByteArray) (_hB : D.size ≤ maxLen) (_hY : (Lit.int .i64 I).wf = true) (A : Option Addr) (l : List Int) (cap : Nat) (_hl : l.length ≤ maxLen) (hI : Bx.Ints w A l) :
    Calls Try.prog 5 #[pk c i t d, pk C I T D, .slice A l.length cap] w fun e w' => e = .returned (.bool true) ∧ Below w.heap.size w w' := by
  by_cases hz : 3000 < d.size
  · exact ref_big1 c i t C I T d D A l cap w hz
  by_cases hz2 : 3000 < D.size
  · exact ref_big2 c i t C I T d D A l cap w (by omega) hz2
  by_cases hz3 : 100 < l.length
  · exact ref_big3 c i t C I T d D A l cap w (by omega) (by omega) hz3
  have HF1 := fun w (h : Hid (Bx.Ints w A l)) => refuse_any A l cap c i t d w (by omega) (by omega) h
  have HF2 := fun w (h : Hid (Bx.Ints w A l)) => rrefuse_any A l cap c i t d w (by omega) (by omega) h
  have hw := wantP_length C I T D
  unfold refD at HF1 HF2
  cases hr : refB c i t d l
  · rw [hr] at HF1 HF2
    exact ref_false c i t C I T d D A l cap 0 0 0 ⟨#[]⟩ _ _ w (by omega) (by omega) (by omega) hw (Lib.hid hI) (Lib.hid HF1) (Lib.hid HF2) (Lib.hid fun w => wants_any C I T D w (by omega)) (Lib.hid fun w => rwants_any C I T D w (by omega))
      (Lib.hid fun w => word_any c i t d w) (Lib.hid fun w => rword_any c i t d w)
  · rw [hr] at HF1 HF2
    have hb := hr
    unfold refB at hb
    rw [Bool.and_eq_true, decide_eq_true_iff] at hb
    obtain ⟨h1, h2, h3, h4⟩ := hb
    have hi : 0 ≤ i ∧ i ≤ 255 := by
      obtain ⟨_, y, _, _, e, _, _, h5, _⟩ := nats _ _ _ _ h1
      omega
    have hs : (wishD l).size ≤ 250 := by
      unfold wishD
      split
      · show 1 ≤ 250; omega
      · rw [ofL_size]; exact wishL_length l [] (by simp)
    have hr2 : rightP 2 i 3 (wishD l) = true := by
      unfold rightP
      rw [decide_eq_true_iff]
      exact ⟨hi.1, hi.2, Or.inl ⟨by omega, by omega, by omega, by omega⟩⟩
    have HRA := fun w => right_any 2 i 3 (wishD l) w (by omega)
    rw [hr2] at HRA
    have HAA := fun w => answer_any c i t 2 i 3 d (wishD l) w
    rw [show ansB c i 2 i = true by unfold ansB; rw [decide_eq_true_iff]; exact ⟨h2, rfl, rfl⟩] at HAA
    have hla : wantP 2 i 3 (wishD l) = l.filter tells := by
      unfold wantP
      rw [hr2, if_pos (by decide)]
      exact wantsL_wish l (by omega)
    exact ref_true c i t C I T d D A l cap 2 i 3 (wishD l) _ _ _ w (by omega) (by omega) (by omega) hw (Lib.hid hI) (Lib.hid HF1) (Lib.hid HF2) (Lib.hid fun w => wants_any C I T D w (by omega)) (Lib.hid fun w => rwants_any C I T D w (by omega))
      (Lib.hid fun w => word_any c i t d w) (Lib.hid fun w => rword_any c i t d w) (Lib.hid fun w => wants_any 2 i 3 (wishD l) w (by omega)) (Lib.hid HRA) (Lib.hid HAA) (Lib.hid hla)

end Eap
namespace LawEapRefuses
open Go.ChangeShapes Go.WideShapes Go.ChangeAt Go.RowKit
open Go.ChangeMaps (open_string shut_string)

theorem own : ownKnob Try.prog.godebug = none := by kernel_rfl
theorem laidOut : laidOutB Try.prog = true := by kernel_rfl

set_option maxRecDepth 100000 in
theorem lifted (os : Os) (started : os.Started) (H : Type) (enc : TypeId × Value → H) :
    ReturnsInHanded {} Try.checked os 5 .any (Rows.eapRefusesSpec.pre6 enc Try.prog Try.f5 Rows.eapRefusesRow.domain false) (Rows.eapRefusesSpec.post enc Try.prog Try.f5 false true false false) := by
  refine Fr.law_lift (C := Try.checked) (tb := 4) own started (by kernel_rfl) Try.func5
    (ChangeSpec.witness6 (enc := enc) (C := Try.checked) false ⟨#[], #[.agg #[.int .i64 0, .int .i64 0, .int .i64 0, .string ByteArray.empty], .agg #[.int .i64 0, .int .i64 0, .int .i64 0, .string ByteArray.empty], .slice none 0 0], []⟩ 8 (by kernel_rfl) (by kernel_rfl) (by kernel_rfl) (by kernel_rfl))
    laidOut (by rw [Try.params5]; decide +kernel) rfl Try.underlying4 rfl ?_ ?_
  · intro ds hl
    match ds, hl with
    | [d0, d1, d2], _ => rfl
  · intro W base args ds p hval hA
    rw [Try.params5] at hA hval
    obtain ⟨v0, vs0, d0, ds0, p0, q0, hargs, rfl, rfl, h0, r0⟩ := trodAll_cons hA
    obtain ⟨v1, vs1, d1, ds1, p1, q1, rfl, rfl, rfl, h1, r1⟩ := trodAll_cons r0
    obtain ⟨v2, vs2, d2, ds2, p2, q2, rfl, rfl, rfl, h2, r2⟩ := trodAll_cons r1
    obtain ⟨rfl, rfl, rfl⟩ := trodAll_nil r2
    obtain rfl : args = #[v0, v1, v2] := by cases args; simp_all
    obtain ⟨x0, y0, z0, b0, rfl, hb0, hy0⟩ := Eap.open_eap (hval 0 23 v0 rfl rfl) h0
    obtain ⟨x1, y1, z1, b1, rfl, hb1, hy1⟩ := Eap.open_eap (hval 1 23 v1 rfl rfl) h1
    obtain ⟨A2, l2, cap2, rfl, hl2, hI2, _⟩ := Bx.open_slice Try.underlying36 Try.underlying3 (by kernel_rfl) (hval 2 36 v2 rfl rfl) h2
    exact Eap.walk_refuses W x0 y0 z0 b0 hb0 hy0 x1 y1 z1 b1 hb1 hy1 A2 l2 cap2 hl2 hI2

theorem over : Rows.eapRefusesRow.holds Try.pinned (OpenSpec.ofChange Rows.eapRefusesSpec) :=
  OpenClaim.holds_of_wide 5 Try.f5 rfl rfl rfl rfl rfl rfl rfl ⟨rfl, rfl, rfl, rfl, rfl⟩ rfl rfl rfl rfl rfl (by kernel_rfl) Try.func5 (by kernel_rfl)
    (of_decide_eq_true (by kernel_rfl)) (by unfold Func.isWrapper; first | (rw [if_pos (by decide +kernel)]; kernel_rfl) | (rw [if_neg (by decide +kernel)]; exact ⟨rfl, rfl⟩))
    (fun os started H enc _ => lifted os started H enc)
end LawEapRefuses

/-- The statement EapRefuses. -/
theorem eapRefuses_holds : Rows.EapRefusesSaid := LawEapRefuses.over

end Go.Proofs.Ytmgjjcadeikdgaa
