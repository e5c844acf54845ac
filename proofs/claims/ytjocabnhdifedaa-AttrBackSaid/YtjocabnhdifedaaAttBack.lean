/-
  The statement AttrBack: for every slice of attributes and every text the law AttrBack returns true, and its arguments read afterwards as they read before.
-/
import Derived.Test.YtjocabnhdifedaaAttN
import Derived.Test.YtjocabnhdifedaaAttOpen
import Derived.Test.YtjocabnhdifedaaFrame
import Derived.Test.YtjocabnhdifedaaRows
namespace Go.Proofs.Ytjocabnhdifedaa
open Go.RowKit
namespace Att
open Oct

theorem bytesT_size (l : List At) : (bytesT l).size ≤ 20000 := by
  unfold bytesT
  split
  · rename_i h
    obtain ⟨h1, h2⟩ := bytesE_zero h
    have : (wireA l).length ≤ 255 * l.length := by
      clear h h1
      induction l with
      | nil => exact Nat.le_refl _
      | cons a l ih =>
        rw [List.all_cons, Bool.and_eq_true] at h2
        have h3 := ih h2.2
        have h4 := ((right_iff a).1 h2.1).2.2
        show (oneW a ++ wireA l).length ≤ _
        rw [List.length_append, oneW_length, List.length_cons]
        omega
    show (wireA l).toArray.size ≤ _
    rw [List.size_toArray]
    omega
  · exact Nat.zero_le _

set_option maxHeartbeats 1000000 in
theorem back_long (l : List At) (hl : l.length ≤ maxLen) (A : Option Addr) (c : Nat) (S : ByteArray) (w : World) (hA : Ats w A l) (hb : longB 0 0 l = true) :
    Calls Try.prog 4 #[.slice A l.length c, .string S] w fun e w' => e = .returned (.bool true) ∧ Below w.heap.size w w' := by
  have HG := Lib.hid (guard_any l hl A c w hA)
  rw [hb] at HG
  go_enter Try.func4, Try.ntmps4
  go_wp2_with fail
  refine HG.out.mono ?_; rintro e w1 ⟨rfl, hb1⟩
  have B1 := Lib.hid hb1
  go_wp2_with fail
  refine (awake_any _).mono ?_; rintro e w2 ⟨rfl, hb2⟩
  have B2 := Lib.hid (Bx.then_below B1.out hb2)
  go_wp2_with fail
  go_ret
  exact ⟨rfl, B2.out⟩

set_option maxHeartbeats 1000000 in
theorem back_text (l : List At) (hl : l.length ≤ maxLen) (A : Option Addr) (c : Nat) (S : ByteArray) (w : World) (hA : Ats w A l) (hb : longB 0 0 l = false) (hS : 20000 < S.size) :
    Calls Try.prog 4 #[.slice A l.length c, .string S] w fun e w' => e = .returned (.bool true) ∧ Below w.heap.size w w' := by
  have HG := Lib.hid (guard_any l hl A c w hA)
  rw [hb] at HG
  have hS' : (20000 : Int) < S.size := by omega
  go_enter Try.func4, Try.ntmps4
  go_wp2_with fail
  refine HG.out.mono ?_; rintro e w1 ⟨rfl, hb1⟩
  have B1 := Lib.hid hb1
  go_wp2_with fail
  refine (awake_any _).mono ?_; rintro e w2 ⟨rfl, hb2⟩
  have B2 := Lib.hid (Bx.then_below B1.out hb2)
  go_wp2_with fail
  go_ret
  exact ⟨rfl, B2.out⟩

/-- What the law does behind its guard. -/
theorem walk_back (w : World) (l : List At) (hl : l.length ≤ maxLen) (A : Option Addr) (c : Nat) (hA : Ats w A l) (S : ByteArray) (_hS : S.size ≤ maxLen) :
    Calls Try.prog 4 #[.slice A l.length c, .string S] w fun e w' => e = .returned (.bool true) ∧ Below w.heap.size w w' := by
  cases hb : longB 0 0 l with
  | true => exact back_long l hl A c S w hA hb
  | false =>
    by_cases hS : 20000 < S.size
    · exact back_text l hl A c S w hA hb hS
    · have hS' : ¬ (20000 : Int) < S.size := by omega
      have HG := Lib.hid (guard_any l hl A c w hA)
      rw [hb] at HG
      have HBy := Lib.hid (fun w hA => bytes_any l hl A c w hA)
      have HSm := Lib.hid (fun (w : World) (B : Option Addr) (d : Nat) hA hB => same_any l l hl hl B A d c w hB hA)
      rw [decide_eq_true rfl] at HSm
      have HAW := Lib.hid awake_any
      obtain ⟨E, r, hr⟩ : ∃ E r, readL 64 S.data.toList [] = (E, r) := ⟨_, _, rfl⟩
      have HRd := Lib.hid (fun w => read_any S (by omega) E r w hr)
      have HBack : Hid (E = 0 → ∀ (w : World) (B : Option Addr) (d : Nat), Ats w B r → Calls Try.prog 10 #[.slice B r.length d] w fun e w' => e = .returned (.tuple #[.string S, .int .i64 0]) ∧ Below w.heap.size w w') := Lib.hid (fun hE w B d hB => by
        subst hE
        obtain ⟨e1, e2⟩ := bytes_read hr
        have hlr : r.length ≤ 64 := (bytesE_zero e1).1
        have e := bytes_any r (by unfold maxLen; omega) B d w hB
        rwa [e1, e2] at e)
      have HA := Lib.hid hA
      by_cases hE0 : bytesE l = 0
      · have HR2 := Lib.hid (fun w => read_any (bytesT l) (bytesT_size l) 0 l w (read_bytes hE0))
        rw [hE0] at HBy
        generalize bytesT l = T at *
        by_cases hE : E = 0
        · subst hE
          have HBk := Lib.hid (HBack.out rfl)
          clear hA hb HBack hE0 hr
          go_enter Try.func4, Try.ntmps4
          go_wp2_with fail
          refine HG.out.mono ?_; rintro e w1 ⟨rfl, hb1⟩
          have B1 := Lib.hid hb1
          have A1 := Lib.hid (HA.out.below hb1)
          clear hb1 HG
          go_wp2_with fail
          refine (HBy.out _ A1.out).mono ?_; rintro e w2 ⟨rfl, hb2⟩
          have B2 := Lib.hid (Bx.then_below B1.out hb2)
          have A2 := Lib.hid (A1.out.below hb2)
          clear hb2 B1 A1
          go_wp2_with fail
          refine (HR2.out _).mono ?_; rintro e w3 ⟨C, c3, rfl, hc3, hb3⟩
          have B3 := Lib.hid (Bx.then_below B2.out hb3)
          have A3 := Lib.hid (A2.out.below hb3)
          have C3 := Lib.hid hc3
          clear hb3 B2 A2 hc3
          go_wp2_with fail
          refine (HSm.out _ _ _ A3.out C3.out).mono ?_; rintro e w4 ⟨rfl, q4, rfl⟩
          have B4 := Lib.hid (Bx.then_below B3.out (drew_below _ q4))
          clear B3 A3 C3
          generalize w3.drewN q4 = w4 at *
          go_wp2_with fail
          refine (HRd.out _).mono ?_; rintro e w5 ⟨D, c5, rfl, hd5, hb5⟩
          have B5 := Lib.hid (Bx.then_below B4.out hb5)
          have D5 := Lib.hid hd5
          clear hb5 B4 hd5
          go_wp2_with fail
          refine (HBk.out _ _ _ D5.out).mono ?_; rintro e w6 ⟨rfl, hb6⟩
          have B6 := Lib.hid (Bx.then_below B5.out hb6)
          clear hb6 B5 D5
          go_wp2_with fail
          refine (HAW.out _).mono ?_; rintro e w7 ⟨rfl, hb7⟩
          have B7 := Lib.hid (Bx.then_below B6.out hb7)
          clear hb7 B6
          go_wp2_with fail
          go_ret
          exact ⟨rfl, B7.out⟩
        · have hE1 : (E == 0) = false := by simp [hE]
          clear hA hb HBack hE0 hr
          go_enter Try.func4, Try.ntmps4
          go_wp2_with fail
          refine HG.out.mono ?_; rintro e w1 ⟨rfl, hb1⟩
          have B1 := Lib.hid hb1
          have A1 := Lib.hid (HA.out.below hb1)
          clear hb1 HG
          go_wp2_with fail
          refine (HBy.out _ A1.out).mono ?_; rintro e w2 ⟨rfl, hb2⟩
          have B2 := Lib.hid (Bx.then_below B1.out hb2)
          have A2 := Lib.hid (A1.out.below hb2)
          clear hb2 B1 A1
          go_wp2_with fail
          refine (HR2.out _).mono ?_; rintro e w3 ⟨C, c3, rfl, hc3, hb3⟩
          have B3 := Lib.hid (Bx.then_below B2.out hb3)
          have A3 := Lib.hid (A2.out.below hb3)
          have C3 := Lib.hid hc3
          clear hb3 B2 A2 hc3
          go_wp2_with fail
          refine (HSm.out _ _ _ A3.out C3.out).mono ?_; rintro e w4 ⟨rfl, q4, rfl⟩
          have B4 := Lib.hid (Bx.then_below B3.out (drew_below _ q4))
          clear B3 A3 C3
          generalize w3.drewN q4 = w4 at *
          go_wp2_with fail
          refine (HRd.out _).mono ?_; rintro e w5 ⟨D, c5, rfl, hd5, hb5⟩
          have B5 := Lib.hid (Bx.then_below B4.out hb5)
          clear hb5 B4 hd5
          go_wp2_with fail
          refine (HAW.out _).mono ?_; rintro e w7 ⟨rfl, hb7⟩
          have B7 := Lib.hid (Bx.then_below B5.out hb7)
          clear hb7 B5
          go_wp2_with fail
          go_ret
          exact ⟨rfl, B7.out⟩
      · have hE2 : (bytesE l == 0) = false := by simp [hE0]
        generalize bytesT l = T at *
        generalize bytesE l = F at *
        by_cases hE : E = 0
        · subst hE
          have HBk := Lib.hid (HBack.out rfl)
          clear hA hb HBack hE0 hr
          go_enter Try.func4, Try.ntmps4
          go_wp2_with fail
          refine HG.out.mono ?_; rintro e w1 ⟨rfl, hb1⟩
          have B1 := Lib.hid hb1
          have A1 := Lib.hid (HA.out.below hb1)
          clear hb1 HG
          go_wp2_with fail
          refine (HBy.out _ A1.out).mono ?_; rintro e w2 ⟨rfl, hb2⟩
          have B2 := Lib.hid (Bx.then_below B1.out hb2)
          clear hb2 B1 A1
          go_wp2_with fail
          refine (HRd.out _).mono ?_; rintro e w5 ⟨D, c5, rfl, hd5, hb5⟩
          have B5 := Lib.hid (Bx.then_below B2.out hb5)
          have D5 := Lib.hid hd5
          clear hb5 B2 hd5
          go_wp2_with fail
          refine (HBk.out _ _ _ D5.out).mono ?_; rintro e w6 ⟨rfl, hb6⟩
          have B6 := Lib.hid (Bx.then_below B5.out hb6)
          clear hb6 B5 D5
          go_wp2_with fail
          refine (HAW.out _).mono ?_; rintro e w7 ⟨rfl, hb7⟩
          have B7 := Lib.hid (Bx.then_below B6.out hb7)
          clear hb7 B6
          go_wp2_with fail
          go_ret
          exact ⟨rfl, B7.out⟩
        · have hE1 : (E == 0) = false := by simp [hE]
          clear hA hb HBack hE0 hr
          go_enter Try.func4, Try.ntmps4
          go_wp2_with fail
          refine HG.out.mono ?_; rintro e w1 ⟨rfl, hb1⟩
          have B1 := Lib.hid hb1
          have A1 := Lib.hid (HA.out.below hb1)
          clear hb1 HG
          go_wp2_with fail
          refine (HBy.out _ A1.out).mono ?_; rintro e w2 ⟨rfl, hb2⟩
          have B2 := Lib.hid (Bx.then_below B1.out hb2)
          clear hb2 B1 A1
          go_wp2_with fail
          refine (HRd.out _).mono ?_; rintro e w5 ⟨D, c5, rfl, hd5, hb5⟩
          have B5 := Lib.hid (Bx.then_below B2.out hb5)
          clear hb5 B2 hd5
          go_wp2_with fail
          refine (HAW.out _).mono ?_; rintro e w7 ⟨rfl, hb7⟩
          have B7 := Lib.hid (Bx.then_below B5.out hb7)
          clear hb7 B5
          go_wp2_with fail
          go_ret
          exact ⟨rfl, B7.out⟩

end Att
namespace LawAttrBack
open Go.ChangeShapes Go.WideShapes Go.ChangeAt Go.RowKit
open Go.ChangeMaps (open_string shut_string)

theorem own : ownKnob Try.prog.godebug = none := by kernel_rfl
theorem laidOut : laidOutB Try.prog = true := by kernel_rfl

set_option maxRecDepth 100000 in
theorem lifted (os : Os) (started : os.Started) (H : Type) (enc : TypeId × Value → H) :
    ReturnsInHanded {} Try.checked os 4 .any (Rows.attrBackSpec.pre6 enc Try.prog Try.f4 Rows.attrBackRow.domain false) (Rows.attrBackSpec.post enc Try.prog Try.f4 false true false false) := by
  refine Fr.law_lift (C := Try.checked) (tb := 4) own started (by kernel_rfl) Try.func4
    (ChangeSpec.witness6 (enc := enc) (C := Try.checked) false ⟨#[], #[.slice none 0 0, .string ByteArray.empty], []⟩ 8 (by kernel_rfl) (by kernel_rfl) (by kernel_rfl) (by kernel_rfl))
    laidOut (by rw [Try.params4]; decide +kernel) rfl Try.underlying4 rfl ?_ ?_
  · intro ds hl
    match ds, hl with
    | [d0, d1], _ => rfl
  · intro W base args ds p hval hA
    rw [Try.params4] at hA hval
    obtain ⟨v0, vs0, d0, ds0, p0, q0, hargs, rfl, rfl, h0, r0⟩ := trodAll_cons hA
    obtain ⟨v1, vs1, d1, ds1, p1, q1, rfl, rfl, rfl, h1, r1⟩ := trodAll_cons r0
    obtain ⟨rfl, rfl, rfl⟩ := trodAll_nil r1
    obtain rfl : args = #[v0, v1] := by cases args; simp_all
    obtain ⟨A0, l0, c0, rfl, hl0, hA0, _⟩ := Att.open_ats (hval 0 22 v0 rfl rfl) h0
    obtain ⟨a1, rfl, rfl, rfl, w1⟩ := open_string Try.underlying9 (hval 1 9 v1 rfl rfl) h1
    exact Att.walk_back W l0 hl0 A0 c0 hA0 a1 w1

theorem over : Rows.attrBackRow.holds Try.pinned (OpenSpec.ofChange Rows.attrBackSpec) :=
  OpenClaim.holds_of_wide 4 Try.f4 rfl rfl rfl rfl rfl rfl rfl ⟨rfl, rfl, rfl, rfl, rfl⟩ rfl rfl rfl rfl rfl (by kernel_rfl) Try.func4 (by kernel_rfl)
    (of_decide_eq_true (by kernel_rfl)) (by unfold Func.isWrapper; first | (rw [if_pos (by decide +kernel)]; kernel_rfl) | (rw [if_neg (by decide +kernel)]; exact ⟨rfl, rfl⟩))
    (fun os started H enc _ => lifted os started H enc)
end LawAttrBack

/-- The statement AttrBack. -/
theorem attrBack_holds : Rows.AttrBackSaid := LawAttrBack.over

end Go.Proofs.Ytjocabnhdifedaa
