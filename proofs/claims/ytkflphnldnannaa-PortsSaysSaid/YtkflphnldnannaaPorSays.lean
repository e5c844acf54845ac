/-
  The statement PortsSays: for every set, port and text the law PortsSays returns true, and its arguments read afterwards as they read before.
-/
import Derived.Test.YtkflphnldnannaaPorAwake
import Derived.Test.YtkflphnldnannaaFrame
import Derived.Test.YtkflphnldnannaaRows
import Derived.WalkSmall
namespace Go.Proofs.Ytkflphnldnannaa
open Go.RowKit
namespace Por

set_option maxRecDepth 100000 in
set_option maxHeartbeats 4000000 in
theorem law_says (w : World) (x : Int) (_wx : (Lit.int .i64 x).wf = true) (p : Int) (_wp : (Lit.int .i64 p).wf = true) (s : ByteArray) (_ws : s.size ≤ maxLen) :
    Calls Try.prog 3 #[.int .i64 x, .int .i64 p, .string s] w fun e w' => e = .returned (.bool true) ∧ Below w.heap.size w w' := by
  have HA := Lib.hid (awake_any)
  by_cases hl : 300 < s.size
  · have bel := Bx.bel_refl w
    go_enter Try.func3, Try.ntmps3
    go_wp2_with fail
    refine (HA.out _).mono ?_; rintro e w1 ⟨rfl, hb1⟩
    replace bel := Bx.then_below bel hb1
    clear hb1
    go_wp2
    go_ret
    exact ⟨rfl, bel⟩
  · have bel := Bx.bel_refl w
    have P1 := Lib.hid (fun w => parse_any s w (by omega))
    have P2 := Lib.hid (fun w => rparse_any s w (by omega))
    have L1 := Lib.hid (list_any x)
    have L2 := Lib.hid (rlist_any x)
    have H1 := Lib.hid (has_any x p)
    have H2 := Lib.hid (rhas_any x p)
    have W1 := Lib.hid (with_any x p)
    have W2 := Lib.hid (rwith_any x p)
    have U1 := Lib.hid (without_any x p)
    have U2 := Lib.hid (rwithout_any x p)
    have C1 := Lib.hid (count_any x)
    have C2 := Lib.hid (rcount_any x)
    have T1 := Lib.hid (text_any x)
    have T2 := Lib.hid (rtext_any x)
    have hlen := listI_len (low x) 8
    generalize listI (low x) 8 = l at *
    generalize textB (low x) = T at *
    generalize hasZ (low x) p = h at *
    generalize withI x p = X at *
    generalize withoutI x p = O at *
    generalize valT s = V at *
    generalize errT s = E at *
    go_enter Try.func3, Try.ntmps3
    go_wp2_with fail
    refine (P1.out _).mono ?_; rintro e w1 ⟨rfl, hb1⟩
    replace bel := Bx.then_below bel hb1
    clear hb1
    go_wp2_with fail
    refine (P2.out _).mono ?_; rintro e w2 ⟨rfl, hb2⟩
    replace bel := Bx.then_below bel hb2
    clear hb2
    go_wp2_with fail
    refine (L1.out _).mono ?_; rintro e w3 ⟨A, ca, rfl, hI, hb3⟩
    replace bel := Bx.then_below bel hb3
    clear hb3
    go_wp2_with fail
    refine (L2.out _).mono ?_; rintro e w4 ⟨B, cb, rfl, hJ, hb4⟩
    replace bel := Bx.then_below bel hb4
    have HI := Lib.hid (hI.below hb4)
    have HJ := Lib.hid hJ
    clear hb4 hI hJ
    go_wp2
    go_loopw [39] (fun i wr => ∃ k : Nat, k ≤ l.length ∧ i = .int .i64 k ∧ Aside (Below w4.heap.size w4 wr)) (fun i _ => l.length - (intOf i).toNat)
    case atStart => exact ⟨0, Nat.zero_le _, rfl, Below.refl _ _⟩
    case round =>
      obtain ⟨k, hk, rfl, HB⟩ := hrel
      by_cases hlt : k < l.length
      · obtain ⟨ad, rfl, hab, hc⟩ := (HI.out.below HB.out).at hlt
        obtain ⟨bd, rfl, hbb, hd⟩ := (HJ.out.below HB.out).at hlt
        generalize l[k] = y at *
        have g1 : (k : Int) < (l.length : Int) := by omega
        go_wp2
        go_quiet (fail)
        go_wp2
        go_roundw
        case rel => exact ⟨k + 1, by omega, by go_num, below_drewN HB.out _⟩
        case measure => simp [intOf]; omega
      · obtain rfl : k = l.length := by omega
        have bel2 := bel.trans (HB.out.mono bel.size)
        clear bel HB
        have bel := bel2
        clear bel2
        go_wp2_with fail
        refine (H1.out _).mono ?_; rintro e w' ⟨rfl, rfl⟩
        go_wp2_with fail
        refine (H2.out _).mono ?_; rintro e w' ⟨rfl, rfl⟩
        go_wp2_with fail
        refine (W1.out _).mono ?_; rintro e w' ⟨rfl, rfl⟩
        go_wp2_with fail
        refine (W2.out _).mono ?_; rintro e w' ⟨rfl, rfl⟩
        go_wp2_with fail
        refine (U1.out _).mono ?_; rintro e w' ⟨rfl, rfl⟩
        go_wp2_with fail
        refine (U2.out _).mono ?_; rintro e w' ⟨rfl, rfl⟩
        go_wp2_with fail
        refine (C1.out _).mono ?_; rintro e w' ⟨rfl, rfl⟩
        go_wp2_with fail
        refine (C2.out _).mono ?_; rintro e w5 ⟨rfl, hb5⟩
        replace bel := Bx.then_below bel hb5
        clear hb5
        go_wp2_with fail
        refine (T1.out _).mono ?_; rintro e w6 ⟨rfl, hb6⟩
        replace bel := Bx.then_below bel hb6
        clear hb6
        go_wp2_with fail
        refine (T2.out _).mono ?_; rintro e w7 ⟨rfl, hb7⟩
        replace bel := Bx.then_below bel hb7
        clear hb7
        go_wp2_with fail
        refine (HA.out _).mono ?_; rintro e w8 ⟨rfl, hb8⟩
        replace bel := Bx.then_below bel hb8
        clear hb8
        go_wp2
        go_ret
        exact ⟨rfl, bel⟩

end Por

namespace LawPortsSays
open Go.ChangeShapes Go.WideShapes Go.ChangeAt Go.RowKit
open Go.ChangeMaps (open_string shut_string)

theorem own : ownKnob Try.prog.godebug = none := by kernel_rfl
theorem laidOut : laidOutB Try.prog = true := by kernel_rfl

set_option maxRecDepth 100000 in
theorem lifted (os : Os) (started : os.Started) (H : Type) (enc : TypeId × Value → H) :
    ReturnsInHanded {} Try.checked os 3 .any (Rows.portsSaysSpec.pre6 enc Try.prog Try.f3 Rows.portsSaysRow.domain false) (Rows.portsSaysSpec.post enc Try.prog Try.f3 false true false false) := by
  refine Fr.law_lift (C := Try.checked) (tb := 4) own started (by kernel_rfl) Try.func3
    (ChangeSpec.witness6 (enc := enc) (C := Try.checked) false ⟨#[], #[.int .i64 0, .int .i64 0, .string ByteArray.empty], []⟩ 8 (by kernel_rfl) (by kernel_rfl) (by kernel_rfl) (by kernel_rfl))
    laidOut (by rw [Try.params3]; decide +kernel) rfl Try.underlying4 rfl ?_ ?_
  · intro ds hl
    match ds, hl with
    | [d0, d1, d2], _ => rfl
  · intro W base args ds p hval hA
    rw [Try.params3] at hA hval
    obtain ⟨v0, vs0, d0, ds0, p0, q0, hargs, rfl, rfl, h0, r0⟩ := trodAll_cons hA
    obtain ⟨v1, vs1, d1, ds1, p1, q1, rfl, rfl, rfl, h1, r1⟩ := trodAll_cons r0
    obtain ⟨v2, vs2, d2, ds2, p2, q2, rfl, rfl, rfl, h2, r2⟩ := trodAll_cons r1
    obtain ⟨rfl, rfl, rfl⟩ := trodAll_nil r2
    obtain rfl : args = #[v0, v1, v2] := by cases args; simp_all
    obtain ⟨a0, rfl, rfl, rfl, w0⟩ := open_int Try.underlying3 (hval 0 3 v0 rfl rfl) h0
    obtain ⟨a1, rfl, rfl, rfl, w1⟩ := open_int Try.underlying3 (hval 1 3 v1 rfl rfl) h1
    obtain ⟨a2, rfl, rfl, rfl, w2⟩ := open_string Try.underlying9 (hval 2 9 v2 rfl rfl) h2
    exact Por.law_says W a0 w0 a1 w1 a2 w2

theorem over : Rows.portsSaysRow.holds Try.pinned (OpenSpec.ofChange Rows.portsSaysSpec) :=
  OpenClaim.holds_of_wide 3 Try.f3 rfl rfl rfl rfl rfl rfl rfl ⟨rfl, rfl, rfl, rfl, rfl⟩ rfl rfl rfl rfl rfl (by kernel_rfl) Try.func3 (by kernel_rfl)
    (of_decide_eq_true (by kernel_rfl)) (by unfold Func.isWrapper; first | (rw [if_pos (by decide +kernel)]; kernel_rfl) | (rw [if_neg (by decide +kernel)]; exact ⟨rfl, rfl⟩))
    (fun os started H enc _ => lifted os started H enc)
end LawPortsSays

/-- The statement PortsSays. -/
theorem portsSays_holds : Rows.PortsSaysSaid := LawPortsSays.over
end Go.Proofs.Ytkflphnldnannaa
