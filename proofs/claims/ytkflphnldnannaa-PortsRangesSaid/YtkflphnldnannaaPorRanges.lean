/-
  The statement PortsRanges: for every set, port and text the law PortsRanges returns true, and its arguments read afterwards as they read before.
-/
import Derived.Test.YtkflphnldnannaaPorAwake
import Derived.Test.YtkflphnldnannaaFrame
import Derived.Test.YtkflphnldnannaaRows
namespace Go.Proofs.Ytkflphnldnannaa
open Go.RowKit
namespace Por

theorem and_set3 (x : Int) : bits BinOp.and IntKind.i64 x 255 = ((low x : Nat) : Int) := by rw [and255]; unfold low; omega

theorem back_ranges (m : Nat) (h : m < 256) : valR (rangesB m) = m ∧ errR (rangesB m) = 0 := by
  have := (readR_some (rangesB m) m).2 ⟨h, (rangesB_list m).symm⟩
  unfold valR errR
  rw [this]
  exact ⟨rfl, rfl⟩

theorem ranges_ways (s : ByteArray) : (valR s = 0 ∧ errR s = 3) ∨ (valR s < 256 ∧ errR s = 0 ∧ rangesB (valR s) = s) := by
  cases h : readR s with
  | none =>
    left
    unfold valR errR
    rw [h]
    exact ⟨rfl, rfl⟩
  | some m =>
    right
    obtain ⟨h1, h2⟩ := (readR_some s m).1 h
    have h3 : valR s = m := by unfold valR; rw [h]; rfl
    rw [h3]
    exact ⟨h1, by unfold errR; rw [h]; rfl, (bytes_eq s _).2 h2⟩

theorem rangesB_size (m : Nat) : (rangesB m).size ≤ 16 := by
  show (rangesL m).toArray.size ≤ 16
  unfold rangesL
  split
  · decide
  · simpa using rangL_len m 8

/-- The next port: none of none, else one of the set. -/
theorem next_ways (x p : Int) : (low x = 0 ∧ nextN (low x) (p % 8).toNat < 0) ∨ (low x ≠ 0 ∧ 0 ≤ nextN (low x) (p % 8).toNat ∧ hasZ (low x) (nextN (low x) (p % 8).toNat) = true) := by
  obtain ⟨h1, h2, h3, h4⟩ := next_fin ⟨low x, low_lt x⟩ ⟨(p % 8).toNat, by omega⟩
  simp only at h1 h2 h3 h4
  by_cases h0 : low x = 0
  · left
    refine ⟨h0, ?_⟩
    have : decide (0 ≤ nextN (low x) (p % 8).toNat) = false := by rw [h1, h0]; rfl
    have := of_decide_eq_false this
    omega
  · right
    have : decide (0 ≤ nextN (low x) (p % 8).toNat) = true := by rw [h1]; simpa using h0
    have h5 := of_decide_eq_true this
    exact ⟨h0, h5, h4.resolve_left (by omega)⟩

set_option maxRecDepth 100000 in
set_option maxHeartbeats 4000000 in
theorem law_ranges (w : World) (x : Int) (_wx : (Lit.int .i64 x).wf = true) (p : Int) (_wp : (Lit.int .i64 p).wf = true) (s : ByteArray) (_ws : s.size ≤ maxLen) :
    Calls Try.prog 5 #[.int .i64 x, .int .i64 p, .string s] w fun e w' => e = .returned (.bool true) ∧ Below w.heap.size w w' := by
  have HA := Lib.hid (awake_any)
  by_cases hl : 300 < s.size
  · have bel := Bx.bel_refl w
    go_enter Try.func5, Try.ntmps5
    go_wp2_with fail
    refine (HA.out _).mono ?_; rintro e w1 ⟨rfl, hb1⟩
    replace bel := Bx.then_below bel hb1
    clear hb1
    go_wp2
    go_ret
    exact ⟨rfl, bel⟩
  · have bel := Bx.bel_refl w
    have Q1 := Lib.hid (fun w => pranges_any s w (by omega))
    have Q2 := Lib.hid (fun w => rpranges_any s w (by omega))
    have R1 := Lib.hid (ranges_any x)
    have R2 := Lib.hid (rranges_any x)
    have N1 := Lib.hid (next_any x p)
    have N2 := Lib.hid (rnext_any x p)
    have Q3 := Lib.hid (fun w => pranges_any (rangesB (low x)) w (by have := rangesB_size (low x); omega))
    rw [(back_ranges _ (low_lt x)).1, (back_ranges _ (low_lt x)).2] at Q3
    have hand := and_set3 x
    have hnw := next_ways x p
    have hH := has_is x (nextN (low x) (p % 8).toNat) true
    have hways := ranges_ways s
    obtain ⟨z, hz⟩ : ∃ z : Int, ((low x : Nat) : Int) = z := ⟨_, rfl⟩
    have hz0 : z = 0 ↔ low x = 0 := by omega
    rw [hz] at Q3 hand
    clear hz
    generalize rangesB (low x) = T at *
    generalize nextN (low x) (p % 8).toNat = N at *
    rcases hways with ⟨v1, v2⟩ | ⟨v0, v1, v2⟩
    · rw [v1, v2] at Q1 Q2
      clear v1 v2
      rcases hnw with ⟨n1, n2⟩ | ⟨n1, n2, n3⟩
      · obtain rfl := hz0.2 n1
        have g0 : decide (0 ≤ N) = false := decide_eq_false (by omega)
        have g1 : decide (N < 0) = true := decide_eq_true n2
        clear n1 hz0 hH
        go_enter Try.func5, Try.ntmps5
        go_wp2_with fail
        refine (Q1.out _).mono ?_; rintro e w1 ⟨rfl, hb1⟩
        replace bel := Bx.then_below bel hb1
        clear hb1
        go_wp2_with fail
        refine (Q2.out _).mono ?_; rintro e w2 ⟨rfl, hb2⟩
        replace bel := Bx.then_below bel hb2
        clear hb2
        go_wp2_with fail
        refine (R1.out _).mono ?_; rintro e w3 ⟨rfl, hb3⟩
        replace bel := Bx.then_below bel hb3
        clear hb3
        go_wp2_with fail
        refine (R2.out _).mono ?_; rintro e w4 ⟨rfl, hb4⟩
        replace bel := Bx.then_below bel hb4
        clear hb4
        go_wp2_with fail
        refine (N1.out _).mono ?_; rintro e w' ⟨rfl, rfl⟩
        go_wp2_with fail
        refine (N2.out _).mono ?_; rintro e w' ⟨rfl, rfl⟩
        go_wp2_with fail
        refine (R1.out _).mono ?_; rintro e w5 ⟨rfl, hb5⟩
        replace bel := Bx.then_below bel hb5
        clear hb5
        go_wp2_with fail
        refine (Q3.out _).mono ?_; rintro e w6 ⟨rfl, hb6⟩
        replace bel := Bx.then_below bel hb6
        clear hb6
        go_wp2_with fail
        refine (N1.out _).mono ?_; rintro e w' ⟨rfl, rfl⟩
        go_wp2_with fail
        refine (HA.out _).mono ?_; rintro e w9 ⟨rfl, hb9⟩
        replace bel := Bx.then_below bel hb9
        clear hb9
        go_wp2
        go_ret
        exact ⟨rfl, bel⟩
      · have H1 := Lib.hid (hH n3)
        have e0 : (z == 0) = false := beq_eq_false_iff_ne.2 (fun h => n1 (hz0.1 h))
        have e1 : ¬ z = 0 := fun h => n1 (hz0.1 h)
        have e2 : (z != 0) = true := bne_iff_ne.2 e1
        have g0 : decide (0 ≤ N) = true := decide_eq_true n2
        have g1 : decide (N < 0) = false := decide_eq_false (by omega)
        clear n1 n3 hz0 hH
        go_enter Try.func5, Try.ntmps5
        go_wp2_with fail
        refine (Q1.out _).mono ?_; rintro e w1 ⟨rfl, hb1⟩
        replace bel := Bx.then_below bel hb1
        clear hb1
        go_wp2_with fail
        refine (Q2.out _).mono ?_; rintro e w2 ⟨rfl, hb2⟩
        replace bel := Bx.then_below bel hb2
        clear hb2
        go_wp2_with fail
        refine (R1.out _).mono ?_; rintro e w3 ⟨rfl, hb3⟩
        replace bel := Bx.then_below bel hb3
        clear hb3
        go_wp2_with fail
        refine (R2.out _).mono ?_; rintro e w4 ⟨rfl, hb4⟩
        replace bel := Bx.then_below bel hb4
        clear hb4
        go_wp2_with fail
        refine (N1.out _).mono ?_; rintro e w' ⟨rfl, rfl⟩
        go_wp2_with fail
        refine (N2.out _).mono ?_; rintro e w' ⟨rfl, rfl⟩
        go_wp2_with fail
        refine (R1.out _).mono ?_; rintro e w5 ⟨rfl, hb5⟩
        replace bel := Bx.then_below bel hb5
        clear hb5
        go_wp2_with fail
        refine (Q3.out _).mono ?_; rintro e w6 ⟨rfl, hb6⟩
        replace bel := Bx.then_below bel hb6
        clear hb6
        go_wp2_with fail
        refine (N1.out _).mono ?_; rintro e w' ⟨rfl, rfl⟩
        go_wp2_with fail
        refine (H1.out _).mono ?_; rintro e w' ⟨rfl, rfl⟩
        go_wp2_with fail
        refine (HA.out _).mono ?_; rintro e w9 ⟨rfl, hb9⟩
        replace bel := Bx.then_below bel hb9
        clear hb9
        go_wp2
        go_ret
        exact ⟨rfl, bel⟩
    · have R3 := Lib.hid (ranges_any (valR s))
      rw [low_nat _ v0, v2] at R3
      rw [v1] at Q1 Q2
      generalize valR s = b at *
      clear v1 v2
      rcases hnw with ⟨n1, n2⟩ | ⟨n1, n2, n3⟩
      · obtain rfl := hz0.2 n1
        have g0 : decide (0 ≤ N) = false := decide_eq_false (by omega)
        have g1 : decide (N < 0) = true := decide_eq_true n2
        clear n1 hz0 hH
        go_enter Try.func5, Try.ntmps5
        go_wp2_with fail
        refine (Q1.out _).mono ?_; rintro e w1 ⟨rfl, hb1⟩
        replace bel := Bx.then_below bel hb1
        clear hb1
        go_wp2_with fail
        refine (Q2.out _).mono ?_; rintro e w2 ⟨rfl, hb2⟩
        replace bel := Bx.then_below bel hb2
        clear hb2
        go_wp2_with fail
        refine (R1.out _).mono ?_; rintro e w3 ⟨rfl, hb3⟩
        replace bel := Bx.then_below bel hb3
        clear hb3
        go_wp2_with fail
        refine (R2.out _).mono ?_; rintro e w4 ⟨rfl, hb4⟩
        replace bel := Bx.then_below bel hb4
        clear hb4
        go_wp2_with fail
        refine (N1.out _).mono ?_; rintro e w' ⟨rfl, rfl⟩
        go_wp2_with fail
        refine (N2.out _).mono ?_; rintro e w' ⟨rfl, rfl⟩
        go_wp2_with fail
        refine (R1.out _).mono ?_; rintro e w5 ⟨rfl, hb5⟩
        replace bel := Bx.then_below bel hb5
        clear hb5
        go_wp2_with fail
        refine (Q3.out _).mono ?_; rintro e w6 ⟨rfl, hb6⟩
        replace bel := Bx.then_below bel hb6
        clear hb6
        go_wp2_with fail
        refine (N1.out _).mono ?_; rintro e w' ⟨rfl, rfl⟩
        go_wp2_with fail
        refine (R3.out _).mono ?_; rintro e w7 ⟨rfl, hb7⟩
        replace bel := Bx.then_below bel hb7
        clear hb7
        go_wp2_with fail
        refine (HA.out _).mono ?_; rintro e w9 ⟨rfl, hb9⟩
        replace bel := Bx.then_below bel hb9
        clear hb9
        go_wp2
        go_ret
        exact ⟨rfl, bel⟩
      · have H1 := Lib.hid (hH n3)
        have e0 : (z == 0) = false := beq_eq_false_iff_ne.2 (fun h => n1 (hz0.1 h))
        have e1 : ¬ z = 0 := fun h => n1 (hz0.1 h)
        have e2 : (z != 0) = true := bne_iff_ne.2 e1
        have g0 : decide (0 ≤ N) = true := decide_eq_true n2
        have g1 : decide (N < 0) = false := decide_eq_false (by omega)
        clear n1 n3 hz0 hH
        go_enter Try.func5, Try.ntmps5
        go_wp2_with fail
        refine (Q1.out _).mono ?_; rintro e w1 ⟨rfl, hb1⟩
        replace bel := Bx.then_below bel hb1
        clear hb1
        go_wp2_with fail
        refine (Q2.out _).mono ?_; rintro e w2 ⟨rfl, hb2⟩
        replace bel := Bx.then_below bel hb2
        clear hb2
        go_wp2_with fail
        refine (R1.out _).mono ?_; rintro e w3 ⟨rfl, hb3⟩
        replace bel := Bx.then_below bel hb3
        clear hb3
        go_wp2_with fail
        refine (R2.out _).mono ?_; rintro e w4 ⟨rfl, hb4⟩
        replace bel := Bx.then_below bel hb4
        clear hb4
        go_wp2_with fail
        refine (N1.out _).mono ?_; rintro e w' ⟨rfl, rfl⟩
        go_wp2_with fail
        refine (N2.out _).mono ?_; rintro e w' ⟨rfl, rfl⟩
        go_wp2_with fail
        refine (R1.out _).mono ?_; rintro e w5 ⟨rfl, hb5⟩
        replace bel := Bx.then_below bel hb5
        clear hb5
        go_wp2_with fail
        refine (Q3.out _).mono ?_; rintro e w6 ⟨rfl, hb6⟩
        replace bel := Bx.then_below bel hb6
        clear hb6
        go_wp2_with fail
        refine (N1.out _).mono ?_; rintro e w' ⟨rfl, rfl⟩
        go_wp2_with fail
        refine (R3.out _).mono ?_; rintro e w7 ⟨rfl, hb7⟩
        replace bel := Bx.then_below bel hb7
        clear hb7
        go_wp2_with fail
        refine (H1.out _).mono ?_; rintro e w' ⟨rfl, rfl⟩
        go_wp2_with fail
        refine (HA.out _).mono ?_; rintro e w9 ⟨rfl, hb9⟩
        replace bel := Bx.then_below bel hb9
        clear hb9
        go_wp2
        go_ret
        exact ⟨rfl, bel⟩

end Por

namespace LawPortsRanges
open Go.ChangeShapes Go.WideShapes Go.ChangeAt Go.RowKit
open Go.ChangeMaps (open_string shut_string)

theorem own : ownKnob Try.prog.godebug = none := by kernel_rfl
theorem laidOut : laidOutB Try.prog = true := by kernel_rfl

set_option maxRecDepth 100000 in
theorem lifted (os : Os) (started : os.Started) (H : Type) (enc : TypeId × Value → H) :
    ReturnsInHanded {} Try.checked os 5 .any (Rows.portsRangesSpec.pre6 enc Try.prog Try.f5 Rows.portsRangesRow.domain false) (Rows.portsRangesSpec.post enc Try.prog Try.f5 false true false false) := by
  refine Fr.law_lift (C := Try.checked) (tb := 4) own started (by kernel_rfl) Try.func5
    (ChangeSpec.witness6 (enc := enc) (C := Try.checked) false ⟨#[], #[.int .i64 0, .int .i64 0, .string ByteArray.empty], []⟩ 8 (by kernel_rfl) (by kernel_rfl) (by kernel_rfl) (by kernel_rfl))
    laidOut (by rw [Try.params5]; decide +kernel) rfl Try.underlying4 rfl ?_ ?_
  · intro ds hl
    match ds, hl with
    | [d0, d1, d2], _ => rfl
  · intro W base args ds p hval hA
    rw [Try.params5] at hA hval
    obtain ⟨v0, vs0, d0, ds0, p0, q0, hargs, rfl, rfl, h0, r0⟩ := trodAll_cons hA
    obtain ⟨v1, vs1, d1, ds1, p1, q1, rfl, rfl, rfl, h1, r1⟩ := trodAll_cons r0
    obtain ⟨v2, vs2, d2, ds2, p2, q2, rfl, rfl, rfl, h2, r2⟩ := trodAll_cons r1
    obtain ⟨rfl, rfl, rfl⟩ := trodAll_nil r2
    obtain rfl : args = #[v0, v1, v2] := by cases args; simp_all
    obtain ⟨a0, rfl, rfl, rfl, w0⟩ := open_int Try.underlying3 (hval 0 3 v0 rfl rfl) h0
    obtain ⟨a1, rfl, rfl, rfl, w1⟩ := open_int Try.underlying3 (hval 1 3 v1 rfl rfl) h1
    obtain ⟨a2, rfl, rfl, rfl, w2⟩ := open_string Try.underlying9 (hval 2 9 v2 rfl rfl) h2
    exact Por.law_ranges W a0 w0 a1 w1 a2 w2

theorem over : Rows.portsRangesRow.holds Try.pinned (OpenSpec.ofChange Rows.portsRangesSpec) :=
  OpenClaim.holds_of_wide 5 Try.f5 rfl rfl rfl rfl rfl rfl rfl ⟨rfl, rfl, rfl, rfl, rfl⟩ rfl rfl rfl rfl rfl (by kernel_rfl) Try.func5 (by kernel_rfl)
    (of_decide_eq_true (by kernel_rfl)) (by unfold Func.isWrapper; first | (rw [if_pos (by decide +kernel)]; kernel_rfl) | (rw [if_neg (by decide +kernel)]; exact ⟨rfl, rfl⟩))
    (fun os started H enc _ => lifted os started H enc)
end LawPortsRanges

/-- The statement PortsRanges. -/
theorem portsRanges_holds : Rows.PortsRangesSaid := LawPortsRanges.over
end Go.Proofs.Ytkflphnldnannaa
