/-
  The statement PreferOn: for every vector and cost the law PreferOn returns true, and its arguments read afterwards as they read before.
-/
import Derived.Test.YtkggphonoihidaaPreAwake
import Derived.Test.YtkggphonoihidaaPreOpen
import Derived.Test.YtkggphonoihidaaFrame
import Derived.Test.YtkggphonoihidaaRows
import Derived.Laws.BitsAllLaws
namespace Go.Proofs.Ytkggphonoihidaa
open Go.RowKit
namespace Pre
open Oct

theorem and_most (c : Nat) (hc : c < 18446744073709551616) : bits .and .u64 (c : Int) 4294967295 = ((c % 4294967296 : Nat) : Int) := by
  have e := u64_and_nat c 4294967295 hc (by omega)
  rw [show (4294967295 : Int) = ((4294967295 : Nat) : Int) by rfl, e, show 4294967295 = 2 ^ 32 - 1 by rfl, Nat.and_two_pow_sub_one_eq_mod]

theorem and_small (c : Nat) (hc : c < 18446744073709551616) : bits .and .u64 (c : Int) 1073741823 = ((c % 1073741824 : Nat) : Int) := by
  have e := u64_and_nat c 1073741823 hc (by omega)
  rw [show (1073741823 : Int) = ((1073741823 : Nat) : Int) by rfl, e, show 1073741823 = 2 ^ 30 - 1 by rfl, Nat.and_two_pow_sub_one_eq_mod]

theorem on_not (r c m b : Nat) (p : Int) (h : c ≤ m) : ltV ⟨r, m, b, p⟩ ⟨r, c, b, p⟩ = false := by
  unfold ltV
  rw [decide_eq_false_iff_not]
  simp only
  omega

set_option maxRecDepth 20000 in
set_option maxHeartbeats 8000000 in
theorem law_on (w : World) (x : Vc) (hx : wfV x) (k : Int) (hk : (Lit.int .u64 k).wf = true) :
    Calls Try.prog 5 #[vv x, .int .u64 k] w fun e w' => e = .returned (.bool true) ∧ Below w.heap.size w w' := by
  obtain ⟨k, rfl, hk2⟩ := nat_u64 hk
  obtain ⟨r, c, b, p⟩ := x
  have hc : c < 18446744073709551616 := hx.2.1
  clear hx
  have a1 := and_most c hc
  have a2 := and_small k hk2
  have l1 : c % 4294967296 ≤ 4294967295 := by omega
  have l2 : k % 1073741824 ≤ 1073741823 := by omega
  generalize c % 4294967296 = d at *
  generalize k % 1073741824 = s at *
  have HV := Lib.hid (via_any ⟨r, d, b, p⟩ k)
  have HS := Lib.hid (via_any ⟨r, d, b, p⟩ s)
  have m1 : d ≤ viaN d k ∧ viaN d k ≤ 4294967295 := by unfold viaN; omega
  have m2 : (d + s ≤ 4294967295 ∧ viaN d s = d + s) ∨ (4294967295 < d + s ∧ viaN d s = 4294967295) := by unfold viaN; omega
  have HB := Lib.hid (better_any ⟨r, viaN d k, b, p⟩ ⟨r, d, b, p⟩)
  rw [on_not r d _ b p m1.1] at HB
  have HA := Lib.hid awake_any
  simp only at HV HS
  generalize viaN d k = m at *
  have q1 : ¬ ((m : Int) < d) := by omega
  have q2 : ¬ ((4294967295 : Int) < m) := by omega
  have X0 := Lib.hid (Bx.Blk.new w (enc ⟨r, d, b, p⟩) 24)
  have B0 := Lib.hid (Bx.box_below w (vo ⟨r, d, b, p⟩))
  clear hc hk hk2 m1 l1
  go_enter Try.func5, Try.ntmps5
  go_wp2_with fail
  refine (HV.out _).mono ?_; rintro e w1 ⟨rfl, hb⟩
  have X1 := Lib.hid (X0.out.keep hb)
  have B1 := Lib.hid (Bx.then_below B0.out hb)
  have Y1 := Lib.hid (Bx.Blk.new w1 (enc ⟨r, m, b, p⟩) 24)
  have X2 := Lib.hid (X1.out.more (vo ⟨r, m, b, p⟩))
  have B2 := Lib.hid (Bx.bel_box B1.out (vo ⟨r, m, b, p⟩))
  clear hb X0 B0 X1 B1
  obtain ⟨c0, c1, c2, c3⟩ := X2.out.all4
  go_wp2_with fail
  refine (HB.out _).mono ?_; rintro e w2 ⟨rfl, hb⟩
  have X3 := Lib.hid (X2.out.keep hb)
  have Y3 := Lib.hid (Y1.out.keep hb)
  have B3 := Lib.hid (Bx.then_below B2.out hb)
  clear hb X2 B2 c0 c1 c2 c3
  obtain ⟨c0, c1, c2, c3⟩ := X3.out.all4
  obtain ⟨y0, y1, y2, y3⟩ := Y3.out.all4
  obtain ⟨t, ht⟩ : ∃ t, t = d + s := ⟨_, rfl⟩
  rw [← ht] at m2
  rcases m2 with ⟨h1, h2⟩ | ⟨h1, h2⟩
  all_goals
    rw [h2] at HS
    clear h2
    go_wp2_with fail
    refine (HS.out _).mono ?_; rintro e w3 ⟨rfl, hb⟩
    have X4 := Lib.hid (X3.out.keep hb)
    have B4 := Lib.hid (Bx.then_below B3.out hb)
    clear hb X3 B3 c0 c1 c2 c3 y0 y1 y2 y3
  · have X5 := Lib.hid (X4.out.more (.cells #[.int .u64 r, .int .u64 t, .int .u64 b, .int .i64 p] 24))
    have B5 := Lib.hid (Bx.bel_box B4.out (.cells #[.int .u64 r, .int .u64 t, .int .u64 b, .int .i64 p] 24))
    clear X4 B4
    obtain ⟨c0, c1, c2, c3⟩ := X5.out.all4
    have h3 : (d : Int) + s = t := by omega
    have h4 : IntKind.u64.wrap (t : Int) = t := by rw [IntKind.wrap_u64]; omega
    clear ht
    go_wp2_with fail
    refine (HA.out _).mono ?_; rintro e w4 ⟨rfl, hb⟩
    have B6 := Lib.hid (Bx.then_below B5.out hb)
    clear hb
    go_wp2
    go_ret
    exact ⟨rfl, B6.out⟩
  · have X5 := Lib.hid (X4.out.more (.cells #[.int .u64 r, .int .u64 4294967295, .int .u64 b, .int .i64 p] 24))
    have B5 := Lib.hid (Bx.bel_box B4.out (.cells #[.int .u64 r, .int .u64 4294967295, .int .u64 b, .int .i64 p] 24))
    clear X4 B4
    obtain ⟨c0, c1, c2, c3⟩ := X5.out.all4
    have h3 : (d : Int) + s = t := by omega
    have h4 : IntKind.u64.wrap (t : Int) = t := by rw [IntKind.wrap_u64]; omega
    have h5 : ((4294967295 : Int) == (t : Int)) = false := beq_eq_false_iff_ne.2 (by omega)
    have h6 : (4294967295 : Int) < (t : Int) := by omega
    have h7 : ¬ (4294967295 : Int) = (t : Int) := by omega
    clear ht
    go_wp2_with fail
    refine (HA.out _).mono ?_; rintro e w4 ⟨rfl, hb⟩
    have B6 := Lib.hid (Bx.then_below B5.out hb)
    clear hb
    go_wp2
    go_ret
    exact ⟨rfl, B6.out⟩

end Pre

namespace LawPreferOn
open Go.ChangeShapes Go.WideShapes Go.ChangeAt Go.RowKit
open Go.ChangeMaps (open_string shut_string)

theorem own : ownKnob Try.prog.godebug = none := by kernel_rfl
theorem laidOut : laidOutB Try.prog = true := by kernel_rfl

set_option maxRecDepth 100000 in
theorem lifted (os : Os) (started : os.Started) (H : Type) (enc : TypeId × Value → H) :
    ReturnsInHanded {} Try.checked os 5 .any (Rows.preferOnSpec.pre6 enc Try.prog Try.f5 Rows.preferOnRow.domain false) (Rows.preferOnSpec.post enc Try.prog Try.f5 false true false false) := by
  refine Fr.law_lift (C := Try.checked) (tb := 4) own started (by kernel_rfl) Try.func5
    (ChangeSpec.witness6 (enc := enc) (C := Try.checked) false ⟨#[], #[.agg #[.int .u64 0, .int .u64 0, .int .u64 0, .int .i64 0], .int .u64 0], []⟩ 8 (by kernel_rfl) (by kernel_rfl) (by kernel_rfl) (by kernel_rfl))
    laidOut (by rw [Try.params5]; decide +kernel) rfl Try.underlying4 rfl ?_ ?_
  · intro ds hl
    match ds, hl with
    | [d0, d1], _ => rfl
  · intro W base args ds p hval hA
    rw [Try.params5] at hA hval
    obtain ⟨v0, vs0, d0, ds0, p0, q0, hargs, rfl, rfl, h0, r0⟩ := trodAll_cons hA
    obtain ⟨v1, vs1, d1, ds1, p1, q1, rfl, rfl, rfl, h1, r1⟩ := trodAll_cons r0
    obtain ⟨rfl, rfl, rfl⟩ := trodAll_nil r1
    obtain rfl : args = #[v0, v1] := by cases args; simp_all
    obtain ⟨x0, rfl, hx0⟩ := Pre.open_vec (hval 0 24 v0 rfl rfl) h0
    obtain ⟨a1, rfl, rfl, rfl, w1⟩ := open_int Try.underlying22 (hval 1 22 v1 rfl rfl) h1
    exact Pre.law_on W x0 hx0 a1 w1

theorem over : Rows.preferOnRow.holds Try.pinned (OpenSpec.ofChange Rows.preferOnSpec) :=
  OpenClaim.holds_of_wide 5 Try.f5 rfl rfl rfl rfl rfl rfl rfl ⟨rfl, rfl, rfl, rfl, rfl⟩ rfl rfl rfl rfl rfl (by kernel_rfl) Try.func5 (by kernel_rfl)
    (of_decide_eq_true (by kernel_rfl)) (by unfold Func.isWrapper; first | (rw [if_pos (by decide +kernel)]; kernel_rfl) | (rw [if_neg (by decide +kernel)]; exact ⟨rfl, rfl⟩))
    (fun os started H enc _ => lifted os started H enc)
end LawPreferOn

/-- The statement PreferOn. -/
theorem preferOn_holds : Rows.PreferOnSaid := LawPreferOn.over

end Go.Proofs.Ytkggphonoihidaa
