/-
  The statement PacketCut: for every packet and every number the law PacketCut returns true, and its arguments read afterwards as they read before.
-/
import Derived.Test.YtmacgbknmpmdiaaPacI
import Derived.Test.YtmacgbknmpmdiaaPacH
import Derived.Test.YtmacgbknmpmdiaaPacOpen
import Derived.Test.YtmacgbknmpmdiaaFrame
import Derived.Test.YtmacgbknmpmdiaaRows
namespace Go.Proofs.Ytmacgbknmpmdiaa
open Go.RowKit
namespace Pac
open Oct Att Bx

set_option maxHeartbeats 1000000 in
theorem cut_long (c i : Int) (a : ByteArray) (A : Option Addr) (n k : Nat) (x : Int) (l : List At) (w : World) (hA : Ats w A l)
    (HG : Hid (∀ w, Ats w A l → Calls Try.prog 6 #[pv c i a A n k] w fun e w' => e = .returned (.bool true) ∧ Below w.heap.size w w')) :
    Calls Try.prog 5 #[pv c i a A n k, .int .i64 x] w fun e w' => e = .returned (.bool true) ∧ Below w.heap.size w w' := by
  have B0 := Lib.hid (box_below w (po c i a A n k))
  have A0 := Lib.hid (hA.below B0.out)
  clear hA
  have HAW := Lib.hid awake_any
  go_enter Try.func5, Try.ntmps5
  go_wp2_with fail
  refine (HG.out _ A0.out).mono ?_; rintro e w1 ⟨rfl, hb1⟩
  have B1 := Lib.hid (then_below B0.out hb1)
  clear hb1
  go_wp2_with fail
  refine (HAW.out _).mono ?_; rintro e w2 ⟨rfl, hb2⟩
  have B2 := Lib.hid (then_below B1.out hb2)
  go_wp2_with fail
  go_ret
  exact ⟨rfl, B2.out⟩

set_option maxHeartbeats 1000000 in
theorem cut_wrong (c i : Int) (a : ByteArray) (A : Option Addr) (n k : Nat) (x : Int) (X : ByteArray) (l : List At) (w : World) (hA : Ats w A l)
    (HG : Hid (∀ w, Ats w A l → Calls Try.prog 6 #[pv c i a A n k] w fun e w' => e = .returned (.bool false) ∧ Below w.heap.size w w'))
    (HB : Hid (∀ w, Ats w A l → Calls Try.prog 8 #[pv c i a A n k] w fun e w' => e = .returned (.tuple #[.string X, .int .i64 1]) ∧ Below w.heap.size w w')) :
    Calls Try.prog 5 #[pv c i a A n k, .int .i64 x] w fun e w' => e = .returned (.bool true) ∧ Below w.heap.size w w' := by
  have B0 := Lib.hid (box_below w (po c i a A n k))
  have A0 := Lib.hid (hA.below B0.out)
  have K0 := Lib.hid (Blk.new w (pl c i a A n k) 24)
  clear hA
  have HAW := Lib.hid awake_any
  go_enter Try.func5, Try.ntmps5
  go_wp2_with fail
  refine (HG.out _ A0.out).mono ?_; rintro e w1 ⟨rfl, hb1⟩
  have B1 := Lib.hid (then_below B0.out hb1)
  have A1 := Lib.hid (A0.out.below hb1)
  obtain ⟨c0, c1, c2, c3⟩ := (K0.out.keep hb1).all4
  clear hb1 A0 K0 B0
  go_wp2_with fail
  refine (HB.out _ A1.out).mono ?_; rintro e w2 ⟨rfl, hb2⟩
  have B2 := Lib.hid (then_below B1.out hb2)
  clear hb2 B1 A1 c0 c1 c2 c3
  go_wp2_with fail
  refine (HAW.out _).mono ?_; rintro e w3 ⟨rfl, hb3⟩
  have B3 := Lib.hid (then_below B2.out hb3)
  go_wp2_with fail
  go_ret
  exact ⟨rfl, B3.out⟩

set_option maxHeartbeats 1000000 in
theorem cut_right (c i : Int) (a : ByteArray) (A : Option Addr) (n k : Nat) (x : Int) (N : Nat) (X : ByteArray) (l : List At) (w : World) (hA : Ats w A l) (hN : IntKind.u64.wrap x = N) (hX : 20 ≤ X.size) (hX2 : X.size ≤ 4096)
    (HG : Hid (∀ w, Ats w A l → Calls Try.prog 6 #[pv c i a A n k] w fun e w' => e = .returned (.bool false) ∧ Below w.heap.size w w'))
    (HB : Hid (∀ w, Ats w A l → Calls Try.prog 8 #[pv c i a A n k] w fun e w' => e = .returned (.tuple #[.string X, .int .i64 0]) ∧ Below w.heap.size w w'))
    (HR : Hid (∀ w, Calls Try.prog 10 #[.string (X.extract 0 (N % X.size))] w (GivesP (noR 2) w))) :
    Calls Try.prog 5 #[pv c i a A n k, .int .i64 x] w fun e w' => e = .returned (.bool true) ∧ Below w.heap.size w w' := by
  have B0 := Lib.hid (box_below w (po c i a A n k))
  have A0 := Lib.hid (hA.below B0.out)
  have K0 := Lib.hid (Blk.new w (pl c i a A n k) 24)
  clear hA
  have HAW := Lib.hid awake_any
  have q2 : IntKind.u64.wrap (X.size : Int) = X.size := by rw [IntKind.wrap_u64]; omega
  have hlt : N % X.size < X.size := Nat.mod_lt _ (by omega)
  go_enter Try.func5, Try.ntmps5
  go_wp2_with fail
  refine (HG.out _ A0.out).mono ?_; rintro e w1 ⟨rfl, hb1⟩
  have B1 := Lib.hid (then_below B0.out hb1)
  have A1 := Lib.hid (A0.out.below hb1)
  obtain ⟨c0, c1, c2, c3⟩ := (K0.out.keep hb1).all4
  clear hb1 A0 K0 B0
  go_wp2_with fail
  refine (HB.out _ A1.out).mono ?_; rintro e w2 ⟨rfl, hb2⟩
  have B2 := Lib.hid (then_below B1.out hb2)
  clear hb2 B1 A1 c0 c1 c2 c3
  go_wp2_with fail
  refine (HR.out _).mono ?_; rintro e w3 ⟨B, kb, rfl, _, hb3⟩
  have B3 := Lib.hid (bel_box (then_below B2.out hb3) (po 0 0 ⟨#[]⟩ B 0 kb))
  clear hb3 B2
  go_wp2_with fail
  refine (HAW.out _).mono ?_; rintro e w4 ⟨rfl, hb4⟩
  have B4 := Lib.hid (then_below B3.out hb4)
  go_wp2_with fail
  go_ret
  exact ⟨rfl, B4.out⟩

/-- What the law does. -/
theorem walk_cut (w : World) (c i : Int) (a : ByteArray) (ha : a.size ≤ maxLen) (l : List At) (hl : l.length ≤ maxLen) (A : Option Addr) (k : Nat) (_hk : l.length ≤ k) (_hn : A = none → k = 0) (hA : Ats w A l) (x : Int) (_hx : (Lit.int IntKind.i64 x).wf = true) :
    Calls Try.prog 5 #[pv c i a A l.length k, .int .i64 x] w fun e w' => e = .returned (.bool true) ∧ Below w.heap.size w w' := by
  have HG := Lib.hid (fun w hA => long_any c i a ha l hl A k w hA)
  have HB := Lib.hid (fun w hA => bytes_any c i a ha l hl A k w hA)
  cases hg : longP a l with
  | true =>
    rw [hg] at HG
    exact cut_long c i a A _ k x l w hA HG
  | false =>
    rw [hg] at HG
    cases hr : rightP c i a l with
    | false =>
      rw [(not_right hr).2] at HB
      exact cut_wrong c i a A _ k x _ l w hA HG HB
    | true =>
      rw [(is_right hr).1, (is_right hr).2] at HB
      obtain ⟨⟨_, _, h16⟩, _, hT⟩ := right_iff.1 hr
      have hw := wire_size c i a l
      obtain ⟨N, hN⟩ : ∃ N : Nat, IntKind.u64.wrap x = N := Int.eq_ofNat_of_zero_le (by rw [IntKind.wrap_u64]; omega)
      refine cut_right c i a A _ k x N _ l w hA hN (by omega) (by omega) HG HB (Lib.hid fun w => ?_)
      have e := read_any ((wireP c i a l).extract 0 (N % (wireP c i a l).size)) (by rw [ByteArray.size_extract]; unfold maxLen; omega) w
      rwa [read_cut hr _ (Nat.mod_lt _ (by omega))] at e

end Pac
namespace LawPacketCut
open Go.ChangeShapes Go.WideShapes Go.ChangeAt Go.RowKit
open Go.ChangeMaps (open_string shut_string)

theorem own : ownKnob Try.prog.godebug = none := by kernel_rfl
theorem laidOut : laidOutB Try.prog = true := by kernel_rfl

set_option maxRecDepth 100000 in
theorem lifted (os : Os) (started : os.Started) (H : Type) (enc : TypeId × Value → H) :
    ReturnsInHanded {} Try.checked os 5 .any (Rows.packetCutSpec.pre6 enc Try.prog Try.f5 Rows.packetCutRow.domain false) (Rows.packetCutSpec.post enc Try.prog Try.f5 false true false false) := by
  refine Fr.law_lift (C := Try.checked) (tb := 4) own started (by kernel_rfl) Try.func5
    (ChangeSpec.witness6 (enc := enc) (C := Try.checked) false ⟨#[], #[.agg #[.int .i64 0, .int .i64 0, .string ByteArray.empty, .slice none 0 0], .int .i64 0], []⟩ 8 (by kernel_rfl) (by kernel_rfl) (by kernel_rfl) (by kernel_rfl))
    laidOut (by rw [Try.params5]; decide +kernel) rfl Try.underlying4 rfl ?_ ?_
  · intro ds hl
    match ds, hl with
    | [d0, d1], _ => rfl
  · intro W base args ds p hval hA
    rw [Try.params5] at hA hval
    obtain ⟨v0, vs0, d0, ds0, p0, q0, hargs, rfl, rfl, h0, r0⟩ := trodAll_cons hA
    obtain ⟨v1, vs1, d1, ds1, p1, q1, rfl, rfl, rfl, h1, r1⟩ := trodAll_cons r0
    obtain ⟨rfl, rfl, rfl⟩ := trodAll_nil r1
    obtain rfl : args = #[v0, v1] := by cases args; simp_all
    obtain ⟨c0, i0, a0, A0, l0, k0, rfl, ha0, hl0, hk0, hn0, hA0⟩ := Pac.open_packet (hval 0 24 v0 rfl rfl) h0
    obtain ⟨a1, rfl, rfl, rfl, w1⟩ := open_int Try.underlying3 (hval 1 3 v1 rfl rfl) h1
    exact Pac.walk_cut W c0 i0 a0 ha0 l0 hl0 A0 k0 hk0 hn0 hA0 a1 w1

theorem over : Rows.packetCutRow.holds Try.pinned (OpenSpec.ofChange Rows.packetCutSpec) :=
  OpenClaim.holds_of_wide 5 Try.f5 rfl rfl rfl rfl rfl rfl rfl ⟨rfl, rfl, rfl, rfl, rfl⟩ rfl rfl rfl rfl rfl (by kernel_rfl) Try.func5 (by kernel_rfl)
    (of_decide_eq_true (by kernel_rfl)) (by unfold Func.isWrapper; first | (rw [if_pos (by decide +kernel)]; kernel_rfl) | (rw [if_neg (by decide +kernel)]; exact ⟨rfl, rfl⟩))
    (fun os started H enc _ => lifted os started H enc)
end LawPacketCut

/-- The statement PacketCut. -/
theorem packetCut_holds : Rows.PacketCutSaid := LawPacketCut.over

end Go.Proofs.Ytmacgbknmpmdiaa
