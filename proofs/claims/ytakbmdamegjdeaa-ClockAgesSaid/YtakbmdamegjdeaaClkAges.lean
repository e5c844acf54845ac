/-
  The statement ClockAges: for every port and every number the law ClockAges returns true, and its arguments read afterwards as they read before.
-/
import Derived.Test.YtakbmdamegjdeaaClkD
import Derived.Test.YtakbmdamegjdeaaCrdOpen
import Derived.Test.YtakbmdamegjdeaaFrame
import Derived.Test.YtakbmdamegjdeaaRows
import Derived.Deep.LoopGhost
import Derived.Deep.CutBlock
namespace Go.Proofs.Ytakbmdamegjdeaa
open Go.RowKit
namespace Clk
open Pre Crd Clk

theorem ok_wf {c : Cd} (h : wfCd c) : Ok c := by
  obtain ⟨_, _, _, ht, _, hst, hhrd, hwai, hrcn, hchg, hqui, hsen, hhel⟩ := h
  exact ⟨hst.1, hwai.2, hchg.2, hqui.2, hsen.2, hhel.2, hhrd.2, hrcn.2, ht.2.2.2.2⟩

theorem rem_is (n b : Int) (hb : 0 < b) : ∃ m : Nat, (m : Int) < b ∧ (IntKind.u64.wrap n).tmod b = m := by
  have h0 : 0 ≤ IntKind.u64.wrap n := by rw [show IntKind.u64.wrap n = n % 18446744073709551616 by simp [IntKind.wrap, IntKind.bits, IntKind.signed]]; omega
  have h1 := Int.tmod_nonneg b h0
  have h2 := Int.tmod_lt_of_pos (IntKind.u64.wrap n) hb
  exact ⟨((IntKind.u64.wrap n).tmod b).toNat, by omega, by omega⟩

set_option maxRecDepth 40000 in
set_option maxHeartbeats 8000000 in
theorem walk_ages (c : Cd) (hc : Ok c) (n : Int) (w : World) : Calls Try.prog 4 #[cdv c, .int .i64 n] w fun e w' => e = .returned (.bool true) ∧ Below w.heap.size w w' := by
  obtain ⟨m, hm50, hm⟩ := rem_is n 50 (by omega)
  have h1 : IntKind.i64.wrap (m : Int) = m := by rw [IntKind.wrap_i64]; omega
  obtain ⟨N, hN⟩ : ∃ N, N = m + 1 := ⟨_, rfl⟩
  have h2 : IntKind.i64.wrap (1 + (m : Int)) = N := by rw [IntKind.wrap_i64]; omega
  have h3 : IntKind.i64.wrap ((N : Int) - 1) = (N : Int) - 1 := by rw [IntKind.wrap_i64]; omega
  have hA : Aged { c with up := true, info := 2, hrd := (N : Int) } N := ⟨⟨hc.1, hc.2.1, hc.2.2.1, hc.2.2.2.1, hc.2.2.2.2.1, hc.2.2.2.2.2.1, by show (N : Int) ≤ _; omega, hc.2.2.2.2.2.2.2.1, hc.2.2.2.2.2.2.2.2⟩, rfl, fun _ => ⟨rfl, rfl⟩, fun h => by omega⟩
  have hN50 : N ≤ 50 := by omega
  clear hN hm50 hc
  replace hA := Lib.hid hA
  have HW := Lib.hid awake_any
  have C2 : Hid (Bx.Fre (w.alloc (cdo c)) w.heap.size (cdl c)) := Lib.hid (Bx.Fre.new w (cdl c) 28)
  have bel := Lib.hid (Bx.box_below w (cdo c))
  go_enter Try.func4, Try.ntmps4
  go_upto_region 2 with fail
  generalize (w.alloc (cdo c)) = W0 at *
  clear hm h1 h2
  have C2_0 := C2.out.at 0 rfl
  have C2_4 := C2.out.at 4 rfl
  have C2_24 := C2.out.at 24 rfl
  have C2f0 := C2.out.2.2 0
  have C2f4 := C2.out.2.2 4
  have C2f24 := C2.out.2.2 24
  replace bel := Lib.hid (Bx.bel_set (k := w.heap.size) (o := 0) (x := .bool true) (by omega) bel.out)
  replace C2 := Lib.hid ((C2.out.set (0) (.bool true)).of (m := (cdl { c with up := true })) (by first | rfl | simp [enc, tenc]))
  replace bel := Lib.hid (Bx.bel_set (k := w.heap.size) (o := 4) (x := .int .i64 2) (by omega) bel.out)
  replace C2 := Lib.hid ((C2.out.set (4) (.int .i64 2)).of (m := (cdl { c with up := true, info := 2 })) (by first | rfl | simp [enc, tenc]))
  replace bel := Lib.hid (Bx.bel_set (k := w.heap.size) (o := 24) (x := .int .i64 N) (by omega) bel.out)
  replace C2 := Lib.hid ((C2.out.set (24) (.int .i64 N)).of (m := (cdl { c with up := true, info := 2, hrd := (N : Int) })) (by first | rfl | simp [enc, tenc]))
  go_upto_region 3 with fail
  clear C2_0 C2_4 C2_24 C2f0 C2f4 C2f24
  generalize (((W0.setCell ⟨w.heap.size, 0, none⟩ (.bool true)).setCell ⟨w.heap.size, 4, none⟩ (.int .i64 2)).setCell ⟨w.heap.size, 24, none⟩ (.int .i64 N)) = W2 at *
  go_wp2_with (first | ((with_reducible refine cd_load ?_ ?_ (w.heap.size) ?_ { c with up := true, info := 2, hrd := (N : Int) } ?_ ?_); (· rfl); (· rfl); (· rfl); (· exact C2.out.blk)))
  go_loopg [20] N (fun g s20 wr => ∃ (k : Nat) (x : Cd), k + g = N ∧ s20 = .int .i64 k ∧ Aside (Aged x g) ∧ Aside (Bx.Fre wr w.heap.size (cdl x)) ∧ Aside (Below w.heap.size w wr))
  case atStart => exact ⟨0, _, by omega, rfl, hA.out, C2.out, bel.out⟩
  case round =>
    clear C2 bel hA
    obtain ⟨k, x, hkg, rfl, HA, C2, bel⟩ := hrel
    cases gk with
    | zero =>
      have hkz : ¬ ((k : Int) < N) := by omega
      have HT : Hid (∀ w, Calls Try.prog 6 #[cdv x] w fun e w' => e = .returned (.tuple #[cdv (tckC x), .bool false]) ∧ Below w.heap.size w w') := Lib.hid (fun w => by have h := tick_any x HA.1 w; rw [aged_end HA] at h; exact h)
      generalize tckC x = d at *
      clear HA
      go_wp2_with (first | ((with_reducible refine cd_load ?_ ?_ (w.heap.size) ?_ x ?_ ?_); (· rfl); (· rfl); (· rfl); (· exact C2.out.blk)))
      refine (HT.out _).mono ?_; rintro e w1 ⟨rfl, hb⟩
      replace C2 := Lib.hid (C2.out.keep hb)
      replace bel := Lib.hid (Bx.then_below bel.out hb)
      clear hb
      replace C2 := Lib.hid (C2.out.more (cdo d))
      have D8 : Hid (Bx.Fre (w1.alloc (cdo d)) w1.heap.size (cdl d)) := Lib.hid (Bx.Fre.new w1 (cdl d) 28)
      replace bel := Lib.hid (Bx.bel_box bel.out (cdo d))
      go_upto_region 12 with (first | ((with_reducible refine cd_fresh ?_ ?_ (w1.heap.size) d ?_ ?_ w1 (cdl Cd.zero) ?_ ?_ ?_ ?_); (· rfl); (· rfl); (· rfl); (· rfl); (· rfl); (· rfl); (· first | rfl | (simp; done))))
      obtain ⟨n8, hn8⟩ : ∃ k, k = w1.heap.size := ⟨_, rfl⟩
      rw [← hn8] at D8 ⊢
      generalize (w1.alloc (cdo d)) = VD8 at *
      clear hn8
      go_wp2_with (first | ((with_reducible refine cd_load ?_ ?_ (w.heap.size) ?_ x ?_ ?_); (· rfl); (· rfl); (· rfl); (· exact C2.out.blk)) | ((with_reducible refine cd_load ?_ ?_ (n8) ?_ d ?_ ?_); (· rfl); (· rfl); (· rfl); (· exact D8.out.blk)))
      refine (HW.out _).mono ?_; rintro e w9 ⟨rfl, hb⟩
      replace C2 := Lib.hid (C2.out.keep hb)
      replace D8 := Lib.hid (D8.out.keep hb)
      replace bel := Lib.hid (Bx.then_below bel.out hb)
      clear hb
      go_wp2_with fail
      go_ret
      exact ⟨rfl, bel.out⟩
    | succ g =>
      have hkz : (k : Int) < N := by omega
      obtain ⟨a1, a2, a3⟩ := aged_next HA
      have HT : Hid (∀ w, Calls Try.prog 6 #[cdv x] w fun e w' => e = .returned (.tuple #[cdv (tckC x), .bool (tckB x)]) ∧ Below w.heap.size w w') := Lib.hid (tick_any x HA.1)
      rw [a2] at HT
      generalize tckC x = d at *
      clear HA a2
      replace a1 := Lib.hid a1
      by_cases hg : g = 0
      · have hq : ((k : Int) == (N : Int) - 1) = true := by rw [beq_iff_eq]; omega
        rw [decide_eq_true hg] at HT
        rw [if_pos hg] at a3
        replace hg := Lib.hid hg
        replace a3 := Lib.hid a3
        go_wp2_with (first | ((with_reducible refine cd_load ?_ ?_ (w.heap.size) ?_ x ?_ ?_); (· rfl); (· rfl); (· rfl); (· exact C2.out.blk)))
        refine (HT.out _).mono ?_; rintro e w1 ⟨rfl, hb⟩
        replace C2 := Lib.hid (C2.out.keep hb)
        replace bel := Lib.hid (Bx.then_below bel.out hb)
        clear hb
        have h26 : w.heap.size < w1.heap.size := C2.out.2.1
        replace C2 := Lib.hid (C2.out.more (cdo d))
        have D6 : Hid (Bx.Fre (w1.alloc (cdo d)) w1.heap.size (cdl d)) := Lib.hid (Bx.Fre.new w1 (cdl d) 28)
        replace bel := Lib.hid (Bx.bel_box bel.out (cdo d))
        go_upto_region 7 with (first | ((with_reducible refine cd_fresh ?_ ?_ (w1.heap.size) d ?_ ?_ w1 (cdl Cd.zero) ?_ ?_ ?_ ?_); (· rfl); (· rfl); (· rfl); (· rfl); (· rfl); (· rfl); (· first | rfl | (simp; done))))
        obtain ⟨n6, hn6⟩ : ∃ k, k = w1.heap.size := ⟨_, rfl⟩
        rw [← hn6] at D6 ⊢
        generalize (w1.alloc (cdo d)) = VD6 at *
        clear hn6
        have d4 := D6.out.at 4 rfl
        rw [a3.out] at d4
        go_upto_region 9 with fail
        clear d4 hq
        go_upto_region 10 with (first | ((with_reducible refine cd_load ?_ ?_ (n6) ?_ d ?_ ?_); (· rfl); (· rfl); (· rfl); (· exact D6.out.blk)) | ((with_reducible refine cd_store ?_ ?_ (w.heap.size) d ?_ ?_ (cdl x) ?_ ?_ ?_); (· rfl); (· rfl); (· rfl); (· rfl); (· rfl); (· exact C2.out.own)))
        clear D6
        replace bel := Lib.hid (Bx.bel_put_at (k := w.heap.size) (cdl d) 0 (by omega) bel.out)
        replace C2 := Lib.hid (C2.out.full (m := (cdl d)) (rfl))
        generalize (VD6.setCells (w.heap.size) 0 (cdl d)) = V9 at *
        go_wp2_with (first | ((with_reducible refine cd_load ?_ ?_ (w.heap.size) ?_ d ?_ ?_); (· rfl); (· rfl); (· rfl); (· exact C2.out.blk)))
        go_roundg g
        case measure => omega
        case rel => exact ⟨k + 1, d, by omega, by go_num, a1.out, C2.out, bel.out⟩
      · have hq : ((k : Int) == (N : Int) - 1) = false := by rw [beq_eq_false_iff_ne]; omega
        rw [decide_eq_false hg] at HT
        rw [if_neg hg] at a3
        replace hg := Lib.hid hg
        replace a3 := Lib.hid a3
        go_wp2_with (first | ((with_reducible refine cd_load ?_ ?_ (w.heap.size) ?_ x ?_ ?_); (· rfl); (· rfl); (· rfl); (· exact C2.out.blk)))
        refine (HT.out _).mono ?_; rintro e w1 ⟨rfl, hb⟩
        replace C2 := Lib.hid (C2.out.keep hb)
        replace bel := Lib.hid (Bx.then_below bel.out hb)
        clear hb
        have h26 : w.heap.size < w1.heap.size := C2.out.2.1
        replace C2 := Lib.hid (C2.out.more (cdo d))
        have D6 : Hid (Bx.Fre (w1.alloc (cdo d)) w1.heap.size (cdl d)) := Lib.hid (Bx.Fre.new w1 (cdl d) 28)
        replace bel := Lib.hid (Bx.bel_box bel.out (cdo d))
        go_upto_region 7 with (first | ((with_reducible refine cd_fresh ?_ ?_ (w1.heap.size) d ?_ ?_ w1 (cdl Cd.zero) ?_ ?_ ?_ ?_); (· rfl); (· rfl); (· rfl); (· rfl); (· rfl); (· rfl); (· first | rfl | (simp; done))))
        obtain ⟨n6, hn6⟩ : ∃ k, k = w1.heap.size := ⟨_, rfl⟩
        rw [← hn6] at D6 ⊢
        generalize (w1.alloc (cdo d)) = VD6 at *
        clear hn6
        have d4 := D6.out.at 4 rfl
        rw [a3.out] at d4
        go_upto_region 9 with fail
        clear d4 hq
        go_upto_region 10 with (first | ((with_reducible refine cd_load ?_ ?_ (n6) ?_ d ?_ ?_); (· rfl); (· rfl); (· rfl); (· exact D6.out.blk)) | ((with_reducible refine cd_store ?_ ?_ (w.heap.size) d ?_ ?_ (cdl x) ?_ ?_ ?_); (· rfl); (· rfl); (· rfl); (· rfl); (· rfl); (· exact C2.out.own)))
        clear D6
        replace bel := Lib.hid (Bx.bel_put_at (k := w.heap.size) (cdl d) 0 (by omega) bel.out)
        replace C2 := Lib.hid (C2.out.full (m := (cdl d)) (rfl))
        generalize (VD6.setCells (w.heap.size) 0 (cdl d)) = V9 at *
        go_wp2_with (first | ((with_reducible refine cd_load ?_ ?_ (w.heap.size) ?_ d ?_ ?_); (· rfl); (· rfl); (· rfl); (· exact C2.out.blk)))
        go_roundg g
        case measure => omega
        case rel => exact ⟨k + 1, d, by omega, by go_num, a1.out, C2.out, bel.out⟩

theorem law_ages (w : World) (c : Cd) (hc : wfCd c) (n : Int) (_hn : (Lit.int .i64 n).wf = true) : Calls Try.prog 4 #[cdv c, .int .i64 n] w fun e w' => e = .returned (.bool true) ∧ Below w.heap.size w w' := walk_ages c (ok_wf hc) n w

end Clk
namespace LawClockAges
open Go.ChangeShapes Go.WideShapes Go.ChangeAt Go.RowKit
open Go.ChangeMaps (open_string shut_string)

theorem own : ownKnob Try.prog.godebug = none := by kernel_rfl
theorem laidOut : laidOutB Try.prog = true := by kernel_rfl

set_option maxRecDepth 100000 in
theorem lifted (os : Os) (started : os.Started) (H : Type) (enc : TypeId × Value → H) :
    ReturnsInHanded {} Try.checked os 4 .any (Rows.clockAgesSpec.pre6 enc Try.prog Try.f4 Rows.clockAgesRow.domain false) (Rows.clockAgesSpec.post enc Try.prog Try.f4 false true false false) := by
  refine Fr.law_lift (C := Try.checked) (tb := 4) own started (by kernel_rfl) Try.func4
    (ChangeSpec.witness6 (enc := enc) (C := Try.checked) false ⟨#[], #[.agg #[.bool false, .bool false, .bool false, .int .u64 0, .int .i64 0, .int .u64 0, .int .u64 0, .int .u64 0, .int .i64 0, .int .i64 0, .int .i64 0, .int .i64 0, .int .i64 0, .int .i64 0, .int .i64 0, .bool false, .bool false, .bool false, .bool false, .bool false, .bool false, .bool false, .bool false, .bool false, .int .i64 0, .int .i64 0, .int .i64 0, .int .i64 0, .int .i64 0, .int .i64 0, .int .i64 0], .int .i64 0], []⟩ 8 (by kernel_rfl) (by kernel_rfl) (by kernel_rfl) (by kernel_rfl))
    laidOut (by rw [Try.params4]; decide +kernel) rfl Try.underlying4 rfl ?_ ?_
  · intro ds hl
    match ds, hl with
    | [d0, d1], _ => rfl
  · intro W base args ds p hval hA
    rw [Try.params4] at hA hval
    obtain ⟨v0, vs0, d0, ds0, p0, q0, hargs, rfl, rfl, h0, r0⟩ := trodAll_cons hA
    obtain ⟨v1, vs1, d1, ds1, p1, q1, rfl, rfl, rfl, h1, r1⟩ := trodAll_cons r0
    obtain ⟨rfl, rfl, rfl⟩ := trodAll_nil r1
    obtain rfl : args = #[v0, v1] := by cases args; simp_all
    obtain ⟨x0, rfl, hx0⟩ := Crd.open_cd (hval 0 28 v0 rfl rfl) h0
    obtain ⟨a1, rfl, rfl, rfl, w1⟩ := open_int Try.underlying3 (hval 1 3 v1 rfl rfl) h1
    exact Clk.law_ages W x0 hx0 a1 w1

theorem over : Rows.clockAgesRow.holds Try.pinned (OpenSpec.ofChange Rows.clockAgesSpec) :=
  OpenClaim.holds_of_wide 4 Try.f4 rfl rfl rfl rfl rfl rfl rfl ⟨rfl, rfl, rfl, rfl, rfl⟩ rfl rfl rfl rfl rfl (by kernel_rfl) Try.func4 (by kernel_rfl)
    (of_decide_eq_true (by kernel_rfl)) (by unfold Func.isWrapper; first | (rw [if_pos (by decide +kernel)]; kernel_rfl) | (rw [if_neg (by decide +kernel)]; exact ⟨rfl, rfl⟩))
    (fun os started H enc _ => lifted os started H enc)
end LawClockAges

/-- The statement ClockAges. -/
theorem clockAges_holds : Rows.ClockAgesSaid := LawClockAges.over

end Go.Proofs.Ytakbmdamegjdeaa
