/-
  The statement TableCounts (the tied card): for every table and every number, the law TableCounts returns true, and its arguments read afterwards as they read before.
-/
import Derived.Test.YtfnjgjehmddkcaaDoorTabArg
import Derived.Test.YtfnjgjehmddkcaaDoorDecHome
import Derived.Test.YtfnjgjehmddkcaaDoorTabL
import Derived.Test.YtfnjgjehmddkcaaDoorFrame
import Derived.Test.YtfnjgjehmddkcaaDoorCard
import Derived.Test.YtfnjgjehmddkcaaDoorCards
import Derived.Test.YtfnjgjehmddkcaaDoorTie
import Derived.Deep.RegionHeld3
import Derived.SevenTiedAt
namespace Go.Proofs.YtfnjgjehmddkcaaDoor
open Go.RowKit
namespace Tab
open Oct

set_option maxRecDepth 100000 in
set_option maxHeartbeats 8000000 in
theorem walk_counts (w : World) (most long : Int) (A : Option Addr) (l : List En) (c : Nat) (hl : l.length ≤ maxLen) (hA : Ents w A l) (hw : ∀ x ∈ l, wfE x) (port : Int) (_wp : (Lit.int .i64 port).wf = true) (hH : Dec.Home w) :
    Calls Tryd.prog 3 #[tv most long A l.length c, .int .i64 port] w fun e w' => e = .returned (.bool true) ∧ Below w.heap.size w w' := by
  have HA := Lib.hid hA
  have HH := Lib.hid hH
  have HWF := Lib.hid hw
  have HAW := Lib.hid awake_any
  have hl' : l.length ≤ 9223372036854775807 := hl
  clear hA hH hw
  have bel := Lib.hid (Bx.box_below w (to most long A l.length c))
  have KT := Lib.hid (Bx.Blk.new w [.int .i64 most, .int .i64 long, .slice A l.length c] 24)
  by_cases hlen : 100 < l.length
  · obtain ⟨t0, t1, t2⟩ := KT.out.all3
    go_enter Tryd.func3, Tryd.ntmps3
    go_wp2_with fail
    refine (HAW.out _).mono ?_; rintro e w1 ⟨rfl, hb⟩
    have B1 := Lib.hid (Bx.then_below bel.out hb)
    go_wp2
    go_ret
    exact ⟨rfl, B1.out⟩
  · have hl9 : l.length ≤ 100 := by omega
    have HOL := Lib.hid (fun W (hW : Hid (Below w.heap.size w W)) => old_any most long l (by omega) A c W (HA.out.below hW.out))
    have HRO := Lib.hid (fun W (hW : Hid (Below w.heap.size w W)) => rold_any most long l (by omega) A c W (HA.out.below hW.out))
    have HAT := Lib.hid (fun W (hW : Hid (Below w.heap.size w W)) => at_any most long l (by omega) A c port W (HA.out.below hW.out))
    have HAP := Lib.hid (fun (p : Int) W (hW : Hid (Below w.heap.size w W)) => at_any most long l (by omega) A c p W (HA.out.below hW.out))
    have HRA := Lib.hid (fun W (hW : Hid (Below w.heap.size w W)) => rat_any most long l (by omega) A c port W (HA.out.below hW.out))
    have HUS := Lib.hid (fun W (hW : Hid (Below w.heap.size w W)) => used_any most long l (by omega) A c W (HA.out.below hW.out))
    have HRU := Lib.hid (fun W (hW : Hid (Below w.heap.size w W)) => rused_any most long l (by omega) A c W (HA.out.below hW.out))
    have HTX := Lib.hid (fun W (hW : Hid (Below w.heap.size w W)) => text_any most long l (by omega) HWF.out A c W (HA.out.below hW.out) (HH.out.below hW.out))
    have HRT := Lib.hid (fun W (hW : Hid (Below w.heap.size w W)) => rtext_any most long l (by omega) HWF.out A c W (HA.out.below hW.out))
    have HSO := Lib.hid (fun W (hW : Hid (Below w.heap.size w W)) => sound_any most long l hl (fun e he => (HWF.out e he).2.1) A c W (HA.out.below hW.out))
    have HPS := Lib.hid Por.has_any
    have HMX := Lib.hid (oldG_le l)
    have HUH := Lib.hid (used_has l)
    have HSS := Lib.hid (fun h => sound_sum (most := most) (long := long) (l := l) h)
    have hne0 := neq_at (oldG l) (oldG l)
    have hgu0 := fun op a b => guard_at op a b (oldG l) (oldG l)
    rw [decide_eq_true (show oldG l = oldG l from rfl)] at hne0
    have HAN := Lib.hid (at_le l)
    have HSM := Lib.hid (sum_le l)
    generalize usedF l = used at *
    generalize hT : (⟨(textL l).toArray⟩ : ByteArray) = T at *
    clear hT
    generalize oldG l = x at *
    generalize isOld l = q at *
    generalize sndB most long l = snd at *
    obtain ⟨x1, x2, x3, x4⟩ := x
    simp only [enc] at hne0 hgu0
    have HNE := Lib.hid hne0
    have HGU := Lib.hid hgu0
    clear hne0 hgu0
    obtain ⟨t0, t1, t2⟩ := KT.out.all3
    go_enter Tryd.func3, Tryd.ntmps3
    go_wp2_with fail
    refine (HOL.out _ bel).mono ?_; rintro e w1 ⟨rfl, hb⟩
    clear t0 t1 t2
    have HB := Lib.hid (Bx.bel_box (Bx.then_below bel.out hb) (eo ⟨x1, x2, x3, x4⟩))
    replace KT := Lib.hid ((KT.out.keep hb).keep (Bx.box_below w1 (eo ⟨x1, x2, x3, x4⟩)))
    have K5 := Lib.hid (Bx.Blk.new w1 [.int .i64 x1, .int .u64 x2, .int .i64 x3, .int .i64 x4] 29)
    clear hb bel
    obtain ⟨t0, t1, t2⟩ := KT.out.all3
    go_wp2_with fail
    generalize hg : w1.alloc (eo ⟨x1, x2, x3, x4⟩) = W1 at *
    clear hg t0 t1 t2
    generalize w1.heap.size = n5 at *
    refine (HRO.out _ HB).mono ?_; rintro e w2 ⟨rfl, hb⟩
    replace HB := Lib.hid (Bx.bel_box (Bx.then_below HB.out hb) (eo ⟨x1, x2, x3, x4⟩))
    replace KT := Lib.hid ((KT.out.keep hb).keep (Bx.box_below w2 (eo ⟨x1, x2, x3, x4⟩)))
    replace K5 := Lib.hid ((K5.out.keep hb).keep (Bx.box_below w2 (eo ⟨x1, x2, x3, x4⟩)))
    have K7 := Lib.hid (Bx.Blk.new w2 [.int .i64 x1, .int .u64 x2, .int .i64 x3, .int .i64 x4] 29)
    clear hb
    obtain ⟨t0, t1, t2⟩ := KT.out.all3
    obtain ⟨e0, e1, e2, e3⟩ := K5.out.all4
    obtain ⟨f0, f1, f2, f3⟩ := K7.out.all4
    have hne := HNE.out
    have hgu := HGU.out
    go_wp2_with fail
    generalize hg : w2.alloc (eo ⟨x1, x2, x3, x4⟩) = W2 at *
    clear hg
    generalize w2.heap.size = n7 at *
    replace HB := Lib.hid (Bx.bel_drewn HB.out)
    replace KT := Lib.hid KT.out.drew
    replace K5 := Lib.hid K5.out.drew
    go_region_held3 (fun w' => w'.cell? ⟨w.heap.size, 0, none⟩ = some (.int .i64 most) ∧ w'.cell? ⟨w.heap.size, 1, none⟩ = some (.int .i64 long) ∧ w'.cell? ⟨w.heap.size, 2, none⟩ = some (.slice A l.length c) ∧ w'.cell? ⟨n5, 0, none⟩ = some (.int .i64 x1) ∧ w'.cell? ⟨n5, 1, none⟩ = some (.int .u64 x2) ∧ w'.cell? ⟨n5, 2, none⟩ = some (.int .i64 x3) ∧ w'.cell? ⟨n5, 3, none⟩ = some (.int .i64 x4) ∧ w'.cell? ⟨n7, 0, none⟩ = some (.int .i64 x1) ∧ w'.cell? ⟨n7, 1, none⟩ = some (.int .u64 x2) ∧ w'.cell? ⟨n7, 2, none⟩ = some (.int .i64 x3) ∧ w'.cell? ⟨n7, 3, none⟩ = some (.int .i64 x4))
      (first | go_keep | (go_split_ands; refine ⟨Bx.keep_cell hb ?_, Bx.keep_cell hb ?_, Bx.keep_cell hb ?_, Bx.keep_cell hb ?_, Bx.keep_cell hb ?_, Bx.keep_cell hb ?_, Bx.keep_cell hb ?_, Bx.keep_cell hb ?_, Bx.keep_cell hb ?_, Bx.keep_cell hb ?_, Bx.keep_cell hb ?_⟩ <;> with_reducible assumption))
      (first | (go_at_call 7; (with_reducible refine (HAT.out _ HB).mono ?_); (rintro e w5 ⟨rfl, hb⟩); (replace HB := Lib.hid (Bx.then_below HB.out hb)); (replace KT := Lib.hid (KT.out.keep hb)); (replace K5 := Lib.hid (K5.out.keep hb))) | (go_at_call 8; (with_reducible refine (HRA.out _ HB).mono ?_); (rintro e w5 ⟨rfl, hb⟩); (replace HB := Lib.hid (Bx.then_below HB.out hb)); (replace KT := Lib.hid (KT.out.keep hb)); (replace K5 := Lib.hid (K5.out.keep hb))) | (go_at_call 9; (with_reducible refine (HUS.out _ HB).mono ?_); (rintro e w5 ⟨rfl, hb⟩); (replace HB := Lib.hid (Bx.then_below HB.out hb)); (replace KT := Lib.hid (KT.out.keep hb)); (replace K5 := Lib.hid (K5.out.keep hb))) | (go_at_call 10; (with_reducible refine (HRU.out _ HB).mono ?_); (rintro e w5 ⟨rfl, hb⟩); (replace HB := Lib.hid (Bx.then_below HB.out hb)); (replace KT := Lib.hid (KT.out.keep hb)); (replace K5 := Lib.hid (K5.out.keep hb))) | (go_at_call 11; (with_reducible refine (HTX.out _ HB).mono ?_); (rintro e w5 ⟨rfl, hb⟩); (replace HB := Lib.hid (Bx.then_below HB.out hb)); (replace KT := Lib.hid (KT.out.keep hb)); (replace K5 := Lib.hid (K5.out.keep hb))) | (go_at_call 12; (with_reducible refine (HRT.out _ HB).mono ?_); (rintro e w5 ⟨rfl, hb⟩); (replace HB := Lib.hid (Bx.then_below HB.out hb)); (replace KT := Lib.hid (KT.out.keep hb)); (replace K5 := Lib.hid (K5.out.keep hb))))
    clear HOL HRO HAT HRA HRU HTX HRT HNE HGU hne hgu K7 e0 e1 e2 e3 f0 f1 f2 f3 t0 t1 t2
    go_wp2_with fail
    go_loopw [9, 10, 11, 60] (fun s _ _ ix wi => ∃ k : Nat, k ≤ 8 ∧ ix = .int .i64 k ∧ s = .int .i64 (sumN l k) ∧ Aside (Below w5.heap.size w5 wi)) (fun _ _ _ ix _ => 8 - (RowKit.intOf ix).toNat)
    case atStart => exact ⟨0, by decide, rfl, rfl, Below.refl _ _⟩
    case round =>
      obtain ⟨k, hk, rfl, rfl, HI⟩ := hrel
      have hsm := HSM.out k
      by_cases hlt : k < 8
      · have han := HAN.out k
        have HN := Lib.hid (show sumN l (k + 1) = sumN l k + atN l k from rfl)
        have HA1 := Lib.hid (HAP.out k)
        have HP1 := Lib.hid (fun W => HPS.out used k W)
        rw [HUH.out k hlt] at HP1
        have HB1 := Lib.hid (Bx.then_below HB.out HI.out)
        obtain ⟨t0, t1, t2⟩ := (KT.out.keep HI.out).all3
        generalize atN l k = n at *
        generalize sumN l k = m at *
        go_wp2_with fail
        refine (HA1.out _ HB1).mono ?_; rintro e w6 ⟨rfl, hb⟩
        have HB2 := Lib.hid (Bx.then_below HB1.out hb)
        have HI2 := Lib.hid (Bx.then_below HI.out hb)
        clear t0 t1 t2
        obtain ⟨t0, t1, t2⟩ := (KT.out.keep HI2.out).all3
        go_wp2_with fail
        refine (HUS.out _ HB2).mono ?_; rintro e w7 ⟨rfl, hb7⟩
        have HI3 := Lib.hid (Bx.then_below HI2.out hb7)
        clear t0 t1 t2 hb hb7 HB1 HB2 HI
        by_cases hn : 0 < n
        · rw [decide_eq_true hn] at HP1
          go_wp2_with fail
          refine (HP1.out _).mono ?_; rintro e w8 ⟨rfl, rfl⟩
          go_wp2
          go_roundw
          case rel => exact ⟨k + 1, by omega, by go_num, by rw [HN.out]; go_num, HI3.out⟩
          case measure => simp [RowKit.intOf]; omega
        · rw [decide_eq_false hn] at HP1
          obtain rfl : n = 0 := by omega
          go_wp2_with fail
          refine (HP1.out _).mono ?_; rintro e w8 ⟨rfl, rfl⟩
          go_wp2
          go_roundw
          case rel => exact ⟨k + 1, by omega, by go_num, by rw [HN.out]; go_num, HI3.out⟩
          case measure => simp [RowKit.intOf]; omega
      · obtain rfl : k = 8 := by omega
        have HB5 := Lib.hid (Bx.then_below HB.out HI.out)
        have KT5 := Lib.hid (KT.out.keep HI.out)
        have K55 := Lib.hid (K5.out.keep HI.out)
        clear HI KT K5 HB
        obtain ⟨t0, t1, t2⟩ := KT5.out.all3
        go_wp2
        clear t0 t1 t2
        generalize wr = W6 at *
        go_loopw [13, 80] (fun _ ix wi => ∃ k : Nat, k ≤ l.length ∧ ix = .int .i64 k ∧ Aside (Below W6.heap.size W6 wi)) (fun _ ix _ => l.length - (RowKit.intOf ix).toNat)
        case atStart => exact ⟨0, Nat.zero_le _, rfl, Below.refl _ _⟩
        case round =>
          obtain ⟨k, hk, rfl, HI⟩ := hrel
          by_cases hlt : k < l.length
          · obtain ⟨b, o, rfl, _, c0, c1, c2, c3⟩ := (HA.out.below (Bx.then_below HB5.out HI.out)).at hlt
            have hmx := HMX.out l[k] (List.getElem_mem hlt)
            have BI := Lib.hid (Bx.bel_box HI.out (eo l[k]))
            obtain ⟨d0, d1, d2, d3⟩ := (Bx.Blk.new wr [.int .i64 l[k].v, .int .u64 l[k].m, .int .i64 l[k].p, .int .i64 l[k].a] 29).all4
            obtain ⟨e0, e1, e2, e3⟩ := ((K55.out.keep HI.out).keep (Bx.box_below wr (eo l[k]))).all4
            generalize l[k] = y at *
            obtain ⟨y1, y2, y3, y4⟩ := y
            simp only at c0 c1 c2 c3 d0 d1 d2 d3 e0 e1 e2 e3 hmx
            have hgt : ¬ x4 < y4 := by omega
            clear hmx
            go_wp2
            go_roundw
            case rel => exact ⟨k + 1, by omega, by go_num, BI.out⟩
            case measure => simp [RowKit.intOf]; omega
          · obtain rfl : k = l.length := by omega
            have HB7 := Lib.hid (Bx.then_below HB5.out HI.out)
            obtain ⟨t0, t1, t2⟩ := (KT5.out.keep HI.out).all3
            generalize sumN l 8 = m at *
            by_cases hs : m = l.length
            · subst hs
              go_wp2_with fail
              refine (HAW.out _).mono ?_; rintro e w7 ⟨rfl, hb⟩
              have HB8 := Lib.hid (Bx.then_below HB7.out hb)
              go_wp2
              go_ret
              exact ⟨rfl, HB8.out⟩
            · have hs0 : snd = false := by
                cases h : snd with
                | false => rfl
                | true => exact absurd (HSS.out h) hs
              subst hs0
              have hs1 : (m == l.length) = false := beq_eq_false_iff_ne.2 hs
              have hs2 : ((m : Int) == (l.length : Int)) = false := beq_eq_false_iff_ne.2 (by omega)
              go_wp2_with fail
              refine (HSO.out _ HB7).mono ?_; rintro e w7 ⟨rfl, hb⟩
              have HB8 := Lib.hid (Bx.then_below HB7.out hb)
              clear hb
              go_wp2_with fail
              refine (HAW.out _).mono ?_; rintro e w8 ⟨rfl, hb⟩
              have HB9 := Lib.hid (Bx.then_below HB8.out hb)
              go_wp2
              go_ret
              exact ⟨rfl, HB9.out⟩

end Tab

namespace LawTableCounts
open Go.ChangeShapes Go.WideShapes Go.ChangeAt Go.RowKit
open Go.ChangeMaps (open_string shut_string)

theorem own : ownKnob Tryd.prog.godebug = none := by kernel_rfl
theorem laidOut : laidOutB Tryd.prog = true := by kernel_rfl
theorem plain : (Rows.tableCountsRow.laid.all fun x => x.2.handleName?.isNone) = true := by kernel_rfl

set_option maxRecDepth 100000 in
theorem lifted (os : Os) (started : os.Started) (H : Type) (enc : TypeId × Value → H) :
    ReturnsInHanded {} Tryd.checked os 3 .any (fun w args => (Rows.tableCountsSpec.pre enc Tryd.prog Tryd.f3 Rows.tableCountsRow.domain false w args ∧ laidMetH Tryd.prog Rows.tableCountsRow.laid w) ∧ sizedMet enc Tryd.prog Tryd.f3 (OpenSpec.ofChange Rows.tableCountsSpec) false w args)
      (Rows.tableCountsSpec.post enc Tryd.prog Tryd.f3 false true false false) := by
  refine Fr.law_lift_laid (C := Tryd.checked) (laid := Rows.tableCountsRow.laid) (tb := 4) own started (by kernel_rfl) Tryd.func3
    (ChangeSpec.witness_shaped (enc := enc) (C := Tryd.checked) (os := os) (X := fun w _ => laidMetH Tryd.prog Rows.tableCountsRow.laid w) false (World.laidAll Tryd.prog os Rows.tableCountsRow.laid) #[.agg #[.int .i64 0, .int .i64 0, .slice none 0 0], .int .i64 0] 8 (World.laidAll_os _ _ _)
      (World.shaped_of_ZipB (by kernel_rfl) (by kernel_rfl)) (by kernel_rfl) (by kernel_rfl) (by kernel_rfl)
      (by rw [MakeChecks.laidMetH_plain _ _ _ plain]; exact laidMet_laidAll _ (by kernel_rfl) (by kernel_rfl)))
    laidOut (by rw [Tryd.params3]; decide +kernel) rfl Tryd.underlying4 rfl ?_ ?_
  · intro ds hl
    match ds, hl with
    | [d0, d1], _ => rfl
  · intro W base args ds p hsh hL hval hA
    rw [Tryd.params3] at hA hval
    obtain ⟨v0, vs0, d0, ds0, p0, q0, hargs, rfl, rfl, h0, r0⟩ := trodAll_cons hA
    obtain ⟨v1, vs1, d1, ds1, p1, q1, rfl, rfl, rfl, h1, r1⟩ := trodAll_cons r0
    obtain ⟨rfl, rfl, rfl⟩ := trodAll_nil r1
    obtain rfl : args = #[v0, v1] := by cases args; simp_all
    obtain ⟨m0, g0, A0, l0, k0, rfl, hl0, hA0, hw0⟩ := Tab.open_table (hval 0 24 v0 rfl rfl) h0
    obtain ⟨a1, rfl, rfl, rfl, w1⟩ := open_int Tryd.underlying3 (hval 1 3 v1 rfl rfl) h1
    exact Tab.walk_counts W m0 g0 A0 l0 k0 hl0 hA0 hw0 a1 w1 (Dec.home_of hsh hL plain (by simp [Rows.tableCountsRow]))

theorem over : Rows.tableCountsRow.holds Tryd.pinned (OpenSpec.ofChange Rows.tableCountsSpec) :=
  OpenClaim.holds_of_wide 3 Tryd.f3 rfl rfl rfl rfl rfl rfl rfl ⟨rfl, rfl, rfl, rfl, rfl⟩ rfl rfl rfl rfl rfl (by kernel_rfl) Tryd.func3 (by kernel_rfl)
    (of_decide_eq_true (by kernel_rfl)) (by unfold Func.isWrapper; first | (rw [if_pos (by decide +kernel)]; kernel_rfl) | (rw [if_neg (by decide +kernel)]; exact ⟨rfl, rfl⟩))
    (fun os started H enc _ => lifted os started H enc)
end LawTableCounts

/-- The statement TableCounts (the tied card). -/
theorem tableCounts_holds : Rows.TableCountsCardSaid :=
  Claim7.holds_tied_plain_at .later [] _ true _ _ LawTableCounts.over (fun _ h => by cases h) (by kernel_rfl) (fun _ h => by cases h) tableCounts_row_tie rfl ⟨rfl, rfl⟩ (by kernel_rfl) rfl
    (fun f fn hf hfn => by
      obtain rfl : f = 3 := Option.some.inj ((show Tryd.prog.funcNamed Rows.tableCountsRow.func = some 3 by kernel_rfl).symm.trans hf) |>.symm
      obtain rfl : fn = Tryd.f3 := (Option.some.inj (Tryd.func3.symm.trans hfn)).symm
      exact ⟨by kernel_rfl, fun j t ht => by
        rw [Tryd.params3] at ht
        have hm : t ∈ [24, 3] := by have := Array.mem_of_getElem? ht; simp at this; simp [this]
        have hall : ([24, 3].all fun u => !Tryd.prog.wantsStandIn u) = true := by kernel_rfl
        exact (show Tryd.prog.wantsStandIn t = false by simpa using List.all_eq_true.1 hall t hm)⟩)
    (by kernel_rfl)

end Go.Proofs.YtfnjgjehmddkcaaDoor
