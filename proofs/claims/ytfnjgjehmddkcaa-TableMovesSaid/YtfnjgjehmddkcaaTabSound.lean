/-
  The statement TableSound: for every list of steps, and every two numbers, the law TableSound returns true, and its arguments read afterwards as they read before.
-/
import Derived.Test.YtfnjgjehmddkcaaTabL
import Derived.Test.YtfnjgjehmddkcaaTabInv
import Derived.Test.YtfnjgjehmddkcaaTabOpen
import Derived.Test.YtfnjgjehmddkcaaFrame
import Derived.Test.YtfnjgjehmddkcaaRows
namespace Go.Proofs.Ytfnjgjehmddkcaa
open Go.RowKit
namespace Tab
open Oct

/-- A table's variable in block b: its cells, and its entries in memory, which lie elsewhere. -/
def Tst (W : World) (b : Nat) (most long : Int) (A : Option Addr) (l : List En) (c : Nat) : Prop :=
  Fre W b [.int .i64 most, .int .i64 long, .slice A l.length c] ∧ Ents W A l ∧ (∀ b' o, A = some ⟨b', o, none⟩ → 0 < l.length → b' ≠ b)

theorem Tst.below {W W' : World} {b : Nat} {most long : Int} {A : Option Addr} {l : List En} {c : Nat} (h : Tst W b most long A l c) (hb : Below W.heap.size W W') : Tst W' b most long A l c := ⟨h.1.keep hb, h.2.1.below hb, h.2.2⟩

theorem Tst.put {W : World} {b : Nat} {most long most' long' : Int} {A B : Option Addr} {l m : List En} {c d : Nat} (h : Fre W b [.int .i64 most', .int .i64 long', .slice B m.length d]) (hA : Ents W A l) (hn : ∀ b' o, A = some ⟨b', o, none⟩ → 0 < l.length → b' ≠ b) :
    Tst (((W.setCell ⟨b, 0, none⟩ (.int .i64 most)).setCell ⟨b, 1, none⟩ (.int .i64 long)).setCell ⟨b, 2, none⟩ (.slice A l.length c)) b most long A l c := by
  refine ⟨h.put3, ?_, hn⟩
  by_cases h0 : 0 < l.length
  · have hx : ∀ b' o', A = some ⟨b', o', none⟩ → b' ≠ b := fun b' o' e => hn b' o' e h0
    exact ((hA.set hx).set hx).set hx
  · have : l = [] := List.eq_nil_of_length_eq_zero (by omega)
    rw [this]
    exact Ents.nil _ _

set_option maxRecDepth 100000 in
set_option maxHeartbeats 8000000 in
theorem law_sound (w : World) (L : List Ev) (hl : L.length ≤ maxLen) (A0 : Option Addr) (c0 : Nat) (hA : Ops w A0 L) (hm : ∀ o ∈ L, o.m < 18446744073709551616) (x : Int) (_wx : (Lit.int .i64 x).wf = true) (y : Int) (_wy : (Lit.int .i64 y).wf = true) :
    Calls Try.prog 3 #[.slice A0 L.length c0, .int .i64 x, .int .i64 y] w fun e w' => e = .returned (.bool true) ∧ Below w.heap.size w w' := by
  have HA := Lib.hid hA
  have HM := Lib.hid hm
  have HAW := Lib.hid awake_any
  have hl' : L.length ≤ 9223372036854775807 := hl
  clear hA hm
  by_cases hlen : 100 < L.length
  · go_enter Try.func3, Try.ntmps3
    go_wp2_with fail
    refine (HAW.out _).mono ?_; rintro e w1 ⟨rfl, hb⟩
    go_wp2
    go_ret
    exact ⟨rfl, hb⟩
  · obtain ⟨r, hr, hre⟩ := (show ∃ r : Nat, r < 20 ∧ wrap64 ((IntKind.u64.wrap x).tmod 20) = r from rem_of x 20 (by decide) (by decide))
    obtain ⟨q, hq, hqe⟩ := (show ∃ r : Nat, r < 9 ∧ wrap64 ((IntKind.u64.wrap y).tmod 9) = r from rem_of y 9 (by decide) (by decide))
    obtain ⟨most, hmo⟩ : ∃ most : Int, most = r := ⟨_, rfl⟩
    obtain ⟨long, hlo⟩ : ∃ long : Int, long = 1 + q := ⟨_, rfl⟩
    have hwl : wrap64 (1 + (q : Int)) = long := by rw [hlo]; unfold wrap64; omega
    have HNE := Lib.hid (show ∀ w, Calls Try.prog 6 #[.int .i64 most, .int .i64 long] w fun e w' => e = .returned (.tuple #[tv most long none 0 0, .int .i64 0]) ∧ Below w.heap.size w w' from fun w => by
      have h := new_any most long w
      have e0 : newE most long = 0 := if_pos (by omega)
      rw [show newM most long = most from if_pos e0, show newL most long = long from if_pos e0, e0] at h
      exact h)
    have hmo2 : 0 ≤ most ∧ most ≤ 19 := by omega
    have hlo2 : 1 ≤ long ∧ long ≤ 9 := by omega
    rw [← hmo] at hre
    have hmo2 := Lib.hid hmo2
    have hlo2 := Lib.hid hlo2
    clear hmo hlo hr hq
    go_enter Try.func3, Try.ntmps3
    go_wp2_with fail
    refine (HNE.out _).mono ?_; rintro e w1 ⟨rfl, hb1⟩
    have HB0 := Lib.hid (Bx.bel_box hb1 (to most long none 0 0))
    have HT0 := Lib.hid (show Tst (w1.alloc (to most long none 0 0)) w1.heap.size most long none [] 0 from ⟨Fre.new w1 [.int .i64 most, .int .i64 long, .slice none 0 0] 26, Ents.nil _ _, fun b o e => by cases e⟩)
    have hk7 : w.heap.size ≤ w1.heap.size := hb1.size
    have HI0 := Lib.hid (show Inv most long [] from ⟨Snd.nil hmo2.out.1, fun e he => by simp at he⟩)
    clear hb1 hre hqe hwl HNE
    replace hmo2 := hmo2.out
    replace hlo2 := hlo2.out
    go_wp2
    generalize hg : w1.alloc (to most long none 0 0) = W0 at *
    clear hg
    generalize w1.heap.size = b7 at *
    go_loopw [10, 11, 12, 13, 14, 15, 17, 39] (fun _ _ _ _ _ _ _ ix wr => ∃ (k0 : Nat) (l : List En) (A : Option Addr) (c : Nat), k0 ≤ L.length ∧ ix = .int .i64 k0 ∧ Aside (Inv most long l) ∧ Aside (Tst wr b7 most long A l c) ∧ Aside (Below w.heap.size w wr)) (fun _ _ _ _ _ _ _ ix _ => L.length - (intOf ix).toNat)
    case atStart => exact ⟨0, [], none, 0, Nat.zero_le _, rfl, HI0.out, HT0.out, HB0.out⟩
    case round =>
      obtain ⟨k0, l, A, c, hk, rfl, HV, HT, HB⟩ := hrel
      by_cases hlt : k0 < L.length
      · obtain ⟨b, q, rfl, _, c0, c1, c2, c3, c4⟩ := (HA.out.below HB.out).at hlt
        have hom := HM.out L[k0] (List.getElem_mem hlt)
        generalize L[k0] = ov at *
        obtain ⟨k, v, m, p, s⟩ := ov
        simp only at c0 c1 c2 c3 c4 hom
        have hll : l.length ≤ 19 := by have := HV.out.snd.len; omega
        have HST := Lib.hid (fun (w : World) hE => step_any most long (by omega) l (by omega) HV.out.old A c ⟨k, v, m, p, s⟩ hom w hE)
        have HNX := Lib.hid (HV.out.step hlo2.1 ⟨k, v, m, p, s⟩ hom)
        have hsl := step_len most long l ⟨k, v, m, p, s⟩
        have hsn := step_num most long l ⟨k, v, m, p, s⟩
        have HWR := Lib.hid (fun h => step_wrong (most := most) (long := long) (l := l) (o := ⟨k, v, m, p, s⟩) h)
        have HFO := Lib.hid (fun h0 he => step_found HV.out hlo2.1 (o := ⟨k, v, m, p, s⟩) h0 he)
        have HFL := Lib.hid (fun h => stepped_flush (most := most) (long := long) (l := l) (o := ⟨k, v, m, p, s⟩) h)
        have HFG := Lib.hid (fun h => stepped_forget (most := most) (long := long) (l := l) (o := ⟨k, v, m, p, s⟩) h)
        have HSO := Lib.hid (fun (A : Option Addr) (c : Nat) (w : World) (hE : Ents w A (stepL most long l ⟨k, v, m, p, s⟩)) => show Calls Try.prog 8 #[tv most long A (stepL most long l ⟨k, v, m, p, s⟩).length c] w fun e w' => e = .returned (.bool true) ∧ Below w.heap.size w w' by
          have h := sound_any most long _ (by unfold maxLen; omega) HNX.out.mac A c w hE
          rw [HNX.out.snd.b] at h
          exact h)
        have HFI := Lib.hid (fun (A : Option Addr) (c : Nat) (w : World) (hE : Ents w A (stepL most long l ⟨k, v, m, p, s⟩)) => find_any most long _ (by unfold maxLen; omega) v m A c w hE)
        have HSA := Lib.hid (fun (A B : Option Addr) (c d : Nat) (w : World) (hA : Ents w A l) (hB : Ents w B l) => show Calls Try.prog 9 #[tv most long A l.length c, tv most long B l.length d] w fun e w' => e = .returned (.bool true) ∧ Below w.heap.size w w' by
          have h := same_any most long most long l l (by unfold maxLen; omega) (by unfold maxLen; omega) A B c d w hA hB
          rw [decide_eq_true ⟨rfl, rfl, rfl⟩] at h
          exact h)
        have hlm : (stepL most long l ⟨k, v, m, p, s⟩).length ≤ 20 := by omega
        have hgt : ¬ (l.length : Int) + 1 < ((stepL most long l ⟨k, v, m, p, s⟩).length : Int) := by omega
        have hnl : ¬ stepN most long l ⟨k, v, m, p, s⟩ < 0 := by omega
        by_cases he : stepE most l ⟨k, v, m, p, s⟩ = 0
        · rw [he] at HST
          by_cases h0 : k = 0
          · obtain ⟨hg1, hg2⟩ := HFO.out h0 he
            subst h0
            have HIN := Lib.hid (show ∀ y : En, y ∈ stepL most long l ⟨0, v, m, p, s⟩ → True from fun _ _ => trivial)
            rw [hg1, hg2] at HFI
            generalize stepN most long l ⟨0, v, m, p, s⟩ = num at *
            generalize stepL most long l ⟨0, v, m, p, s⟩ = l' at *
            clear he hg1 hg2 HWR HFO HFL HFG
            have BX := Lib.hid (Bx.bel_box HB.out (opo 0 v m p s))
            have TX := Lib.hid (HT.out.below (Bx.box_below wr (opo 0 v m p s)))
            have OX := Lib.hid (Bx.Blk.new wr [.int .i64 0, .int .i64 v, .int .u64 m, .int .i64 p, .int .i64 s] 33)
            obtain ⟨t0, t1, t2⟩ := TX.out.1.1.all3
            go_wp2_with fail
            refine (HST.out _ TX.out.2.1).mono ?_; rintro e w1 ⟨A', c', rfl, hA', hE', hb⟩
            clear t0 t1 t2
            have T1 := Lib.hid ((TX.out.below hb).below (Bx.box_below w1 (to most long A' l'.length c')))
            have O1 := Lib.hid ((OX.out.keep hb).keep (Bx.box_below w1 (to most long A' l'.length c')))
            have B1 := Lib.hid (Bx.bel_box (Bx.then_below BX.out hb) (to most long A' l'.length c'))
            have U1 := Lib.hid (Bx.Blk.new w1 [.int .i64 most, .int .i64 long, .slice A' l'.length c'] 26)
            have E1 := Lib.hid (hE'.below (Bx.box_below w1 (to most long A' l'.length c')))
            have HAN := Lib.hid (show ∀ b' o, A' = some ⟨b', o, none⟩ → 0 < l'.length → b' ≠ b7 from fun b' o e h0 => by
              rcases hA' with ⟨rfl, rfl⟩ | hA'
              · exact TX.out.2.2 b' o e h0
              · have := hA' b' o e
                have := TX.out.1.2.1
                omega)
            obtain ⟨u0, u1, u2⟩ := U1.out.all3
            clear hA' hE' hb TX OX BX
            go_wp2_with fail
            clear u0 u1 u2
            generalize hg : w1.alloc (to most long A' l'.length c') = W1 at *
            clear hg
            generalize w1.heap.size = b11 at *
            generalize wr.heap.size = b10 at *
            refine (HSO.out _ _ _ E1.out).mono ?_; rintro e w2 ⟨rfl, hb⟩
            replace T1 := Lib.hid (T1.out.below hb)
            replace O1 := Lib.hid (O1.out.keep hb)
            replace B1 := Lib.hid (Bx.then_below B1.out hb)
            replace U1 := Lib.hid (U1.out.keep hb)
            replace E1 := Lib.hid (E1.out.below hb)
            clear hb
            obtain ⟨t0, t1, t2⟩ := T1.out.1.1.all3
            obtain ⟨u0, u1, u2⟩ := U1.out.all3
            obtain ⟨o0, o1, o2, o3, o4⟩ := O1.out.all5
            go_wp2_with fail
            clear t0 t1 t2 u0 u1 u2 o0 o1 o2 o3 o4
            refine (HFI.out _ _ _ E1.out).mono ?_; rintro e w4 ⟨rfl, hb⟩
            replace T1 := Lib.hid (T1.out.below hb)
            replace O1 := Lib.hid (O1.out.keep hb)
            replace B1 := Lib.hid (Bx.then_below B1.out hb)
            replace U1 := Lib.hid (U1.out.keep hb)
            replace E1 := Lib.hid (E1.out.below hb)
            clear hb
            have hb := Bx.box_below w4 (Obj.cells #[.int .i64 v, .int .u64 m, .int .i64 p, .int .i64 0] 39)
            have XX := Bx.Blk.new w4 [.int .i64 v, .int .u64 m, .int .i64 p, .int .i64 0] 39
            replace T1 := Lib.hid (T1.out.below hb)
            replace O1 := Lib.hid (O1.out.keep hb)
            replace B1 := Lib.hid (Bx.then_below B1.out hb)
            replace U1 := Lib.hid (U1.out.keep hb)
            replace E1 := Lib.hid (E1.out.below hb)
            clear hb
            obtain ⟨u0, u1, u2⟩ := U1.out.all3
            obtain ⟨o0, o1, o2, o3, o4⟩ := O1.out.all5
            obtain ⟨x0, x1', x2', x3'⟩ := XX.all4
            go_wp2
            clear u0 u1 u2 o0 o1 o2 o3 o4 x0 x1' x2' x3' XX
            generalize hg : w4.alloc (Obj.cells #[.int .i64 v, .int .u64 m, .int .i64 p, .int .i64 0] 39) = W4 at *
            clear hg
            go_loopw [17, 112] (fun _ ix wi => ∃ j : Nat, j ≤ l'.length ∧ ix = .int .i64 j ∧ Aside (Below W4.heap.size W4 wi)) (fun _ ix _ => l'.length - (intOf ix).toNat)
            case atStart => exact ⟨0, Nat.zero_le _, rfl, Below.refl _ _⟩
            case round =>
              obtain ⟨j, hj, rfl, HI⟩ := hrel
              by_cases hlt2 : j < l'.length
              · obtain ⟨b, q, rfl, _, c0, c1, c2, c3⟩ := (E1.out.below HI.out).at hlt2
                have HY := Lib.hid (HIN.out l'[j] (List.getElem_mem hlt2))
                obtain ⟨o0, o1, o2, o3, o4⟩ := ((O1.out.keep HI.out).keep (Bx.box_below wr (eo l'[j]))).all5
                have BI := Lib.hid (Bx.bel_box HI.out (eo l'[j]))
                generalize l'[j] = y at *
                obtain ⟨y1, y2, y3, y4⟩ := y
                simp only at c0 c1 c2 c3 o0 o1 o2 o3 o4
                go_wp2
                go_roundw
                case rel => exact ⟨j + 1, by omega, by go_num, BI.out⟩
                case measure => simp [intOf]; omega
              · obtain rfl : j = l'.length := by omega
                obtain ⟨u0, u1, u2⟩ := (U1.out.keep HI.out).all3
                have T5 := Lib.hid (T1.out.below HI.out)
                have E5 := Lib.hid (E1.out.below HI.out)
                have B5 := Lib.hid (Bx.then_below B1.out HI.out)
                obtain ⟨⟨t0, t1, t2⟩, f0, f1, f2⟩ := T5.out.1.all3
                have BF := Lib.hid (((B5.out.setCell (p := ⟨b7, 0, none⟩) hk7 (.int .i64 most)).setCell (p := ⟨b7, 1, none⟩) hk7 (.int .i64 long)).setCell (p := ⟨b7, 2, none⟩) hk7 (.slice A' l'.length c'))
                have TF := Lib.hid (Tst.put (most := most) (long := long) (c := c') T5.out.1 E5.out HAN.out)
                clear T5 E5 B5 T1 E1 U1 O1 B1 HAN HT HB HI
                go_wp2
                go_roundw
                case rel => exact ⟨k0 + 1, l', A', c', by omega, by go_num, HNX.out, TF.out, BF.out⟩
                case measure => simp [intOf]; omega
          · have hk0 : (k == 0) = false := by simpa using h0
            generalize isE (stepL most long l ⟨k, v, m, p, s⟩) v m = isx at *
            generalize gotE (stepL most long l ⟨k, v, m, p, s⟩) v m = xx at *
            obtain ⟨x1, x2, x3, x4⟩ := xx
            by_cases h2 : k = 2
            · have HIN := Lib.hid (HFL.out h2)
              have HHA := Lib.hid (show ∀ z, Por.hasZ (Por.low s) z = false → ∀ w, Calls Try.prog 11 #[.int .i64 s, .int .i64 z] w fun e w' => e = .returned (.bool false) ∧ w = w' from fun z hz w => by
                have h := Por.has_any s z w
                rw [hz] at h
                exact h)
              subst h2
              generalize stepN most long l ⟨2, v, m, p, s⟩ = num at *
              generalize stepL most long l ⟨2, v, m, p, s⟩ = l' at *
              clear he HWR HFO HFL HFG
              have BX := Lib.hid (Bx.bel_box HB.out (opo 2 v m p s))
              have TX := Lib.hid (HT.out.below (Bx.box_below wr (opo 2 v m p s)))
              have OX := Lib.hid (Bx.Blk.new wr [.int .i64 2, .int .i64 v, .int .u64 m, .int .i64 p, .int .i64 s] 33)
              obtain ⟨t0, t1, t2⟩ := TX.out.1.1.all3
              go_wp2_with fail
              refine (HST.out _ TX.out.2.1).mono ?_; rintro e w1 ⟨A', c', rfl, hA', hE', hb⟩
              clear t0 t1 t2
              have T1 := Lib.hid ((TX.out.below hb).below (Bx.box_below w1 (to most long A' l'.length c')))
              have O1 := Lib.hid ((OX.out.keep hb).keep (Bx.box_below w1 (to most long A' l'.length c')))
              have B1 := Lib.hid (Bx.bel_box (Bx.then_below BX.out hb) (to most long A' l'.length c'))
              have U1 := Lib.hid (Bx.Blk.new w1 [.int .i64 most, .int .i64 long, .slice A' l'.length c'] 26)
              have E1 := Lib.hid (hE'.below (Bx.box_below w1 (to most long A' l'.length c')))
              have HAN := Lib.hid (show ∀ b' o, A' = some ⟨b', o, none⟩ → 0 < l'.length → b' ≠ b7 from fun b' o e h0 => by
                rcases hA' with ⟨rfl, rfl⟩ | hA'
                · exact TX.out.2.2 b' o e h0
                · have := hA' b' o e
                  have := TX.out.1.2.1
                  omega)
              obtain ⟨u0, u1, u2⟩ := U1.out.all3
              clear hA' hE' hb TX OX BX
              go_wp2_with fail
              clear u0 u1 u2
              generalize hg : w1.alloc (to most long A' l'.length c') = W1 at *
              clear hg
              generalize w1.heap.size = b11 at *
              generalize wr.heap.size = b10 at *
              refine (HSO.out _ _ _ E1.out).mono ?_; rintro e w2 ⟨rfl, hb⟩
              replace T1 := Lib.hid (T1.out.below hb)
              replace O1 := Lib.hid (O1.out.keep hb)
              replace B1 := Lib.hid (Bx.then_below B1.out hb)
              replace U1 := Lib.hid (U1.out.keep hb)
              replace E1 := Lib.hid (E1.out.below hb)
              clear hb
              obtain ⟨t0, t1, t2⟩ := T1.out.1.1.all3
              obtain ⟨u0, u1, u2⟩ := U1.out.all3
              obtain ⟨o0, o1, o2, o3, o4⟩ := O1.out.all5
              go_wp2_with fail
              clear t0 t1 t2 u0 u1 u2 o0 o1 o2 o3 o4
              refine (HFI.out _ _ _ E1.out).mono ?_; rintro e w4 ⟨rfl, hb⟩
              replace T1 := Lib.hid (T1.out.below hb)
              replace O1 := Lib.hid (O1.out.keep hb)
              replace B1 := Lib.hid (Bx.then_below B1.out hb)
              replace U1 := Lib.hid (U1.out.keep hb)
              replace E1 := Lib.hid (E1.out.below hb)
              clear hb
              have hb := Bx.box_below w4 (Obj.cells #[.int .i64 x1, .int .u64 x2, .int .i64 x3, .int .i64 x4] 39)
              have XX := Bx.Blk.new w4 [.int .i64 x1, .int .u64 x2, .int .i64 x3, .int .i64 x4] 39
              replace T1 := Lib.hid (T1.out.below hb)
              replace O1 := Lib.hid (O1.out.keep hb)
              replace B1 := Lib.hid (Bx.then_below B1.out hb)
              replace U1 := Lib.hid (U1.out.keep hb)
              replace E1 := Lib.hid (E1.out.below hb)
              clear hb
              obtain ⟨u0, u1, u2⟩ := U1.out.all3
              obtain ⟨o0, o1, o2, o3, o4⟩ := O1.out.all5
              obtain ⟨x0, x1', x2', x3'⟩ := XX.all4
              go_wp2
              clear u0 u1 u2 o0 o1 o2 o3 o4 x0 x1' x2' x3' XX
              generalize hg : w4.alloc (Obj.cells #[.int .i64 x1, .int .u64 x2, .int .i64 x3, .int .i64 x4] 39) = W4 at *
              clear hg
              go_loopw [17, 112] (fun _ ix wi => ∃ j : Nat, j ≤ l'.length ∧ ix = .int .i64 j ∧ Aside (Below W4.heap.size W4 wi)) (fun _ ix _ => l'.length - (intOf ix).toNat)
              case atStart => exact ⟨0, Nat.zero_le _, rfl, Below.refl _ _⟩
              case round =>
                obtain ⟨j, hj, rfl, HI⟩ := hrel
                by_cases hlt2 : j < l'.length
                · obtain ⟨b, q, rfl, _, c0, c1, c2, c3⟩ := (E1.out.below HI.out).at hlt2
                  have HY := Lib.hid (HIN.out l'[j] (List.getElem_mem hlt2))
                  obtain ⟨o0, o1, o2, o3, o4⟩ := ((O1.out.keep HI.out).keep (Bx.box_below wr (eo l'[j]))).all5
                  have BI := Lib.hid (Bx.bel_box HI.out (eo l'[j]))
                  generalize l'[j] = y at *
                  obtain ⟨y1, y2, y3, y4⟩ := y
                  simp only at c0 c1 c2 c3 o0 o1 o2 o3 o4
                  go_wp2_with fail
                  refine (HHA.out _ HY.out _).mono ?_; rintro e w5 ⟨rfl, rfl⟩
                  go_wp2
                  go_roundw
                  case rel => exact ⟨j + 1, by omega, by go_num, BI.out⟩
                  case measure => simp [intOf]; omega
                · obtain rfl : j = l'.length := by omega
                  obtain ⟨u0, u1, u2⟩ := (U1.out.keep HI.out).all3
                  have T5 := Lib.hid (T1.out.below HI.out)
                  have E5 := Lib.hid (E1.out.below HI.out)
                  have B5 := Lib.hid (Bx.then_below B1.out HI.out)
                  obtain ⟨⟨t0, t1, t2⟩, f0, f1, f2⟩ := T5.out.1.all3
                  have BF := Lib.hid (((B5.out.setCell (p := ⟨b7, 0, none⟩) hk7 (.int .i64 most)).setCell (p := ⟨b7, 1, none⟩) hk7 (.int .i64 long)).setCell (p := ⟨b7, 2, none⟩) hk7 (.slice A' l'.length c'))
                  have TF := Lib.hid (Tst.put (most := most) (long := long) (c := c') T5.out.1 E5.out HAN.out)
                  clear T5 E5 B5 T1 E1 U1 O1 B1 HAN HT HB HI
                  go_wp2
                  go_roundw
                  case rel => exact ⟨k0 + 1, l', A', c', by omega, by go_num, HNX.out, TF.out, BF.out⟩
                  case measure => simp [intOf]; omega
            · have hk2 : (k == 2) = false := by simpa using h2
              by_cases h3 : 2 < k
              · have HIN := Lib.hid (HFG.out h3)
                generalize stepN most long l ⟨k, v, m, p, s⟩ = num at *
                generalize stepL most long l ⟨k, v, m, p, s⟩ = l' at *
                clear he HWR HFO HFL HFG
                have BX := Lib.hid (Bx.bel_box HB.out (opo k v m p s))
                have TX := Lib.hid (HT.out.below (Bx.box_below wr (opo k v m p s)))
                have OX := Lib.hid (Bx.Blk.new wr [.int .i64 k, .int .i64 v, .int .u64 m, .int .i64 p, .int .i64 s] 33)
                obtain ⟨t0, t1, t2⟩ := TX.out.1.1.all3
                go_wp2_with fail
                refine (HST.out _ TX.out.2.1).mono ?_; rintro e w1 ⟨A', c', rfl, hA', hE', hb⟩
                clear t0 t1 t2
                have T1 := Lib.hid ((TX.out.below hb).below (Bx.box_below w1 (to most long A' l'.length c')))
                have O1 := Lib.hid ((OX.out.keep hb).keep (Bx.box_below w1 (to most long A' l'.length c')))
                have B1 := Lib.hid (Bx.bel_box (Bx.then_below BX.out hb) (to most long A' l'.length c'))
                have U1 := Lib.hid (Bx.Blk.new w1 [.int .i64 most, .int .i64 long, .slice A' l'.length c'] 26)
                have E1 := Lib.hid (hE'.below (Bx.box_below w1 (to most long A' l'.length c')))
                have HAN := Lib.hid (show ∀ b' o, A' = some ⟨b', o, none⟩ → 0 < l'.length → b' ≠ b7 from fun b' o e h0 => by
                  rcases hA' with ⟨rfl, rfl⟩ | hA'
                  · exact TX.out.2.2 b' o e h0
                  · have := hA' b' o e
                    have := TX.out.1.2.1
                    omega)
                obtain ⟨u0, u1, u2⟩ := U1.out.all3
                clear hA' hE' hb TX OX BX
                go_wp2_with fail
                clear u0 u1 u2
                generalize hg : w1.alloc (to most long A' l'.length c') = W1 at *
                clear hg
                generalize w1.heap.size = b11 at *
                generalize wr.heap.size = b10 at *
                refine (HSO.out _ _ _ E1.out).mono ?_; rintro e w2 ⟨rfl, hb⟩
                replace T1 := Lib.hid (T1.out.below hb)
                replace O1 := Lib.hid (O1.out.keep hb)
                replace B1 := Lib.hid (Bx.then_below B1.out hb)
                replace U1 := Lib.hid (U1.out.keep hb)
                replace E1 := Lib.hid (E1.out.below hb)
                clear hb
                obtain ⟨t0, t1, t2⟩ := T1.out.1.1.all3
                obtain ⟨u0, u1, u2⟩ := U1.out.all3
                obtain ⟨o0, o1, o2, o3, o4⟩ := O1.out.all5
                go_wp2_with fail
                clear t0 t1 t2 u0 u1 u2 o0 o1 o2 o3 o4
                refine (HFI.out _ _ _ E1.out).mono ?_; rintro e w4 ⟨rfl, hb⟩
                replace T1 := Lib.hid (T1.out.below hb)
                replace O1 := Lib.hid (O1.out.keep hb)
                replace B1 := Lib.hid (Bx.then_below B1.out hb)
                replace U1 := Lib.hid (U1.out.keep hb)
                replace E1 := Lib.hid (E1.out.below hb)
                clear hb
                have hb := Bx.box_below w4 (Obj.cells #[.int .i64 x1, .int .u64 x2, .int .i64 x3, .int .i64 x4] 39)
                have XX := Bx.Blk.new w4 [.int .i64 x1, .int .u64 x2, .int .i64 x3, .int .i64 x4] 39
                replace T1 := Lib.hid (T1.out.below hb)
                replace O1 := Lib.hid (O1.out.keep hb)
                replace B1 := Lib.hid (Bx.then_below B1.out hb)
                replace U1 := Lib.hid (U1.out.keep hb)
                replace E1 := Lib.hid (E1.out.below hb)
                clear hb
                obtain ⟨u0, u1, u2⟩ := U1.out.all3
                obtain ⟨o0, o1, o2, o3, o4⟩ := O1.out.all5
                obtain ⟨x0, x1', x2', x3'⟩ := XX.all4
                go_wp2
                clear u0 u1 u2 o0 o1 o2 o3 o4 x0 x1' x2' x3' XX
                generalize hg : w4.alloc (Obj.cells #[.int .i64 x1, .int .u64 x2, .int .i64 x3, .int .i64 x4] 39) = W4 at *
                clear hg
                go_loopw [17, 112] (fun _ ix wi => ∃ j : Nat, j ≤ l'.length ∧ ix = .int .i64 j ∧ Aside (Below W4.heap.size W4 wi)) (fun _ ix _ => l'.length - (intOf ix).toNat)
                case atStart => exact ⟨0, Nat.zero_le _, rfl, Below.refl _ _⟩
                case round =>
                  obtain ⟨j, hj, rfl, HI⟩ := hrel
                  by_cases hlt2 : j < l'.length
                  · obtain ⟨b, q, rfl, _, c0, c1, c2, c3⟩ := (E1.out.below HI.out).at hlt2
                    have HY := Lib.hid (HIN.out l'[j] (List.getElem_mem hlt2))
                    obtain ⟨o0, o1, o2, o3, o4⟩ := ((O1.out.keep HI.out).keep (Bx.box_below wr (eo l'[j]))).all5
                    have BI := Lib.hid (Bx.bel_box HI.out (eo l'[j]))
                    generalize l'[j] = y at *
                    obtain ⟨y1, y2, y3, y4⟩ := y
                    simp only at c0 c1 c2 c3 o0 o1 o2 o3 o4
                    rcases HY.out with hy | ⟨hy1, hy2⟩
                    · have hy : (y3 == p) = false := by simpa using hy
                      go_wp2
                      go_roundw
                      case rel => exact ⟨j + 1, by omega, by go_num, BI.out⟩
                      case measure => simp [intOf]; omega
                    · have hy1 : (v == 0) = false := by simpa using hy1
                      have hy2 : (v == y1) = false := by simpa using hy2
                      by_cases hy : y3 = p
                      · subst hy
                        go_wp2
                        go_roundw
                        case rel => exact ⟨j + 1, by omega, by go_num, BI.out⟩
                        case measure => simp [intOf]; omega
                      · have hy : (y3 == p) = false := by simpa using hy
                        go_wp2
                        go_roundw
                        case rel => exact ⟨j + 1, by omega, by go_num, BI.out⟩
                        case measure => simp [intOf]; omega
                  · obtain rfl : j = l'.length := by omega
                    obtain ⟨u0, u1, u2⟩ := (U1.out.keep HI.out).all3
                    have T5 := Lib.hid (T1.out.below HI.out)
                    have E5 := Lib.hid (E1.out.below HI.out)
                    have B5 := Lib.hid (Bx.then_below B1.out HI.out)
                    obtain ⟨⟨t0, t1, t2⟩, f0, f1, f2⟩ := T5.out.1.all3
                    have BF := Lib.hid (((B5.out.setCell (p := ⟨b7, 0, none⟩) hk7 (.int .i64 most)).setCell (p := ⟨b7, 1, none⟩) hk7 (.int .i64 long)).setCell (p := ⟨b7, 2, none⟩) hk7 (.slice A' l'.length c'))
                    have TF := Lib.hid (Tst.put (most := most) (long := long) (c := c') T5.out.1 E5.out HAN.out)
                    clear T5 E5 B5 T1 E1 U1 O1 B1 HAN HT HB HI
                    go_wp2
                    go_roundw
                    case rel => exact ⟨k0 + 1, l', A', c', by omega, by go_num, HNX.out, TF.out, BF.out⟩
                    case measure => simp [intOf]; omega
              · have HIN := Lib.hid (show ∀ y : En, y ∈ stepL most long l ⟨k, v, m, p, s⟩ → True from fun _ _ => trivial)
                generalize stepN most long l ⟨k, v, m, p, s⟩ = num at *
                generalize stepL most long l ⟨k, v, m, p, s⟩ = l' at *
                clear he HWR HFO HFL HFG
                have BX := Lib.hid (Bx.bel_box HB.out (opo k v m p s))
                have TX := Lib.hid (HT.out.below (Bx.box_below wr (opo k v m p s)))
                have OX := Lib.hid (Bx.Blk.new wr [.int .i64 k, .int .i64 v, .int .u64 m, .int .i64 p, .int .i64 s] 33)
                obtain ⟨t0, t1, t2⟩ := TX.out.1.1.all3
                go_wp2_with fail
                refine (HST.out _ TX.out.2.1).mono ?_; rintro e w1 ⟨A', c', rfl, hA', hE', hb⟩
                clear t0 t1 t2
                have T1 := Lib.hid ((TX.out.below hb).below (Bx.box_below w1 (to most long A' l'.length c')))
                have O1 := Lib.hid ((OX.out.keep hb).keep (Bx.box_below w1 (to most long A' l'.length c')))
                have B1 := Lib.hid (Bx.bel_box (Bx.then_below BX.out hb) (to most long A' l'.length c'))
                have U1 := Lib.hid (Bx.Blk.new w1 [.int .i64 most, .int .i64 long, .slice A' l'.length c'] 26)
                have E1 := Lib.hid (hE'.below (Bx.box_below w1 (to most long A' l'.length c')))
                have HAN := Lib.hid (show ∀ b' o, A' = some ⟨b', o, none⟩ → 0 < l'.length → b' ≠ b7 from fun b' o e h0 => by
                  rcases hA' with ⟨rfl, rfl⟩ | hA'
                  · exact TX.out.2.2 b' o e h0
                  · have := hA' b' o e
                    have := TX.out.1.2.1
                    omega)
                obtain ⟨u0, u1, u2⟩ := U1.out.all3
                clear hA' hE' hb TX OX BX
                go_wp2_with fail
                clear u0 u1 u2
                generalize hg : w1.alloc (to most long A' l'.length c') = W1 at *
                clear hg
                generalize w1.heap.size = b11 at *
                generalize wr.heap.size = b10 at *
                refine (HSO.out _ _ _ E1.out).mono ?_; rintro e w2 ⟨rfl, hb⟩
                replace T1 := Lib.hid (T1.out.below hb)
                replace O1 := Lib.hid (O1.out.keep hb)
                replace B1 := Lib.hid (Bx.then_below B1.out hb)
                replace U1 := Lib.hid (U1.out.keep hb)
                replace E1 := Lib.hid (E1.out.below hb)
                clear hb
                obtain ⟨t0, t1, t2⟩ := T1.out.1.1.all3
                obtain ⟨u0, u1, u2⟩ := U1.out.all3
                obtain ⟨o0, o1, o2, o3, o4⟩ := O1.out.all5
                go_wp2_with fail
                clear t0 t1 t2 u0 u1 u2 o0 o1 o2 o3 o4
                refine (HFI.out _ _ _ E1.out).mono ?_; rintro e w4 ⟨rfl, hb⟩
                replace T1 := Lib.hid (T1.out.below hb)
                replace O1 := Lib.hid (O1.out.keep hb)
                replace B1 := Lib.hid (Bx.then_below B1.out hb)
                replace U1 := Lib.hid (U1.out.keep hb)
                replace E1 := Lib.hid (E1.out.below hb)
                clear hb
                have hb := Bx.box_below w4 (Obj.cells #[.int .i64 x1, .int .u64 x2, .int .i64 x3, .int .i64 x4] 39)
                have XX := Bx.Blk.new w4 [.int .i64 x1, .int .u64 x2, .int .i64 x3, .int .i64 x4] 39
                replace T1 := Lib.hid (T1.out.below hb)
                replace O1 := Lib.hid (O1.out.keep hb)
                replace B1 := Lib.hid (Bx.then_below B1.out hb)
                replace U1 := Lib.hid (U1.out.keep hb)
                replace E1 := Lib.hid (E1.out.below hb)
                clear hb
                obtain ⟨u0, u1, u2⟩ := U1.out.all3
                obtain ⟨o0, o1, o2, o3, o4⟩ := O1.out.all5
                obtain ⟨x0, x1', x2', x3'⟩ := XX.all4
                go_wp2
                clear u0 u1 u2 o0 o1 o2 o3 o4 x0 x1' x2' x3' XX
                generalize hg : w4.alloc (Obj.cells #[.int .i64 x1, .int .u64 x2, .int .i64 x3, .int .i64 x4] 39) = W4 at *
                clear hg
                go_loopw [17, 112] (fun _ ix wi => ∃ j : Nat, j ≤ l'.length ∧ ix = .int .i64 j ∧ Aside (Below W4.heap.size W4 wi)) (fun _ ix _ => l'.length - (intOf ix).toNat)
                case atStart => exact ⟨0, Nat.zero_le _, rfl, Below.refl _ _⟩
                case round =>
                  obtain ⟨j, hj, rfl, HI⟩ := hrel
                  by_cases hlt2 : j < l'.length
                  · obtain ⟨b, q, rfl, _, c0, c1, c2, c3⟩ := (E1.out.below HI.out).at hlt2
                    have HY := Lib.hid (HIN.out l'[j] (List.getElem_mem hlt2))
                    obtain ⟨o0, o1, o2, o3, o4⟩ := ((O1.out.keep HI.out).keep (Bx.box_below wr (eo l'[j]))).all5
                    have BI := Lib.hid (Bx.bel_box HI.out (eo l'[j]))
                    generalize l'[j] = y at *
                    obtain ⟨y1, y2, y3, y4⟩ := y
                    simp only at c0 c1 c2 c3 o0 o1 o2 o3 o4
                    go_wp2
                    go_roundw
                    case rel => exact ⟨j + 1, by omega, by go_num, BI.out⟩
                    case measure => simp [intOf]; omega
                  · obtain rfl : j = l'.length := by omega
                    obtain ⟨u0, u1, u2⟩ := (U1.out.keep HI.out).all3
                    have T5 := Lib.hid (T1.out.below HI.out)
                    have E5 := Lib.hid (E1.out.below HI.out)
                    have B5 := Lib.hid (Bx.then_below B1.out HI.out)
                    obtain ⟨⟨t0, t1, t2⟩, f0, f1, f2⟩ := T5.out.1.all3
                    have BF := Lib.hid (((B5.out.setCell (p := ⟨b7, 0, none⟩) hk7 (.int .i64 most)).setCell (p := ⟨b7, 1, none⟩) hk7 (.int .i64 long)).setCell (p := ⟨b7, 2, none⟩) hk7 (.slice A' l'.length c'))
                    have TF := Lib.hid (Tst.put (most := most) (long := long) (c := c') T5.out.1 E5.out HAN.out)
                    clear T5 E5 B5 T1 E1 U1 O1 B1 HAN HT HB HI
                    go_wp2
                    go_roundw
                    case rel => exact ⟨k0 + 1, l', A', c', by omega, by go_num, HNX.out, TF.out, BF.out⟩
                    case measure => simp [intOf]; omega
        · obtain ⟨h0, hle⟩ := HWR.out he
          have h0' : k = 0 := h0
          clear h0
          subst h0'
          have HIN := Lib.hid (show ∀ y : En, y ∈ stepL most long l ⟨0, v, m, p, s⟩ → True from fun _ _ => trivial)
          have HSM := Lib.hid (show ∀ (A B : Option Addr) (c d : Nat) (w : World), Ents w A l → Ents w B (stepL most long l ⟨0, v, m, p, s⟩) → Calls Try.prog 9 #[tv most long A l.length c, tv most long B (stepL most long l ⟨0, v, m, p, s⟩).length d] w fun e w' => e = .returned (.bool true) ∧ Below w.heap.size w w' by rw [hle]; exact HSA.out)
          generalize isE (stepL most long l ⟨0, v, m, p, s⟩) v m = isx at *
          generalize gotE (stepL most long l ⟨0, v, m, p, s⟩) v m = xx at *
          obtain ⟨x1, x2, x3, x4⟩ := xx
          generalize stepN most long l ⟨0, v, m, p, s⟩ = num at *
          have he' : (stepE most l ⟨0, v, m, p, s⟩ == 0) = false := by simpa using he
          have he'' : (stepE most l ⟨0, v, m, p, s⟩ != 0) = true := by simpa using he
          generalize stepE most l ⟨0, v, m, p, s⟩ = err at *
          generalize stepL most long l ⟨0, v, m, p, s⟩ = l' at *
          clear hle HWR HFO HFL HFG
          have BX := Lib.hid (Bx.bel_box HB.out (opo 0 v m p s))
          have TX := Lib.hid (HT.out.below (Bx.box_below wr (opo 0 v m p s)))
          have OX := Lib.hid (Bx.Blk.new wr [.int .i64 0, .int .i64 v, .int .u64 m, .int .i64 p, .int .i64 s] 33)
          obtain ⟨t0, t1, t2⟩ := TX.out.1.1.all3
          go_wp2_with fail
          refine (HST.out _ TX.out.2.1).mono ?_; rintro e w1 ⟨A', c', rfl, hA', hE', hb⟩
          clear t0 t1 t2
          have T1 := Lib.hid ((TX.out.below hb).below (Bx.box_below w1 (to most long A' l'.length c')))
          have O1 := Lib.hid ((OX.out.keep hb).keep (Bx.box_below w1 (to most long A' l'.length c')))
          have B1 := Lib.hid (Bx.bel_box (Bx.then_below BX.out hb) (to most long A' l'.length c'))
          have U1 := Lib.hid (Bx.Blk.new w1 [.int .i64 most, .int .i64 long, .slice A' l'.length c'] 26)
          have E1 := Lib.hid (hE'.below (Bx.box_below w1 (to most long A' l'.length c')))
          have HAN := Lib.hid (show ∀ b' o, A' = some ⟨b', o, none⟩ → 0 < l'.length → b' ≠ b7 from fun b' o e h0 => by
            rcases hA' with ⟨rfl, rfl⟩ | hA'
            · exact TX.out.2.2 b' o e h0
            · have := hA' b' o e
              have := TX.out.1.2.1
              omega)
          obtain ⟨u0, u1, u2⟩ := U1.out.all3
          clear hA' hE' hb TX OX BX
          go_wp2_with fail
          clear u0 u1 u2
          generalize hg : w1.alloc (to most long A' l'.length c') = W1 at *
          clear hg
          generalize w1.heap.size = b11 at *
          generalize wr.heap.size = b10 at *
          refine (HSO.out _ _ _ E1.out).mono ?_; rintro e w2 ⟨rfl, hb⟩
          replace T1 := Lib.hid (T1.out.below hb)
          replace O1 := Lib.hid (O1.out.keep hb)
          replace B1 := Lib.hid (Bx.then_below B1.out hb)
          replace U1 := Lib.hid (U1.out.keep hb)
          replace E1 := Lib.hid (E1.out.below hb)
          clear hb
          obtain ⟨t0, t1, t2⟩ := T1.out.1.1.all3
          obtain ⟨u0, u1, u2⟩ := U1.out.all3
          obtain ⟨o0, o1, o2, o3, o4⟩ := O1.out.all5
          go_wp2_with fail
          clear t0 t1 t2 u0 u1 u2 o0 o1 o2 o3 o4
          refine (HSM.out _ _ _ _ _ T1.out.2.1 E1.out).mono ?_; rintro e w3 ⟨rfl, hb⟩
          replace T1 := Lib.hid (T1.out.below hb)
          replace O1 := Lib.hid (O1.out.keep hb)
          replace B1 := Lib.hid (Bx.then_below B1.out hb)
          replace U1 := Lib.hid (U1.out.keep hb)
          replace E1 := Lib.hid (E1.out.below hb)
          clear hb
          obtain ⟨t0, t1, t2⟩ := T1.out.1.1.all3
          obtain ⟨u0, u1, u2⟩ := U1.out.all3
          obtain ⟨o0, o1, o2, o3, o4⟩ := O1.out.all5
          go_wp2_with fail
          clear t0 t1 t2 u0 u1 u2 o0 o1 o2 o3 o4
          refine (HFI.out _ _ _ E1.out).mono ?_; rintro e w4 ⟨rfl, hb⟩
          replace T1 := Lib.hid (T1.out.below hb)
          replace O1 := Lib.hid (O1.out.keep hb)
          replace B1 := Lib.hid (Bx.then_below B1.out hb)
          replace U1 := Lib.hid (U1.out.keep hb)
          replace E1 := Lib.hid (E1.out.below hb)
          clear hb
          have hb := Bx.box_below w4 (Obj.cells #[.int .i64 x1, .int .u64 x2, .int .i64 x3, .int .i64 x4] 39)
          have XX := Bx.Blk.new w4 [.int .i64 x1, .int .u64 x2, .int .i64 x3, .int .i64 x4] 39
          replace T1 := Lib.hid (T1.out.below hb)
          replace O1 := Lib.hid (O1.out.keep hb)
          replace B1 := Lib.hid (Bx.then_below B1.out hb)
          replace U1 := Lib.hid (U1.out.keep hb)
          replace E1 := Lib.hid (E1.out.below hb)
          clear hb
          obtain ⟨u0, u1, u2⟩ := U1.out.all3
          obtain ⟨o0, o1, o2, o3, o4⟩ := O1.out.all5
          obtain ⟨x0, x1', x2', x3'⟩ := XX.all4
          go_wp2
          clear u0 u1 u2 o0 o1 o2 o3 o4 x0 x1' x2' x3' XX
          generalize hg : w4.alloc (Obj.cells #[.int .i64 x1, .int .u64 x2, .int .i64 x3, .int .i64 x4] 39) = W4 at *
          clear hg
          go_loopw [17, 112] (fun _ ix wi => ∃ j : Nat, j ≤ l'.length ∧ ix = .int .i64 j ∧ Aside (Below W4.heap.size W4 wi)) (fun _ ix _ => l'.length - (intOf ix).toNat)
          case atStart => exact ⟨0, Nat.zero_le _, rfl, Below.refl _ _⟩
          case round =>
            obtain ⟨j, hj, rfl, HI⟩ := hrel
            by_cases hlt2 : j < l'.length
            · obtain ⟨b, q, rfl, _, c0, c1, c2, c3⟩ := (E1.out.below HI.out).at hlt2
              have HY := Lib.hid (HIN.out l'[j] (List.getElem_mem hlt2))
              obtain ⟨o0, o1, o2, o3, o4⟩ := ((O1.out.keep HI.out).keep (Bx.box_below wr (eo l'[j]))).all5
              have BI := Lib.hid (Bx.bel_box HI.out (eo l'[j]))
              generalize l'[j] = y at *
              obtain ⟨y1, y2, y3, y4⟩ := y
              simp only at c0 c1 c2 c3 o0 o1 o2 o3 o4
              go_wp2
              go_roundw
              case rel => exact ⟨j + 1, by omega, by go_num, BI.out⟩
              case measure => simp [intOf]; omega
            · obtain rfl : j = l'.length := by omega
              obtain ⟨u0, u1, u2⟩ := (U1.out.keep HI.out).all3
              have T5 := Lib.hid (T1.out.below HI.out)
              have E5 := Lib.hid (E1.out.below HI.out)
              have B5 := Lib.hid (Bx.then_below B1.out HI.out)
              obtain ⟨⟨t0, t1, t2⟩, f0, f1, f2⟩ := T5.out.1.all3
              have BF := Lib.hid (((B5.out.setCell (p := ⟨b7, 0, none⟩) hk7 (.int .i64 most)).setCell (p := ⟨b7, 1, none⟩) hk7 (.int .i64 long)).setCell (p := ⟨b7, 2, none⟩) hk7 (.slice A' l'.length c'))
              have TF := Lib.hid (Tst.put (most := most) (long := long) (c := c') T5.out.1 E5.out HAN.out)
              clear T5 E5 B5 T1 E1 U1 O1 B1 HAN HT HB HI
              go_wp2
              go_roundw
              case rel => exact ⟨k0 + 1, l', A', c', by omega, by go_num, HNX.out, TF.out, BF.out⟩
              case measure => simp [intOf]; omega
      · go_wp2_with fail
        refine (HAW.out _).mono ?_; rintro e w2 ⟨rfl, hb⟩
        have B9 := Lib.hid (Bx.then_below HB.out hb)
        go_wp2
        go_ret
        exact ⟨rfl, B9.out⟩

end Tab

namespace LawTableSound
open Go.ChangeShapes Go.WideShapes Go.ChangeAt Go.RowKit
open Go.ChangeMaps (open_string shut_string)

theorem own : ownKnob Try.prog.godebug = none := by kernel_rfl
theorem laidOut : laidOutB Try.prog = true := by kernel_rfl

set_option maxRecDepth 100000 in
theorem lifted (os : Os) (started : os.Started) (H : Type) (enc : TypeId × Value → H) :
    ReturnsInHanded {} Try.checked os 3 .any (Rows.tableSoundSpec.pre6 enc Try.prog Try.f3 Rows.tableSoundRow.domain false) (Rows.tableSoundSpec.post enc Try.prog Try.f3 false true false false) := by
  refine Fr.law_lift (C := Try.checked) (tb := 4) own started (by kernel_rfl) Try.func3
    (ChangeSpec.witness6 (enc := enc) (C := Try.checked) false ⟨#[], #[.slice none 0 0, .int .i64 0, .int .i64 0], []⟩ 8 (by kernel_rfl) (by kernel_rfl) (by kernel_rfl) (by kernel_rfl))
    laidOut (by rw [Try.params3]; decide +kernel) rfl Try.underlying4 rfl ?_ ?_
  · intro ds hl
    match ds, hl with
    | [d0, d1, d2], _ => rfl
  · intro W base args ds p hval hA
    rw [Try.params3] at hA hval
    obtain ⟨v0, vs0, d0, ds0, p0, q0, hargs, rfl, rfl, h0, r0⟩ := trodAll_cons hA
    obtain ⟨v1, vs1, d1, ds1, p1, q1, rfl, rfl, rfl, h1, r1⟩ := trodAll_cons r0
    obtain ⟨v2, vs2, d2, ds2, p2, q2, rfl, rfl, rfl, h2, r2⟩ := trodAll_cons r1
    obtain ⟨rfl, rfl, rfl⟩ := trodAll_nil r2
    obtain rfl : args = #[v0, v1, v2] := by cases args; simp_all
    obtain ⟨A0, l0, c0, rfl, hl0, hA0, hm0⟩ := Tab.open_ops (hval 0 22 v0 rfl rfl) h0
    obtain ⟨a1, rfl, rfl, rfl, w1⟩ := open_int Try.underlying3 (hval 1 3 v1 rfl rfl) h1
    obtain ⟨a2, rfl, rfl, rfl, w2⟩ := open_int Try.underlying3 (hval 2 3 v2 rfl rfl) h2
    exact Tab.law_sound W l0 hl0 A0 c0 hA0 hm0 a1 w1 a2 w2

theorem over : Rows.tableSoundRow.holds Try.pinned (OpenSpec.ofChange Rows.tableSoundSpec) :=
  OpenClaim.holds_of_wide 3 Try.f3 rfl rfl rfl rfl rfl rfl rfl ⟨rfl, rfl, rfl, rfl, rfl⟩ rfl rfl rfl rfl rfl (by kernel_rfl) Try.func3 (by kernel_rfl)
    (of_decide_eq_true (by kernel_rfl)) (by unfold Func.isWrapper; first | (rw [if_pos (by decide +kernel)]; kernel_rfl) | (rw [if_neg (by decide +kernel)]; exact ⟨rfl, rfl⟩))
    (fun os started H enc _ => lifted os started H enc)
end LawTableSound

/-- The statement TableSound. -/
theorem tableSound_holds : Rows.TableSoundSaid := LawTableSound.over

end Go.Proofs.Ytfnjgjehmddkcaa
