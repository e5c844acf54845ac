/-
  The statement TableMoves: for every list of steps, every number and every address, the law TableMoves returns true, and its arguments read afterwards as they read before.
-/
import Derived.Test.YtfnjgjehmddkcaaTabMovA
import Derived.Test.YtfnjgjehmddkcaaTabSound
namespace Go.Proofs.Ytfnjgjehmddkcaa
open Go.RowKit
namespace Tab
open Oct

set_option maxRecDepth 100000 in
set_option maxHeartbeats 8000000 in
theorem law_moves (w : World) (L : List Ev) (hl : L.length ≤ maxLen) (A0 : Option Addr) (c0 : Nat) (hA : Ops w A0 L) (hm : ∀ o ∈ L, o.m < 18446744073709551616) (v : Int) (_wx : (Lit.int .i64 v).wf = true) (mi : Int) (wm : (Lit.int .u64 mi).wf = true) :
    Calls Try.prog 4 #[.slice A0 L.length c0, .int .i64 v, .int .u64 mi] w fun e w' => e = .returned (.bool true) ∧ Below w.heap.size w w' := by
  obtain ⟨m, rfl, hm2⟩ := nat_u64 wm
  have HA := Lib.hid hA
  have HM := Lib.hid hm
  have HAW := Lib.hid awake_any
  have hl' : L.length ≤ 9223372036854775807 := hl
  have hm2 := Lib.hid hm2
  clear hA hm wm
  by_cases hlen : 100 < L.length
  · go_enter Try.func4, Try.ntmps4
    go_wp2_with fail
    refine (HAW.out _).mono ?_; rintro e w1 ⟨rfl, hb⟩
    go_wp2
    go_ret
    exact ⟨rfl, hb⟩
  · have HNE := Lib.hid (show ∀ w, Calls Try.prog 6 #[.int .i64 12, .int .i64 9] w fun e w' => e = .returned (.tuple #[tv 12 9 none 0 0, .int .i64 0]) ∧ Below w.heap.size w w' from fun w => new_any 12 9 w)
    go_enter Try.func4, Try.ntmps4
    go_wp2_with fail
    refine (HNE.out _).mono ?_; rintro e w1 ⟨rfl, hb1⟩
    have HB0 := Lib.hid (Bx.bel_box hb1 (to 12 9 none 0 0))
    have HT0 := Lib.hid (show Tst (w1.alloc (to 12 9 none 0 0)) w1.heap.size 12 9 none [] 0 from ⟨Fre.new w1 [.int .i64 12, .int .i64 9, .slice none 0 0] 26, Ents.nil _ _, fun b o e => by cases e⟩)
    have hk7 : w.heap.size ≤ w1.heap.size := hb1.size
    have HI0 := Lib.hid (show Inv 12 9 [] from ⟨Snd.nil (by decide), fun e he => by simp at he⟩)
    clear hb1 HNE
    go_wp2
    generalize hg : w1.alloc (to 12 9 none 0 0) = W0 at *
    clear hg
    generalize w1.heap.size = b7 at *
    go_loopw [10, 34] (fun _ ix wr => ∃ (k0 : Nat) (l : List En) (A : Option Addr) (c : Nat), k0 ≤ L.length ∧ ix = .int .i64 k0 ∧ Aside (Inv 12 9 l) ∧ Aside (Tst wr b7 12 9 A l c) ∧ Aside (Below w.heap.size w wr)) (fun _ ix _ => L.length - (intOf ix).toNat)
    case atStart => exact ⟨0, [], none, 0, Nat.zero_le _, rfl, HI0.out, HT0.out, HB0.out⟩
    case round =>
      obtain ⟨k0, l, A, c, hk, rfl, HV, HT, HB⟩ := hrel
      have hll : l.length ≤ 12 := by have := HV.out.snd.len; omega
      by_cases hlt : k0 < L.length
      · obtain ⟨b, q, rfl, _, c0, c1, c2, c3, c4⟩ := (HA.out.below HB.out).at hlt
        have hom := HM.out L[k0] (List.getElem_mem hlt)
        generalize L[k0] = ov at *
        obtain ⟨k, v', m', p, s⟩ := ov
        simp only at c0 c1 c2 c3 c4 hom
        have HST := Lib.hid (fun (w : World) hE => step_any 12 9 (by decide) l (by omega) HV.out.old A c ⟨k, v', m', p, s⟩ hom w hE)
        have HNX := Lib.hid (HV.out.step (by decide) ⟨k, v', m', p, s⟩ hom)
        generalize stepN 12 9 l ⟨k, v', m', p, s⟩ = num at *
        generalize stepE 12 l ⟨k, v', m', p, s⟩ = err at *
        generalize stepL 12 9 l ⟨k, v', m', p, s⟩ = l' at *
        have BX := Lib.hid (Bx.bel_box HB.out (opo k v' m' p s))
        have TX := Lib.hid (HT.out.below (Bx.box_below wr (opo k v' m' p s)))
        have OX := Lib.hid (Bx.Blk.new wr [.int .i64 k, .int .i64 v', .int .u64 m', .int .i64 p, .int .i64 s] 33)
        obtain ⟨t0, t1, t2⟩ := TX.out.1.1.all3
        obtain ⟨o0, o1, o2, o3, o4⟩ := OX.out.all5
        go_wp2_with fail
        refine (HST.out _ TX.out.2.1).mono ?_; rintro e w1 ⟨A', c', rfl, hA', hE', hb⟩
        clear t0 t1 t2 o0 o1 o2 o3 o4
        have HAN := Lib.hid (show ∀ b' o, A' = some ⟨b', o, none⟩ → 0 < l'.length → b' ≠ b7 from fun b' o e h0 => by
          rcases hA' with ⟨rfl, rfl⟩ | hA'
          · exact TX.out.2.2 b' o e h0
          · have := hA' b' o e
            have := TX.out.1.2.1
            omega)
        have T1 := Lib.hid (TX.out.below hb)
        have B1 := Lib.hid (Bx.then_below BX.out hb)
        have E1 := Lib.hid hE'
        clear hA' hE' hb TX OX BX
        obtain ⟨⟨t0, t1, t2⟩, f0, f1, f2⟩ := T1.out.1.all3
        have BF := Lib.hid (((B1.out.setCell (p := ⟨b7, 0, none⟩) hk7 (.int .i64 12)).setCell (p := ⟨b7, 1, none⟩) hk7 (.int .i64 9)).setCell (p := ⟨b7, 2, none⟩) hk7 (.slice A' l'.length c'))
        have TF := Lib.hid (Tst.put (most := 12) (long := 9) (c := c') T1.out.1 E1.out HAN.out)
        clear T1 B1 E1 HAN HT HB
        go_wp2
        go_roundw
        case rel => exact ⟨k0 + 1, l', A', c', by omega, by go_num, HNX.out, TF.out, BF.out⟩
        case measure => simp [intOf]; omega
      · obtain rfl : k0 = L.length := by omega
        have T := Lib.hid HT.out
        have B := Lib.hid HB.out
        have HL1 := Lib.hid (fun (w : World) hE => learn_any 12 9 l (by omega) A c v m hm2.out 1 w hE)
        have hl1 := learn_len 12 l v m 1
        have HV1 := Lib.hid (HV.out.learn (by decide) v m hm2.out 1)
        have HL2 := Lib.hid (fun (A : Option Addr) (c : Nat) (w : World) hE => learn_any 12 9 (learnL 12 l v m 1) (by omega) A c v m hm2.out 2 w hE)
        have hl2 := learn_len 12 (learnL 12 l v m 1) v m 2
        have HSA := Lib.hid (fun (A B : Option Addr) (c d : Nat) (w : World) (hA : Ents w A l) (hB : Ents w B l) => show Calls Try.prog 9 #[tv 12 9 A l.length c, tv 12 9 B l.length d] w fun e w' => e = .returned (.bool true) ∧ Below w.heap.size w w' by
          have h := same_any 12 9 12 9 l l (by unfold maxLen; omega) (by unfold maxLen; omega) A B c d w hA hB
          rw [decide_eq_true ⟨rfl, rfl, rfl⟩] at h
          exact h)
        clear HT HB HI0 HT0 HB0
        by_cases he : learnE 12 l v m 1 = 0
        · have h4 := again_err (q := 2) he (by decide)
          have hn : (learnL 12 l v m 1).length = (learnL 12 (learnL 12 l v m 1) v m 2).length := (again_len (q := 2) he (by decide)).symm
          have HON := Lib.hid (again_one (q := 2) he (by decide))
          have HRE := Lib.hid (again_rest (q := 2) HV.out.snd he (by decide))
          have hfo := again_found (q := 2) HV.out.snd (by decide) he (by decide)
          have HFI := Lib.hid (fun (A : Option Addr) (c : Nat) (w : World) hE => find_any 12 9 (learnL 12 (learnL 12 l v m 1) v m 2) (by unfold maxLen; omega) v m A c w hE)
          have HFO := Lib.hid (fun (A : Option Addr) (c : Nat) (w : World) (v : Int) (m : Nat) hE => find_any 12 9 l (by unfold maxLen; omega) v m A c w hE)
          have hL2 : (learnL 12 (learnL 12 l v m 1) v m 2).length ≤ 14 := by omega
          rw [hfo.1, hfo.2] at HFI
          rw [h4] at HL2
          rw [he] at HL1
          have HN := Lib.hid hn
          clear hfo h4 he hl1 hl2 hn
          generalize learnL 12 (learnL 12 l v m 1) v m 2 = L2 at *
          generalize learnL 12 l v m 1 = L1 at *
          obtain ⟨t0, t1, t2⟩ := T.out.1.1.all3
          go_wp2_with fail
          refine (HL1.out _ T.out.2.1).mono ?_; rintro e w1 ⟨A1, c1, rfl, -, hE1, hb⟩
          clear t0 t1 t2
          replace T := Lib.hid (T.out.below hb)
          replace B := Lib.hid (Bx.then_below B.out hb)
          clear hb
          have hb := Bx.box_below w1 (to 12 9 A1 L1.length c1)
          have U := Lib.hid (Bx.Blk.new w1 [.int .i64 12, .int .i64 9, .slice A1 L1.length c1] 26)
          have E1 := Lib.hid (hE1.below hb)
          replace T := Lib.hid (T.out.below hb)
          replace B := Lib.hid (Bx.then_below B.out hb)
          clear hb hE1
          obtain ⟨u0, u1, u2⟩ := U.out.all3
          go_wp2_with fail
          clear u0 u1 u2
          generalize hg : w1.alloc (to 12 9 A1 L1.length c1) = W1 at *
          clear hg
          generalize w1.heap.size = b11 at *
          refine (HL2.out _ _ _ E1.out).mono ?_; rintro e w2 ⟨A2, c2, rfl, -, hE2, hb⟩
          replace T := Lib.hid (T.out.below hb)
          replace B := Lib.hid (Bx.then_below B.out hb)
          replace U := Lib.hid (U.out.keep hb)
          replace E1 := Lib.hid (E1.out.below hb)
          clear hb
          have hb := Bx.box_below w2 (to 12 9 A2 L2.length c2)
          have V := Lib.hid (Bx.Blk.new w2 [.int .i64 12, .int .i64 9, .slice A2 L2.length c2] 26)
          have E2 := Lib.hid (hE2.below hb)
          replace T := Lib.hid (T.out.below hb)
          replace B := Lib.hid (Bx.then_below B.out hb)
          replace U := Lib.hid (U.out.keep hb)
          replace E1 := Lib.hid (E1.out.below hb)
          clear hb hE2
          obtain ⟨v0, v1, v2⟩ := V.out.all3
          go_wp2_with fail
          clear v0 v1 v2
          generalize hg : w2.alloc (to 12 9 A2 L2.length c2) = W2 at *
          clear hg
          generalize w2.heap.size = b13 at *
          refine (HFI.out _ _ _ E2.out).mono ?_; rintro e w3 ⟨rfl, hb⟩
          replace T := Lib.hid (T.out.below hb)
          replace B := Lib.hid (Bx.then_below B.out hb)
          replace U := Lib.hid (U.out.keep hb)
          replace V := Lib.hid (V.out.keep hb)
          replace E1 := Lib.hid (E1.out.below hb)
          replace E2 := Lib.hid (E2.out.below hb)
          clear hb
          have hb := Bx.box_below w3 (eo ⟨v, m, 2, 0⟩)
          have X := Lib.hid (Bx.Blk.new w3 [.int .i64 v, .int .u64 m, .int .i64 2, .int .i64 0] 39)
          replace T := Lib.hid (T.out.below hb)
          replace B := Lib.hid (Bx.then_below B.out hb)
          replace U := Lib.hid (U.out.keep hb)
          replace V := Lib.hid (V.out.keep hb)
          replace E1 := Lib.hid (E1.out.below hb)
          replace E2 := Lib.hid (E2.out.below hb)
          clear hb
          obtain ⟨u0, u1, u2⟩ := U.out.all3
          obtain ⟨v0, v1, v2⟩ := V.out.all3
          obtain ⟨x0, x1, x2, x3⟩ := X.out.all4
          have hn := HN.out
          rw [hn] at u2
          clear hn
          go_wp2
          clear u0 u1 u2 v0 v1 v2 x0 x1 x2 x3 X U V E1
          generalize hg : w3.alloc (eo ⟨v, m, 2, 0⟩) = W4 at *
          clear hg
          generalize w3.heap.size = b15 at *
          have CN := Lib.hid (fun (j : Nat) (h : j < L2.length) h2 => cnt_no (v := v) (m := m) (l := L2) (j := j) h h2)
          have CY := Lib.hid (fun (j : Nat) (h : j < L2.length) h2 => cnt_yes (v := v) (m := m) (l := L2) (j := j) h h2)
          go_loopw [17, 19, 20, 21, 98] (fun n _ _ _ ix wi => ∃ j : Nat, j ≤ L2.length ∧ ix = .int .i64 j ∧ n = .int .i64 (cntK v m L2 j) ∧ Aside (Below W4.heap.size W4 wi)) (fun _ _ _ _ ix _ => L2.length - (intOf ix).toNat)
          case atStart => exact ⟨0, Nat.zero_le _, rfl, rfl, Below.refl _ _⟩
          case round =>
            obtain ⟨j, hj, rfl, rfl, HI⟩ := hrel
            have hc := cnt_le v m L2 j
            by_cases hlt2 : j < L2.length
            · obtain ⟨b, q, rfl, _, c0, c1, c2, c3⟩ := (E2.out.below HI.out).at hlt2
              have BI := Lib.hid (Bx.bel_box HI.out (eo L2[j]))
              obtain ⟨o0, o1, o2, o3⟩ := (Bx.Blk.new wr [.int .i64 L2[j].v, .int .u64 L2[j].m, .int .i64 L2[j].p, .int .i64 L2[j].a] 39).all4
              rcases HRE.out L2[j] (List.getElem_mem hlt2) with hy | ⟨hy, hg1, hg2⟩
              · have hcy := Lib.hid (CY.out j hlt2 hy)
                rw [isK_iff] at hy
                generalize L2[j] = y at *
                obtain ⟨y1, y2, y3, y4⟩ := y
                simp only at c0 c1 c2 c3 o0 o1 o2 o3 hy
                obtain ⟨rfl, rfl⟩ := hy
                go_wp2
                go_roundw
                case rel => exact ⟨j + 1, by omega, by go_num, by rw [hcy.out]; go_num, BI.out⟩
                case measure => simp [intOf]; omega
              · have hcn := Lib.hid (CN.out j hlt2 hy)
                have TI := Lib.hid ((T.out.below HI.out).below (Bx.box_below wr (eo L2[j])))
                have HF3 := Lib.hid (fun w hE => HFO.out A c w L2[j].v L2[j].m hE)
                rw [hg1, hg2] at HF3
                have hyk : ¬ (v = L2[j].v ∧ m = L2[j].m) := by rw [← isK_iff, hy]; simp
                clear hg1 hg2 hy
                have OI := Lib.hid (Bx.Blk.new wr [.int .i64 L2[j].v, .int .u64 L2[j].m, .int .i64 L2[j].p, .int .i64 L2[j].a] 39)
                have hne := neq_at L2[j] L2[j]
                have hgu := fun op a b => guard_at op a b L2[j] L2[j]
                generalize L2[j] = y at *
                obtain ⟨y1, y2, y3, y4⟩ := y
                rw [show decide ((⟨y1, y2, y3, y4⟩ : En) = ⟨y1, y2, y3, y4⟩) = true from decide_eq_true rfl] at hne
                simp only [enc] at hne hgu
                simp only at c0 c1 c2 c3 o0 o1 o2 o3 hyk
                have HYK := Lib.hid hyk
                clear hyk
                obtain ⟨t0, t1, t2⟩ := TI.out.1.1.all3
                have hne := Lib.hid hne
                have hgu := Lib.hid hgu
                by_cases hv : y1 = v
                · subst hv
                  have hm1 : ((y2 : Int) == (m : Int)) = false := by have := HYK.out; simp at this ⊢; omega
                  have hm3 : (y2 == m) = false := by have := HYK.out; simp at this ⊢; omega
                  have hm4 : ¬ y2 = m := by simpa using hm3
                  go_wp2_with fail
                  refine (HF3.out _ TI.out.2.1).mono ?_; rintro e w5 ⟨rfl, hb⟩
                  have B5 := Lib.hid (Bx.bel_box (Bx.then_below BI.out hb) (eo ⟨y1, y2, y3, y4⟩))
                  obtain ⟨p0, p1, p2, p3⟩ := ((OI.out.keep hb).keep (Bx.box_below w5 (eo ⟨y1, y2, y3, y4⟩))).all4
                  obtain ⟨q0, q1, q2, q3⟩ := (Bx.Blk.new w5 [.int .i64 y1, .int .u64 y2, .int .i64 y3, .int .i64 y4] 39).all4
                  clear t0 t1 t2 o0 o1 o2 o3 hb
                  have hne' := hne.out
                  have hgu' := hgu.out
                  go_wp2
                  go_roundw
                  case rel => exact ⟨j + 1, by omega, by go_num, by rw [hcn.out], B5.out⟩
                  case measure => simp [intOf]; omega
                · have hv1 : (y1 == v) = false := by simpa using hv
                  go_wp2_with fail
                  refine (HF3.out _ TI.out.2.1).mono ?_; rintro e w5 ⟨rfl, hb⟩
                  have B5 := Lib.hid (Bx.bel_box (Bx.then_below BI.out hb) (eo ⟨y1, y2, y3, y4⟩))
                  obtain ⟨p0, p1, p2, p3⟩ := ((OI.out.keep hb).keep (Bx.box_below w5 (eo ⟨y1, y2, y3, y4⟩))).all4
                  obtain ⟨q0, q1, q2, q3⟩ := (Bx.Blk.new w5 [.int .i64 y1, .int .u64 y2, .int .i64 y3, .int .i64 y4] 39).all4
                  clear t0 t1 t2 o0 o1 o2 o3 hb
                  have hne' := hne.out
                  have hgu' := hgu.out
                  go_wp2
                  go_roundw
                  case rel => exact ⟨j + 1, by omega, by go_num, by rw [hcn.out], B5.out⟩
                  case measure => simp [intOf]; omega
            · obtain rfl : j = L2.length := by omega
              have h1 : cntK v m L2 L2.length = 1 := by rw [cnt_all, HON.out]
              have BE := Lib.hid (Bx.then_below B.out HI.out)
              rw [h1]
              clear h1 hc
              go_wp2_with fail
              refine (HAW.out _).mono ?_; rintro e w5 ⟨rfl, hb⟩
              have BZ := Lib.hid (Bx.then_below BE.out hb)
              go_wp2
              go_ret
              exact ⟨rfl, BZ.out⟩
        · have hq := learn_err he
          rw [hq] at HL2
          have he1 : (learnE 12 l v m 1 == 0) = false := by simpa using he
          have he2 : (learnE 12 l v m 1 != 0) = true := by simpa using he
          generalize learnE 12 l v m 1 = err1 at *
          generalize learnE 12 (learnL 12 l v m 1) v m 2 = err2 at *
          rw [hq] at HL1
          clear hq
          generalize learnL 12 (learnL 12 l v m 1) v m 2 = L2 at *
          generalize learnL 12 l v m 1 = L1 at *
          generalize learnE 12 l v m 2 = err3 at *
          generalize learnL 12 l v m 2 = L3 at *
          clear HV1 hl1 hl2
          obtain ⟨t0, t1, t2⟩ := T.out.1.1.all3
          go_wp2_with fail
          refine (HL1.out _ T.out.2.1).mono ?_; rintro e w1 ⟨A1, c1, rfl, -, hE1, hb⟩
          clear t0 t1 t2
          replace T := Lib.hid (T.out.below hb)
          replace B := Lib.hid (Bx.then_below B.out hb)
          clear hb
          have hb := Bx.box_below w1 (to 12 9 A1 l.length c1)
          have U := Lib.hid (Bx.Blk.new w1 [.int .i64 12, .int .i64 9, .slice A1 l.length c1] 26)
          have E1 := Lib.hid (hE1.below hb)
          replace T := Lib.hid (T.out.below hb)
          replace B := Lib.hid (Bx.then_below B.out hb)
          clear hb hE1
          obtain ⟨u0, u1, u2⟩ := U.out.all3
          go_wp2_with fail
          clear u0 u1 u2
          generalize hg : w1.alloc (to 12 9 A1 l.length c1) = W1 at *
          clear hg
          generalize w1.heap.size = b11 at *
          refine (HL2.out _ _ _ E1.out).mono ?_; rintro e w2 ⟨A2, c2, rfl, -, hE2, hb⟩
          replace T := Lib.hid (T.out.below hb)
          replace B := Lib.hid (Bx.then_below B.out hb)
          replace U := Lib.hid (U.out.keep hb)
          replace E1 := Lib.hid (E1.out.below hb)
          clear hb
          have hb := Bx.box_below w2 (to 12 9 A2 L3.length c2)
          have V := Lib.hid (Bx.Blk.new w2 [.int .i64 12, .int .i64 9, .slice A2 L3.length c2] 26)
          have E2 := Lib.hid (hE2.below hb)
          replace T := Lib.hid (T.out.below hb)
          replace B := Lib.hid (Bx.then_below B.out hb)
          replace U := Lib.hid (U.out.keep hb)
          replace E1 := Lib.hid (E1.out.below hb)
          clear hb hE2
          obtain ⟨t0, t1, t2⟩ := T.out.1.1.all3
          obtain ⟨u0, u1, u2⟩ := U.out.all3
          go_wp2_with fail
          clear t0 t1 t2 u0 u1 u2
          refine (HSA.out _ _ _ _ _ T.out.2.1 E1.out).mono ?_; rintro e w3 ⟨rfl, hb⟩
          replace B := Lib.hid (Bx.then_below B.out hb)
          clear hb
          go_wp2_with fail
          refine (HAW.out _).mono ?_; rintro e w4 ⟨rfl, hb⟩
          replace B := Lib.hid (Bx.then_below B.out hb)
          go_wp2
          go_ret
          exact ⟨rfl, B.out⟩

end Tab

namespace LawTableMoves
open Go.ChangeShapes Go.WideShapes Go.ChangeAt Go.RowKit
open Go.ChangeMaps (open_string shut_string)

theorem own : ownKnob Try.prog.godebug = none := by kernel_rfl
theorem laidOut : laidOutB Try.prog = true := by kernel_rfl

set_option maxRecDepth 100000 in
theorem lifted (os : Os) (started : os.Started) (H : Type) (enc : TypeId × Value → H) :
    ReturnsInHanded {} Try.checked os 4 .any (Rows.tableMovesSpec.pre6 enc Try.prog Try.f4 Rows.tableMovesRow.domain false) (Rows.tableMovesSpec.post enc Try.prog Try.f4 false true false false) := by
  refine Fr.law_lift (C := Try.checked) (tb := 4) own started (by kernel_rfl) Try.func4
    (ChangeSpec.witness6 (enc := enc) (C := Try.checked) false ⟨#[], #[.slice none 0 0, .int .i64 0, .int .u64 0], []⟩ 8 (by kernel_rfl) (by kernel_rfl) (by kernel_rfl) (by kernel_rfl))
    laidOut (by rw [Try.params4]; decide +kernel) rfl Try.underlying4 rfl ?_ ?_
  · intro ds hl
    match ds, hl with
    | [d0, d1, d2], _ => rfl
  · intro W base args ds p hval hA
    rw [Try.params4] at hA hval
    obtain ⟨v0, vs0, d0, ds0, p0, q0, hargs, rfl, rfl, h0, r0⟩ := trodAll_cons hA
    obtain ⟨v1, vs1, d1, ds1, p1, q1, rfl, rfl, rfl, h1, r1⟩ := trodAll_cons r0
    obtain ⟨v2, vs2, d2, ds2, p2, q2, rfl, rfl, rfl, h2, r2⟩ := trodAll_cons r1
    obtain ⟨rfl, rfl, rfl⟩ := trodAll_nil r2
    obtain rfl : args = #[v0, v1, v2] := by cases args; simp_all
    obtain ⟨A0, l0, c0, rfl, hl0, hA0, hm0⟩ := Tab.open_ops (hval 0 22 v0 rfl rfl) h0
    obtain ⟨a1, rfl, rfl, rfl, w1⟩ := open_int Try.underlying3 (hval 1 3 v1 rfl rfl) h1
    obtain ⟨a2, rfl, rfl, rfl, w2⟩ := open_int Try.underlying31 (hval 2 31 v2 rfl rfl) h2
    exact Tab.law_moves W l0 hl0 A0 c0 hA0 hm0 a1 w1 a2 w2

theorem over : Rows.tableMovesRow.holds Try.pinned (OpenSpec.ofChange Rows.tableMovesSpec) :=
  OpenClaim.holds_of_wide 4 Try.f4 rfl rfl rfl rfl rfl rfl rfl ⟨rfl, rfl, rfl, rfl, rfl⟩ rfl rfl rfl rfl rfl (by kernel_rfl) Try.func4 (by kernel_rfl)
    (of_decide_eq_true (by kernel_rfl)) (by unfold Func.isWrapper; first | (rw [if_pos (by decide +kernel)]; kernel_rfl) | (rw [if_neg (by decide +kernel)]; exact ⟨rfl, rfl⟩))
    (fun os started H enc _ => lifted os started H enc)
end LawTableMoves

/-- The statement TableMoves. -/
theorem tableMoves_holds : Rows.TableMovesSaid := LawTableMoves.over

end Go.Proofs.Ytfnjgjehmddkcaa
