/-
  What package member finds, and the document beside it: the map of the first VLAN of each number, the VLAN of a number, its ports.
-/
import Derived.Test.YtbighadkcmhplaaMemA
import Derived.Test.YtbighadkcmhplaaDict
import Derived.Test.YtbighadkcmhplaaFre
namespace Go.Proofs.Ytbighadkcmhplaa
open Go.RowKit
namespace Mem
open Oct Eth

theorem zero_vl (w : World) : (zeroValue 38).run Try.prog w = .ok (vlv none3) w := by kernel_rfl

theorem look_any {w : World} {b : Nat} {D : List Vl} (h : Dict w b D) (n : Int) :
    (Instr.lookup 52 (.map (some b)) (.int .i64 n) true).run Try.prog w = .ok (.tuple #[vlv (gotV D n), .bool (isV D n)]) w :=
  dict_look h Try.underlying52 Try.underlying3 (zero_vl w) n

theorem put_any {w : World} {b : Nat} {D : List Vl} (h : Dict w b D) (x : Vl) (hn : isV D x.v = false) :
    ∃ w', (Instr.mapUpdate 52 (.map (some b)) (.int .i64 x.v) (vlv x)).run Try.prog w = .ok () w' ∧ Dict w' b (addV D x) ∧ ∀ (a : World) (B : Nat), B ≤ b → Below B a w → Below B a w' :=
  dict_put h Try.underlying52 Try.underlying3 x hn

set_option maxRecDepth 20000 in
set_option maxHeartbeats 2000000 in
theorem byVid_any (l : List Vl) (hl : l.length ≤ maxLen) (A : Option Addr) (c : Nat) (w : World) (hA : Vls w A l) :
    Calls Try.prog 28 #[.slice A l.length c] w fun e w' => (∃ b, e = .returned (.map (some b)) ∧ Dict w' b (dictV l)) ∧ Below w.heap.size w w' := by
  have HA := Lib.hid hA
  have hmm := @run_makeMap Try.prog
  have HD0 := Lib.hid (Dict.new w)
  have HB0 := Lib.hid (Bx.box_below w (.map #[] 0))
  clear hA
  have hl' : l.length ≤ 9223372036854775807 := hl
  go_enter Try.func28, Try.ntmps28
  go_wp2
  go_loopw [5, 6, 7, 11] (fun _ _ _ ix wr => ∃ k : Nat, k ≤ l.length ∧ ix = .int .i64 k ∧ Aside (Dict wr w.heap.size (dictV (l.take k))) ∧ Aside (Below w.heap.size w wr)) (fun _ _ _ ix _ => l.length - (intOf ix).toNat)
  case atStart => exact ⟨0, Nat.zero_le _, rfl, HD0.out, HB0.out⟩
  case round =>
    obtain ⟨k, hk, rfl, HD, HB⟩ := hrel
    by_cases hlt : k < l.length
    · obtain ⟨b', o', rfl, _, c0, c1, c2⟩ := (HA.out.below HB.out).at hlt
      have HN := Lib.hid (dict_next hlt)
      have HB1 := Lib.hid (Bx.bel_box HB.out (vo l[k]))
      have HD1 := Lib.hid (HD.out.keep (Bx.box_below wr (vo l[k])))
      have HV1 := Lib.hid (Bx.Blk.new wr (vc l[k]) 38)
      generalize l[k] = x at *
      generalize dictV (l.take k) = D at *
      have hlk := look_any HD1.out x.v
      have HB2 := Lib.hid (Bx.bel_box HB1.out (vo (gotV D x.v)))
      have HD2 := Lib.hid (HD1.out.keep (Bx.box_below (wr.alloc (vo x)) (vo (gotV D x.v))))
      have HV2 := Lib.hid (HV1.out.more (vo (gotV D x.v)))
      have HAD := Lib.hid (show isV D x.v = true → addV D x = D from fun h => by unfold addV; rw [if_pos h])
      have HPU := Lib.hid (put_any HD2.out x)
      generalize gotV D x.v = y at *
      obtain ⟨y1, y2, y3⟩ := y
      obtain ⟨x1, x2, x3⟩ := x
      simp only at c0 c1 c2 hlk HB1 HD1 HB2 HD2 HPU HAD HV1 HV2
      obtain ⟨v0, v1, v2⟩ := HV1.out.all3
      obtain ⟨u0, u1, u2⟩ := HV2.out.all3
      cases hx : isV D x1 with
      | true =>
        rw [hx] at hlk
        have HE := Lib.hid (HN.out.trans (HAD.out hx))
        clear hx HAD HPU HN
        go_wp2
        go_roundw
        case rel => exact ⟨k + 1, by omega, by go_num, by rw [HE.out]; exact HD2.out, HB2.out⟩
        case measure => simp [intOf]; omega
      | false =>
        rw [hx] at hlk
        obtain ⟨w3, hput, hD3, hb3⟩ := HPU.out hx
        rw [← HN.out] at hD3
        have HD3 := Lib.hid hD3
        have HB3 := Lib.hid (hb3 w w.heap.size (Nat.le_refl _) HB2.out)
        clear hx HAD HPU HN hD3 hb3
        go_wp2
        go_roundw
        case rel => exact ⟨k + 1, by omega, by go_num, HD3.out, HB3.out⟩
        case measure => simp [intOf]; omega
    · obtain rfl : k = l.length := by omega
      have HF := Lib.hid (show Dict wr w.heap.size (dictV l) by have := HD.out; rwa [List.take_length] at this)
      go_wp2
      go_ret
      exact ⟨⟨_, rfl, HF.out⟩, HB.out⟩

set_option maxRecDepth 20000 in
set_option maxHeartbeats 2000000 in
theorem find_any (o k : Nat → Int) (l : List Vl) (hl : l.length ≤ maxLen) (A : Option Addr) (c : Nat) (n : Int) (w : World) (hA : Vls w A l) :
    Calls Try.prog 11 #[pv o k A l.length c, .int .i64 n] w fun e w' => e = .returned (.tuple #[vl (gotV l n), .bool (isV l n)]) ∧ Below w.heap.size w w' := by
  have HI := Lib.hid (fun (w : World) hA => byVid_any l hl A c w hA)
  have bel := Lib.hid (Bx.bel_box (Bx.box_below w (po o k A l.length c)) (vo none3))
  have A1 := Lib.hid (hA.below bel.out)
  have R : Hid (Bx.Fre ((w.alloc (po o k A l.length c)).alloc (vo none3)) (w.heap.size + 1) (vc none3)) := Lib.hid (Bx.Fre.new_at (W := w.alloc (po o k A l.length c)) (vc none3) 38 (by simp))
  have HLK : Hid (∀ w b, Dict w b (dictV l) → (Instr.lookup 52 (.map (some b)) (.int .i64 n) true).run Try.prog w = .ok (.tuple #[vlv (gotV l n), .bool (isV l n)]) w) := Lib.hid fun w b h => by
    have := look_any h n
    rwa [got_dict, is_dict] at this
  have hle : w.heap.size ≤ w.heap.size + 1 := Nat.le_succ _
  clear hA
  generalize gotV l n = y at *
  generalize isV l n = q at *
  obtain ⟨y1, y2, y3⟩ := y
  go_enter Try.func11, Try.ntmps11
  go_wp2_with fail
  refine (HI.out _ A1.out).mono ?_; rintro e w1 ⟨⟨b, rfl, hD⟩, hb1⟩
  have hlk := HLK.out _ _ hD
  have bel2 := Lib.hid (Bx.bel_box (Bx.then_below bel.out hb1) (vo ⟨y1, y2, y3⟩))
  have R1 := Lib.hid ((R.out.keep hb1).more (vo ⟨y1, y2, y3⟩))
  have V := Lib.hid (Bx.Blk.new w1 (vc ⟨y1, y2, y3⟩) 38)
  obtain ⟨⟨r0, r1, r2⟩, f0, f1, f2⟩ := R1.out.all3
  obtain ⟨v0, v1, v2⟩ := V.out.all3
  have R2 := Lib.hid ((R1.out.1.put3 (x0 := .int .i64 y1) (x1 := .int .i64 y2) (x2 := .int .i64 y3)).all3)
  have bel3 := Lib.hid (Bx.bel_set3 (x0 := .int .i64 y1) (x1 := .int .i64 y2) (x2 := .int .i64 y3) hle bel2.out)
  clear hb1 HI A1 bel R HLK hD R1 V bel2
  go_wp2_with fail
  refine bodyPost_ret (v := .tuple #[vl ⟨y1, y2, y3⟩, .bool q]) ?_ rfl ?_
  · obtain ⟨d0, d1, d2⟩ := R2.out
    simp [results, Try.results11, d0, d1, d2, go_sem]
  · exact ⟨rfl, bel3.out⟩

set_option maxRecDepth 20000 in
set_option maxHeartbeats 2000000 in
theorem rfind_any (o k : Nat → Int) (l : List Vl) (hl : l.length ≤ maxLen) (A : Option Addr) (c : Nat) (n : Int) (w : World) (hA : Vls w A l) :
    Calls Try.prog 12 #[pv o k A l.length c, .int .i64 n] w fun e w' => e = .returned (.tuple #[vl (gotV l n), .bool (isV l n)]) ∧ Below w.heap.size w w' := by
  have bel := Lib.hid (Bx.bel_box (Bx.box_below w (po o k A l.length c)) (vo none3))
  have HA := Lib.hid (hA.below bel.out)
  have R : Hid (Bx.Fre ((w.alloc (po o k A l.length c)).alloc (vo none3)) (w.heap.size + 1) (vc none3)) := Lib.hid (Bx.Fre.new_at (W := w.alloc (po o k A l.length c)) (vc none3) 38 (by simp))
  have hle : w.heap.size ≤ w.heap.size + 1 := Nat.le_succ _
  have hl' : l.length ≤ 9223372036854775807 := hl
  clear hA
  go_enter Try.func12, Try.ntmps12
  go_wp2
  generalize hg : (w.alloc (po o k A l.length c)).alloc (vo none3) = W0 at *
  clear hg
  go_loopw [7, 11] (fun _ ix wr => ∃ j : Nat, j ≤ l.length ∧ ix = .int .i64 j ∧ Aside (j ≤ posV l n) ∧ Aside (Below W0.heap.size W0 wr)) (fun _ ix _ => l.length - (intOf ix).toNat)
  case atStart => exact ⟨0, Nat.zero_le _, rfl, Nat.zero_le _, Below.refl _ _⟩
  case round =>
    obtain ⟨j, hj, rfl, HP, HB⟩ := hrel
    have HR := Lib.hid (R.out.keep HB.out)
    have HW := Lib.hid (Bx.then_below bel.out HB.out)
    by_cases hlt : j < l.length
    · obtain ⟨b', o', rfl, _, c0, c1, c2⟩ := (HA.out.below HB.out).at hlt
      by_cases hx : l[j].v = n
      · have hf := posV_hit hlt HP.out hx
        have HQ := Lib.hid (show gotV l n = l[j] ∧ isV l n = true from ⟨by unfold gotV; rw [hf]; rfl, by unfold isV; rw [hf]; rfl⟩)
        have R1 := Lib.hid (HR.out.more (vo l[j]))
        have bel2 := Lib.hid (Bx.bel_box HW.out (vo l[j]))
        have V := Lib.hid (Bx.Blk.new wr (vc l[j]) 38)
        have hx' : (l[j].v == n) = true := by simpa using hx
        clear hf
        generalize l[j] = x at *
        obtain ⟨x1, x2, x3⟩ := x
        simp only at c0 c1 c2 hx hx' V R1 bel2 HQ
        subst hx
        obtain ⟨⟨r0, r1, r2⟩, f0, f1, f2⟩ := R1.out.all3
        obtain ⟨v0, v1, v2⟩ := V.out.all3
        have R2 := Lib.hid ((R1.out.1.put3 (x0 := .int .i64 x1) (x1 := .int .i64 x2) (x2 := .int .i64 x3)).all3)
        have bel3 := Lib.hid (Bx.bel_set3 (x0 := .int .i64 x1) (x1 := .int .i64 x2) (x2 := .int .i64 x3) hle bel2.out)
        clear R1 V bel2 HR HW HB HP HA R bel
        go_wp2
        refine bodyPost_ret (v := .tuple #[vl ⟨x1, x2, x3⟩, .bool true]) ?_ rfl ?_
        · obtain ⟨d0, d1, d2⟩ := R2.out
          simp [results, Try.results12, d0, d1, d2, go_sem]
        · exact ⟨by rw [HQ.out.1, HQ.out.2], bel3.out⟩
      · have HP2 := Lib.hid (posV_miss hlt HP.out hx)
        have HB2 := Lib.hid (Bx.bel_box HB.out (vo l[j]))
        have V := Lib.hid (Bx.Blk.new wr (vc l[j]) 38)
        have hx' : (l[j].v == n) = false := by simpa using hx
        generalize l[j] = x at *
        obtain ⟨x1, x2, x3⟩ := x
        simp only at c0 c1 c2 hx hx' V HB2
        obtain ⟨v0, v1, v2⟩ := V.out.all3
        clear HR HW HP V
        go_wp2
        go_roundw
        case rel => exact ⟨j + 1, by omega, by go_num, HP2.out, HB2.out⟩
        case measure => simp [intOf]; omega
    · obtain rfl : j = l.length := by omega
      have hf := posV_end HP.out
      have HQ := Lib.hid (show gotV l n = none3 ∧ isV l n = false from ⟨by unfold gotV; rw [hf]; rfl, by unfold isV; rw [hf]; rfl⟩)
      obtain ⟨⟨r0, r1, r2⟩, f0, f1, f2⟩ := HR.out.all3
      have R2 := Lib.hid ((HR.out.1.put3 (x0 := .int .i64 0) (x1 := .int .i64 0) (x2 := .int .i64 0)).all3)
      have bel3 := Lib.hid (Bx.bel_set3 (x0 := .int .i64 0) (x1 := .int .i64 0) (x2 := .int .i64 0) hle HW.out)
      clear HR HW HB HP HA R bel hf
      go_wp2
      refine bodyPost_ret (v := .tuple #[vl none3, .bool false]) ?_ rfl ?_
      · obtain ⟨d0, d1, d2⟩ := R2.out
        simp [results, Try.results12, d0, d1, d2, go_sem]
      · exact ⟨by rw [HQ.out.1, HQ.out.2], bel3.out⟩

end Mem
end Go.Proofs.Ytbighadkcmhplaa
