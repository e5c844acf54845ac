/-
  Packed in one text: MemB, MemW, MemC, MemD, MemE, MemF, FwdNum, Ints.
-/
import Derived.Test.YtmojegnflcokjaaDoorPkTabNum
import Derived.WalkKit
import Derived.Below
import Derived.Laws.World
import Derived.Lib.Hide
import Derived.Maps.AppendAt
/-
  What package member finds, and the document beside it: the map of the first VLAN of each number, the VLAN of a number, its ports.
-/
namespace Go.Proofs.YtmojegnflcokjaaDoor
open Go.RowKit
namespace Mem
open Oct Eth

theorem zero_vl (w : World) : (zeroValue 80).run Tryd.prog w = .ok (vlv none3) w := by kernel_rfl

theorem look_any {w : World} {b : Nat} {D : List Vl} (h : Dict w b D) (n : Int) :
    (Instr.lookup 112 (.map (some b)) (.int .i64 n) true).run Tryd.prog w = .ok (.tuple #[vlv (gotV D n), .bool (isV D n)]) w :=
  dict_look h Tryd.underlying112 Tryd.underlying3 (zero_vl w) n

theorem put_any {w : World} {b : Nat} {D : List Vl} (h : Dict w b D) (x : Vl) (hn : isV D x.v = false) :
    ∃ w', (Instr.mapUpdate 112 (.map (some b)) (.int .i64 x.v) (vlv x)).run Tryd.prog w = .ok () w' ∧ Dict w' b (addV D x) ∧ ∀ (a : World) (B : Nat), B ≤ b → Below B a w → Below B a w' :=
  dict_put h Tryd.underlying112 Tryd.underlying3 x hn

set_option maxRecDepth 20000 in
set_option maxHeartbeats 2000000 in
theorem byVid_any (l : List Vl) (hl : l.length ≤ maxLen) (A : Option Addr) (c : Nat) (w : World) (hA : Vls w A l) :
    Calls Tryd.prog 86 #[.slice A l.length c] w fun e w' => (∃ b, e = .returned (.map (some b)) ∧ Dict w' b (dictV l)) ∧ Below w.heap.size w w' := by
  have HA := Lib.hid hA
  have hmm := @run_makeMap Tryd.prog
  have HD0 := Lib.hid (Dict.new w)
  have HB0 := Lib.hid (Bx.box_below w (.map #[] 0))
  clear hA
  have hl' : l.length ≤ 9223372036854775807 := hl
  go_enter Tryd.func86, Tryd.ntmps86
  go_wp2
  go_loopw [5, 6, 7, 11] (fun _ _ _ ix wr => ∃ k : Nat, k ≤ l.length ∧ ix = .int .i64 k ∧ Aside (Dict wr w.heap.size (dictV (l.take k))) ∧ Aside (Below w.heap.size w wr)) (fun _ _ _ ix _ => l.length - (intOf ix).toNat)
  case atStart => exact ⟨0, Nat.zero_le _, rfl, HD0.out, HB0.out⟩
  case round =>
    obtain ⟨k, hk, rfl, HD, HB⟩ := hrel
    by_cases hlt : k < l.length
    · obtain ⟨b', o', rfl, _, c0, c1, c2⟩ := (HA.out.below HB.out).at hlt
      have HN := Lib.hid (dict_next hlt)
      have HB1 := Lib.hid (Bx.bel_box HB.out (vo l[k]))
      have HD1 := Lib.hid (HD.out.keep (Bx.box_below wr (vo l[k])))
      have HV1 := Lib.hid (Bx.Blk.new wr (vc l[k]) 80)
      generalize l[k] = x at *
      generalize dictV (l.take k) = D at *
      have hlk := look_any HD1.out x.v
      have HB2 := Lib.hid (Bx.bel_box HB1.out (vo (gotV D x.v)))
      have HD2 := Lib.hid (HD1.out.keep (Bx.box_below (wr.alloc (vo x)) (vo (gotV D x.v))))
      have HV2 := Lib.hid (HV1.out.more (vo (gotV D x.v)))
      have HAD := Lib.hid (show isV D x.v = true → addV D x = D from fun h => by unfold addV; rw [if_pos h])
      have HPU := Lib.hid (put_any HD2.out x)
      generalize gotV D x.v = y at *
      obtain ⟨y1, y2, y3⟩ := y
      obtain ⟨x1, x2, x3⟩ := x
      simp only at c0 c1 c2 hlk HB1 HD1 HB2 HD2 HPU HAD HV1 HV2
      obtain ⟨v0, v1, v2⟩ := HV1.out.all3
      obtain ⟨u0, u1, u2⟩ := HV2.out.all3
      cases hx : isV D x1 with
      | true =>
        rw [hx] at hlk
        have HE := Lib.hid (HN.out.trans (HAD.out hx))
        clear hx HAD HPU HN
        go_wp2
        go_roundw
        case rel => exact ⟨k + 1, by omega, by go_num, by rw [HE.out]; exact HD2.out, HB2.out⟩
        case measure => simp [intOf]; omega
      | false =>
        rw [hx] at hlk
        obtain ⟨w3, hput, hD3, hb3⟩ := HPU.out hx
        rw [← HN.out] at hD3
        have HD3 := Lib.hid hD3
        have HB3 := Lib.hid (hb3 w w.heap.size (Nat.le_refl _) HB2.out)
        clear hx HAD HPU HN hD3 hb3
        go_wp2
        go_roundw
        case rel => exact ⟨k + 1, by omega, by go_num, HD3.out, HB3.out⟩
        case measure => simp [intOf]; omega
    · obtain rfl : k = l.length := by omega
      have HF := Lib.hid (show Dict wr w.heap.size (dictV l) by have := HD.out; rwa [List.take_length] at this)
      go_wp2
      go_ret
      exact ⟨⟨_, rfl, HF.out⟩, HB.out⟩

set_option maxRecDepth 20000 in
set_option maxHeartbeats 2000000 in
theorem find_any (o k : Nat → Int) (l : List Vl) (hl : l.length ≤ maxLen) (A : Option Addr) (c : Nat) (n : Int) (w : World) (hA : Vls w A l) :
    Calls Tryd.prog 64 #[pv o k A l.length c, .int .i64 n] w fun e w' => e = .returned (.tuple #[vl (gotV l n), .bool (isV l n)]) ∧ Below w.heap.size w w' := by
  have HI := Lib.hid (fun (w : World) hA => byVid_any l hl A c w hA)
  have bel := Lib.hid (Bx.bel_box (Bx.box_below w (po o k A l.length c)) (vo none3))
  have A1 := Lib.hid (hA.below bel.out)
  have R : Hid (Bx.Fre ((w.alloc (po o k A l.length c)).alloc (vo none3)) (w.heap.size + 1) (vc none3)) := Lib.hid (Bx.Fre.new_at (W := w.alloc (po o k A l.length c)) (vc none3) 80 (by simp))
  have HLK : Hid (∀ w b, Dict w b (dictV l) → (Instr.lookup 112 (.map (some b)) (.int .i64 n) true).run Tryd.prog w = .ok (.tuple #[vlv (gotV l n), .bool (isV l n)]) w) := Lib.hid fun w b h => by
    have := look_any h n
    rwa [got_dict, is_dict] at this
  have hle : w.heap.size ≤ w.heap.size + 1 := Nat.le_succ _
  clear hA
  generalize gotV l n = y at *
  generalize isV l n = q at *
  obtain ⟨y1, y2, y3⟩ := y
  go_enter Tryd.func64, Tryd.ntmps64
  go_wp2_with fail
  refine (HI.out _ A1.out).mono ?_; rintro e w1 ⟨⟨b, rfl, hD⟩, hb1⟩
  have hlk := HLK.out _ _ hD
  have bel2 := Lib.hid (Bx.bel_box (Bx.then_below bel.out hb1) (vo ⟨y1, y2, y3⟩))
  have R1 := Lib.hid ((R.out.keep hb1).more (vo ⟨y1, y2, y3⟩))
  have V := Lib.hid (Bx.Blk.new w1 (vc ⟨y1, y2, y3⟩) 80)
  obtain ⟨⟨r0, r1, r2⟩, f0, f1, f2⟩ := R1.out.all3
  obtain ⟨v0, v1, v2⟩ := V.out.all3
  have R2 := Lib.hid ((R1.out.1.put3 (x0 := .int .i64 y1) (x1 := .int .i64 y2) (x2 := .int .i64 y3)).all3)
  have bel3 := Lib.hid (Bx.bel_set3 (x0 := .int .i64 y1) (x1 := .int .i64 y2) (x2 := .int .i64 y3) hle bel2.out)
  clear hb1 HI A1 bel R HLK hD R1 V bel2
  go_wp2_with fail
  refine bodyPost_ret (v := .tuple #[vl ⟨y1, y2, y3⟩, .bool q]) ?_ rfl ?_
  · obtain ⟨d0, d1, d2⟩ := R2.out
    simp [results, Tryd.results64, d0, d1, d2, go_sem]
  · exact ⟨rfl, bel3.out⟩

set_option maxRecDepth 20000 in
set_option maxHeartbeats 2000000 in
theorem rfind_any (o k : Nat → Int) (l : List Vl) (hl : l.length ≤ maxLen) (A : Option Addr) (c : Nat) (n : Int) (w : World) (hA : Vls w A l) :
    Calls Tryd.prog 69 #[pv o k A l.length c, .int .i64 n] w fun e w' => e = .returned (.tuple #[vl (gotV l n), .bool (isV l n)]) ∧ Below w.heap.size w w' := by
  have bel := Lib.hid (Bx.bel_box (Bx.box_below w (po o k A l.length c)) (vo none3))
  have HA := Lib.hid (hA.below bel.out)
  have R : Hid (Bx.Fre ((w.alloc (po o k A l.length c)).alloc (vo none3)) (w.heap.size + 1) (vc none3)) := Lib.hid (Bx.Fre.new_at (W := w.alloc (po o k A l.length c)) (vc none3) 80 (by simp))
  have hle : w.heap.size ≤ w.heap.size + 1 := Nat.le_succ _
  have hl' : l.length ≤ 9223372036854775807 := hl
  clear hA
  go_enter Tryd.func69, Tryd.ntmps69
  go_wp2
  generalize hg : (w.alloc (po o k A l.length c)).alloc (vo none3) = W0 at *
  clear hg
  go_loopw [7, 11] (fun _ ix wr => ∃ j : Nat, j ≤ l.length ∧ ix = .int .i64 j ∧ Aside (j ≤ posV l n) ∧ Aside (Below W0.heap.size W0 wr)) (fun _ ix _ => l.length - (intOf ix).toNat)
  case atStart => exact ⟨0, Nat.zero_le _, rfl, Nat.zero_le _, Below.refl _ _⟩
  case round =>
    obtain ⟨j, hj, rfl, HP, HB⟩ := hrel
    have HR := Lib.hid (R.out.keep HB.out)
    have HW := Lib.hid (Bx.then_below bel.out HB.out)
    by_cases hlt : j < l.length
    · obtain ⟨b', o', rfl, _, c0, c1, c2⟩ := (HA.out.below HB.out).at hlt
      by_cases hx : l[j].v = n
      · have hf := posV_hit hlt HP.out hx
        have HQ := Lib.hid (show gotV l n = l[j] ∧ isV l n = true from ⟨by unfold gotV; rw [hf]; rfl, by unfold isV; rw [hf]; rfl⟩)
        have R1 := Lib.hid (HR.out.more (vo l[j]))
        have bel2 := Lib.hid (Bx.bel_box HW.out (vo l[j]))
        have V := Lib.hid (Bx.Blk.new wr (vc l[j]) 80)
        have hx' : (l[j].v == n) = true := by simpa using hx
        clear hf
        generalize l[j] = x at *
        obtain ⟨x1, x2, x3⟩ := x
        simp only at c0 c1 c2 hx hx' V R1 bel2 HQ
        subst hx
        obtain ⟨⟨r0, r1, r2⟩, f0, f1, f2⟩ := R1.out.all3
        obtain ⟨v0, v1, v2⟩ := V.out.all3
        have R2 := Lib.hid ((R1.out.1.put3 (x0 := .int .i64 x1) (x1 := .int .i64 x2) (x2 := .int .i64 x3)).all3)
        have bel3 := Lib.hid (Bx.bel_set3 (x0 := .int .i64 x1) (x1 := .int .i64 x2) (x2 := .int .i64 x3) hle bel2.out)
        clear R1 V bel2 HR HW HB HP HA R bel
        go_wp2
        refine bodyPost_ret (v := .tuple #[vl ⟨x1, x2, x3⟩, .bool true]) ?_ rfl ?_
        · obtain ⟨d0, d1, d2⟩ := R2.out
          simp [results, Tryd.results69, d0, d1, d2, go_sem]
        · exact ⟨by rw [HQ.out.1, HQ.out.2], bel3.out⟩
      · have HP2 := Lib.hid (posV_miss hlt HP.out hx)
        have HB2 := Lib.hid (Bx.bel_box HB.out (vo l[j]))
        have V := Lib.hid (Bx.Blk.new wr (vc l[j]) 80)
        have hx' : (l[j].v == n) = false := by simpa using hx
        generalize l[j] = x at *
        obtain ⟨x1, x2, x3⟩ := x
        simp only at c0 c1 c2 hx hx' V HB2
        obtain ⟨v0, v1, v2⟩ := V.out.all3
        clear HR HW HP V
        go_wp2
        go_roundw
        case rel => exact ⟨j + 1, by omega, by go_num, HP2.out, HB2.out⟩
        case measure => simp [intOf]; omega
    · obtain rfl : j = l.length := by omega
      have hf := posV_end HP.out
      have HQ := Lib.hid (show gotV l n = none3 ∧ isV l n = false from ⟨by unfold gotV; rw [hf]; rfl, by unfold isV; rw [hf]; rfl⟩)
      obtain ⟨⟨r0, r1, r2⟩, f0, f1, f2⟩ := HR.out.all3
      have R2 := Lib.hid ((HR.out.1.put3 (x0 := .int .i64 0) (x1 := .int .i64 0) (x2 := .int .i64 0)).all3)
      have bel3 := Lib.hid (Bx.bel_set3 (x0 := .int .i64 0) (x1 := .int .i64 0) (x2 := .int .i64 0) hle HW.out)
      clear HR HW HB HP HA R bel hf
      go_wp2
      refine bodyPost_ret (v := .tuple #[vl none3, .bool false]) ?_ rfl ?_
      · obtain ⟨d0, d1, d2⟩ := R2.out
        simp [results, Tryd.results69, d0, d1, d2, go_sem]
      · exact ⟨by rw [HQ.out.1, HQ.out.2], bel3.out⟩

end Mem
end Go.Proofs.YtmojegnflcokjaaDoor

/-
  A plan in memory: its seventeen cells read and written at once.
-/
namespace Go.Proofs.YtmojegnflcokjaaDoor
open Go.RowKit
namespace Mem
open Oct Eth

theorem pc_one (o k : Nat → Int) (A : Option Addr) (n c : Nat) : ∀ v ∈ pc o k A n c, v.oneCell' = true := by simp [Value.oneCell']

theorem info_pl : (Tryd.prog.info? 28).map (·.size) = some 17 := by kernel_rfl

theorem under_pl : Tryd.prog.underlying 28 = some (.struct (Tryd.prog.fieldsOf 28)) := by kernel_rfl

/-- The operands of a load and of a store. -/
def opA : Op → Operand
  | .load _ x => x
  | .store _ x _ => x
  | _ => .tmp 0
def opB : Op → Operand
  | .store _ _ y => y
  | _ => .tmp 0

section
variable {ops : Array Oper} {rest : List Oper} {op : Oper} {a : Act} {W : World} {Q : Exit → Act → World → Prop}

theorem load_at (ho : op.op = .load 28 (opA op.op)) (hgd : Region.wanted op (yielded ops a.tmps) = true) (b : Nat) (hx : a.eval (opA op.op) = .pointer (some ⟨b, 0, none⟩)) (o k : Nat → Int) (A : Option Addr) (n c : Nat) (hB : Bx.Blk W b (pc o k A n c))
    (h : wpList Tryd.prog ops Q rest (a.put op.dst (pv o k A n c)) W) : wpList Tryd.prog ops Q (op :: rest) a W :=
  Bx.step_load hgd _ _ ho b hx (pc o k A n c) _ under_pl rfl info_pl hB h

theorem store_at (ho : op.op = .store 28 (opA op.op) (opB op.op)) (hgd : Region.wanted op (yielded ops a.tmps) = true) (b : Nat) (zs : List Value) (hz : zs.length = 17) (o k : Nat → Int) (A : Option Addr) (n c : Nat) (hx : a.eval (opA op.op) = .pointer (some ⟨b, 0, none⟩)) (hy : a.eval (opB op.op) = pv o k A n c) (hO : Bx.Own W b zs)
    (h : wpList Tryd.prog ops Q rest (a.put op.dst undef) (W.setCells b 0 (pc o k A n c))) : wpList Tryd.prog ops Q (op :: rest) a W :=
  Bx.step_store hgd _ _ _ ho b zs (pc o k A n c) hx hy (by simp [hz]) info_pl (pc_one o k A n c) hO h

theorem new_at {Wx : World} (ho : op.op = .store 28 (opA op.op) (opB op.op)) (hgd : Region.wanted op (yielded ops a.tmps) = true) (b : Nat) (zs : List Value) (hz : zs.length = 17) (o k : Nat → Int) (A : Option Addr) (n c : Nat) (hx : a.eval (opA op.op) = .pointer (some ⟨b, 0, none⟩)) (hy : a.eval (opB op.op) = pv o k A n c) (W : World) (hw : Wx = W.alloc (.cells zs.toArray 28)) (hk : b = W.heap.size)
    (h : wpList Tryd.prog ops Q rest (a.put op.dst undef) (W.alloc (.cells (pc o k A n c).toArray 28))) : wpList Tryd.prog ops Q (op :: rest) a Wx := by
  subst hk hw
  exact Bx.step_new hgd _ _ _ ho zs (pc o k A n c) _ hx hy (by simp [hz]) info_pl (pc_one o k A n c) h
end

theorem var_pl {W : World} {b : Nat} {o k : Nat → Int} {A : Option Addr} {n c : Nat} (hB : Bx.Blk W b (pc o k A n c)) : (loadVar 28 ⟨b, 0, none⟩).run Tryd.prog W = .ok (pv o k A n c) W :=
  run_loadVar_mid W b 0 _ (pc o k A n c) _ hB.range under_pl rfl info_pl

theorem at_pl {W : World} {b : Nat} {o k : Nat → Int} {A : Option Addr} {n c : Nat} (hB : Bx.Blk W b (pc o k A n c)) : (Instr.loadAt 28 (.pointer (some ⟨b, 0, none⟩))).run Tryd.prog W = .ok (pv o k A n c) W :=
  run_loadAt_mid W b 0 _ (pc o k A n c) _ hB.range under_pl rfl info_pl

end Mem
end Go.Proofs.YtmojegnflcokjaaDoor

/-
  The ports of a VLAN, as package member and the document answer.
-/
namespace Go.Proofs.YtmojegnflcokjaaDoor
open Go.RowKit
namespace Mem
open Oct Eth

set_option maxRecDepth 20000 in
theorem of_any (o k : Nat → Int) (l : List Vl) (hl : l.length ≤ maxLen) (A : Option Addr) (c : Nat) (n : Int) (w : World) (hA : Vls w A l) :
    Calls Tryd.prog 27 #[pv o k A l.length c, .int .i64 n] w fun e w' => e = .returned (.int .i64 (ofV l n)) ∧ Below w.heap.size w w' := by
  have HF := Lib.hid (fun (w : World) hA => find_any o k l hl A c n w hA)
  have bel := Lib.hid (Bx.box_below w (po o k A l.length c))
  have A1 := Lib.hid (hA.below bel.out)
  have P1 := Lib.hid (Bx.Blk.new w (pc o k A l.length c) 28)
  unfold ofV
  clear hA
  generalize gotV l n = y at *
  generalize isV l n = q at *
  obtain ⟨y1, y2, y3⟩ := y
  go_enter Tryd.func27, Tryd.ntmps27
  go_wp2_with (first | ((with_reducible refine load_at ?_ ?_ w.heap.size ?_ o k A l.length c ?_ ?_); (· rfl); (· rfl); (· rfl); (· exact P1.out)))
  refine (HF.out _ A1.out).mono ?_; rintro e w1 ⟨rfl, hb1⟩
  have bel2 := Lib.hid (Bx.bel_box (Bx.then_below bel.out hb1) (vo ⟨y1, y2, y3⟩))
  obtain ⟨v0, v1, v2⟩ := (Bx.Blk.new w1 (vc ⟨y1, y2, y3⟩) 80).all3
  clear hb1 HF A1 bel P1
  go_wp2
  go_ret
  exact ⟨rfl, bel2.out⟩

set_option maxRecDepth 20000 in
theorem rof_any (o k : Nat → Int) (l : List Vl) (hl : l.length ≤ maxLen) (A : Option Addr) (c : Nat) (n : Int) (w : World) (hA : Vls w A l) :
    Calls Tryd.prog 46 #[pv o k A l.length c, .int .i64 n] w fun e w' => e = .returned (.int .i64 (ofV l n)) ∧ Below w.heap.size w w' := by
  have HF := Lib.hid (fun (w : World) hA => rfind_any o k l hl A c n w hA)
  have bel := Lib.hid (Bx.box_below w (po o k A l.length c))
  have A1 := Lib.hid (hA.below bel.out)
  have P1 := Lib.hid (Bx.Blk.new w (pc o k A l.length c) 28)
  unfold ofV
  clear hA
  generalize gotV l n = y at *
  generalize isV l n = q at *
  obtain ⟨y1, y2, y3⟩ := y
  go_enter Tryd.func46, Tryd.ntmps46
  go_wp2_with (first | ((with_reducible refine load_at ?_ ?_ w.heap.size ?_ o k A l.length c ?_ ?_); (· rfl); (· rfl); (· rfl); (· exact P1.out)))
  refine (HF.out _ A1.out).mono ?_; rintro e w1 ⟨rfl, hb1⟩
  have bel2 := Lib.hid (Bx.bel_box (Bx.then_below bel.out hb1) (vo ⟨y1, y2, y3⟩))
  obtain ⟨v0, v1, v2⟩ := (Bx.Blk.new w1 (vc ⟨y1, y2, y3⟩) 80).all3
  clear hb1 HF A1 bel P1
  go_wp2
  go_ret
  exact ⟨rfl, bel2.out⟩

end Mem
end Go.Proofs.YtmojegnflcokjaaDoor

/-
  What package member takes at a port.
-/
namespace Go.Proofs.YtmojegnflcokjaaDoor
open Go.RowKit
namespace Mem
open Oct Eth

abbrev fo (d s : Int) (g : Bool) (p v t : Int) (b : ByteArray) : Obj := .cells #[.int .u64 d, .int .u64 s, .bool g, .int .i64 p, .int .i64 v, .int .i64 t, .string b] 32
abbrev fc (d s : Int) (g : Bool) (p v t : Int) (b : ByteArray) : List Value := [.int .u64 d, .int .u64 s, .bool g, .int .i64 p, .int .i64 v, .int .i64 t, .string b]

theorem has_all (q : Int) : Por.hasZ (Por.low 255) q = decide (0 ≤ q ∧ q < 8) := by
  unfold Por.hasZ
  by_cases h : 0 ≤ q ∧ q < 8
  · rw [decide_eq_true h, Bool.true_and]
    have : q = 0 ∨ q = 1 ∨ q = 2 ∨ q = 3 ∨ q = 4 ∨ q = 5 ∨ q = 6 ∨ q = 7 := by omega
    rcases this with rfl | rfl | rfl | rfl | rfl | rfl | rfl | rfl <;> decide
  · rw [decide_eq_false h, Bool.false_and]

set_option maxRecDepth 20000 in
set_option maxHeartbeats 2000000 in
theorem takes_in (o k : Nat → Int) (l : List Vl) (hl : l.length ≤ maxLen) (A : Option Addr) (c : Nat) (q : Nat) (hq : q < 8) (d s : Int) (g : Bool) (p v t : Int) (b : ByteArray) (w : World) (hA : Vls w A l) :
    Calls Tryd.prog 21 #[pv o k A l.length c, .int .i64 q, fr d s g p v t b] w fun e w' => e = .returned (.tuple #[.int .i64 (takV o k l q g v), .bool (takB o k l q g v)]) ∧ Below w.heap.size w w' := by
  have HF := Lib.hid (fun (w : World) n hA => of_any o k l hl A c n w hA)
  have HH := Lib.hid (Por.has_any 255 q)
  rw [has_all, decide_eq_true (by omega)] at HH
  have HO := Lib.hid (hasOwn_any d s g p v t b)
  have HM := Lib.hid (admits_any (k q) (ownF g v))
  have HV := Lib.hid (fun w => vlan_any d s g p v t b (o q) w)
  simp only [vlan_vid] at HV
  have HP := Lib.hid (fun x w => Por.has_any x q w)
  have bel := Lib.hid (Bx.bel_box (Bx.box_below w (po o k A l.length c)) (fo d s g p v t b))
  have A1 := Lib.hid (hA.below bel.out)
  have P1 := Lib.hid ((Bx.Blk.new w (pc o k A l.length c) 28).more (fo d s g p v t b))
  have F1 := Lib.hid (Bx.Blk.new_at (W := w.alloc (po o k A l.length c)) (k := w.heap.size + 1) (fc d s g p v t b) 32 (by simp))
  have e1 : decide (0 ≤ (q : Int) ∧ (q : Int) < 8) = true := decide_eq_true (by omega)
  have hT : takB o k l q g v = (admF (k q) (ownF g v) && (decide (vidF (o q) g v ≤ 4094) && Por.hasZ (Por.low (ofV l (vidF (o q) g v))) q)) := by unfold takB; rw [e1, Bool.true_and]; rfl
  have hW : takV o k l q g v = if takB o k l q g v then vidF (o q) g v else 0 := rfl
  have HW := Lib.hid hW
  have HT := Lib.hid hT
  have hq2 : (q : Int) < 8 := by omega
  have hq3 : ((q : Int)).toNat = q := by omega
  clear hA hT hW e1
  generalize admF (k q) (ownF g v) = r1 at *
  generalize vidF (o q) g v = n at *
  have c1 := P1.out.at (8 + q) (pc_take o k A l.length c hq)
  have c0 := P1.out.at q (pc_own o k A l.length c hq)
  obtain ⟨f0, f1, f2, f3, f4, f5, f6⟩ := F1.out.all7
  go_enter Tryd.func21, Tryd.ntmps21
  go_wp2
  replace bel := Lib.hid (Bx.bel_drewn bel.out)
  replace A1 := Lib.hid A1.out.drew
  replace P1 := Lib.hid P1.out.drew
  replace F1 := Lib.hid F1.out.drew
  go_region_held3 (fun w' => w'.cell? ⟨w.heap.size, 8 + q, none⟩ = some (.int .i64 (k q)) ∧ w'.cell? ⟨w.heap.size + 1, 0, none⟩ = some (.int .u64 d) ∧ w'.cell? ⟨w.heap.size + 1, 1, none⟩ = some (.int .u64 s) ∧ w'.cell? ⟨w.heap.size + 1, 2, none⟩ = some (.bool g) ∧ w'.cell? ⟨w.heap.size + 1, 3, none⟩ = some (.int .i64 p) ∧ w'.cell? ⟨w.heap.size + 1, 4, none⟩ = some (.int .i64 v) ∧ w'.cell? ⟨w.heap.size + 1, 5, none⟩ = some (.int .i64 t) ∧ w'.cell? ⟨w.heap.size + 1, 6, none⟩ = some (.string b))
    (first | (go_split_ands; refine ⟨Bx.keep_cell hb ?_, Bx.keep_cell hb ?_, Bx.keep_cell hb ?_, Bx.keep_cell hb ?_, Bx.keep_cell hb ?_, Bx.keep_cell hb ?_, Bx.keep_cell hb ?_, Bx.keep_cell hb ?_⟩ <;> with_reducible assumption) | (go_keep; done))
    (first | (go_at_call 22; (with_reducible refine (HH.out _).mono ?_); (rintro e w5 ⟨rfl, rfl⟩)) | (go_at_call 56; (with_reducible refine (HO.out _).mono ?_); (rintro e w5 ⟨rfl, hb⟩); (replace bel := Lib.hid (Bx.then_below bel.out hb)); (replace A1 := Lib.hid (A1.out.below hb)); (replace P1 := Lib.hid (P1.out.keep hb)); (replace F1 := Lib.hid (F1.out.keep hb))) | (go_at_call 55; (with_reducible refine (HM.out _).mono ?_); (rintro e w6 ⟨rfl, rfl⟩)))
  cases r1 with
  | false =>
    have HZ := Lib.hid (show takV o k l q g v = 0 ∧ takB o k l q g v = false from by
      have h : takB o k l q g v = false := by rw [HT.out]; rfl
      exact ⟨by rw [HW.out, h]; rfl, h⟩)
    go_wp2
    go_ret2
    exact ⟨by rw [HZ.out.1, HZ.out.2]; rfl, bel.out⟩
  | true =>
    rw [Bool.true_and] at HT
    have c0 := P1.out.at q (pc_own o k A l.length c hq)
    obtain ⟨f0, f1, f2, f3, f4, f5, f6⟩ := F1.out.all7
    go_wp2
    replace bel := Lib.hid (Bx.bel_drewn bel.out)
    replace A1 := Lib.hid A1.out.drew
    replace P1 := Lib.hid P1.out.drew
    replace F1 := Lib.hid F1.out.drew
    go_region_held3 (fun w' => w'.cell? ⟨w.heap.size, q, none⟩ = some (.int .i64 (o q)) ∧ w'.cell? ⟨w.heap.size + 1, 0, none⟩ = some (.int .u64 d) ∧ w'.cell? ⟨w.heap.size + 1, 1, none⟩ = some (.int .u64 s) ∧ w'.cell? ⟨w.heap.size + 1, 2, none⟩ = some (.bool g) ∧ w'.cell? ⟨w.heap.size + 1, 3, none⟩ = some (.int .i64 p) ∧ w'.cell? ⟨w.heap.size + 1, 4, none⟩ = some (.int .i64 v) ∧ w'.cell? ⟨w.heap.size + 1, 5, none⟩ = some (.int .i64 t) ∧ w'.cell? ⟨w.heap.size + 1, 6, none⟩ = some (.string b))
      (first | (go_split_ands; refine ⟨Bx.keep_cell hb ?_, Bx.keep_cell hb ?_, Bx.keep_cell hb ?_, Bx.keep_cell hb ?_, Bx.keep_cell hb ?_, Bx.keep_cell hb ?_, Bx.keep_cell hb ?_, Bx.keep_cell hb ?_⟩ <;> with_reducible assumption) | (go_keep; done))
      (first | (go_at_call 57; (with_reducible refine (HV.out _).mono ?_); (rintro e w7 ⟨rfl, hb⟩); (replace bel := Lib.hid (Bx.then_below bel.out hb)); (replace A1 := Lib.hid (A1.out.below hb)); (replace P1 := Lib.hid (P1.out.keep hb))))
    clear HH HO HM HV F1 f0 f1 f2 f3 f4 f5 f6 c0 c1
    by_cases hn : n ≤ 4094
    · rw [decide_eq_true hn, Bool.true_and] at HT
      have hn4 : decide (4094 < n) = false := decide_eq_false (by omega)
      have HF1 := Lib.hid (fun w h => HF.out w n h)
      have HP1 := Lib.hid (HP.out (ofV l n))
      clear HF HP
      generalize ofV l n = x at *
      have HX := Lib.hid (rfl : Por.hasZ (Por.low x) q = Por.hasZ (Por.low x) q)
      cases hz : Por.hasZ (Por.low x) q with
      | false =>
        rw [hz] at HP1 HT
        have HZ := Lib.hid (show takV o k l q g v = 0 ∧ takB o k l q g v = false from ⟨by rw [HW.out, HT.out]; rfl, HT.out⟩)
        clear hz HX HT HW
        go_wp2_with (first | ((with_reducible refine load_at ?_ ?_ w.heap.size ?_ o k A l.length c ?_ ?_); (· rfl); (· (first | rfl | (rw [hn4]; rfl))); (· rfl); (· exact P1.out)))
        refine (HF1.out _ A1.out).mono ?_; rintro e w8 ⟨rfl, hb⟩
        replace bel := Lib.hid (Bx.then_below bel.out hb)
        clear hb
        go_wp2_with fail
        refine (HP1.out _).mono ?_; rintro e w9 ⟨rfl, rfl⟩
        go_wp2
        go_ret2
        exact ⟨by rw [HZ.out.1, HZ.out.2]; rfl, bel.out⟩
      | true =>
        rw [hz] at HP1 HT
        have HZ := Lib.hid (show takV o k l q g v = n ∧ takB o k l q g v = true from ⟨by rw [HW.out, HT.out]; rfl, HT.out⟩)
        clear hz HX HT HW
        go_wp2_with (first | ((with_reducible refine load_at ?_ ?_ w.heap.size ?_ o k A l.length c ?_ ?_); (· rfl); (· (first | rfl | (rw [hn4]; rfl))); (· rfl); (· exact P1.out)))
        refine (HF1.out _ A1.out).mono ?_; rintro e w8 ⟨rfl, hb⟩
        replace bel := Lib.hid (Bx.then_below bel.out hb)
        clear hb
        go_wp2_with fail
        refine (HP1.out _).mono ?_; rintro e w9 ⟨rfl, rfl⟩
        go_wp2
        go_ret2
        exact ⟨by rw [HZ.out.1, HZ.out.2]; rfl, bel.out⟩
    · rw [decide_eq_false hn, Bool.false_and] at HT
      have HZ := Lib.hid (show takV o k l q g v = 0 ∧ takB o k l q g v = false from ⟨by rw [HW.out, HT.out]; rfl, HT.out⟩)
      clear HT HW HF HP
      go_wp2
      go_ret2
      exact ⟨by rw [HZ.out.1, HZ.out.2]; rfl, bel.out⟩

set_option maxRecDepth 20000 in
set_option maxHeartbeats 2000000 in
theorem takes_out (o k : Nat → Int) (l : List Vl) (A : Option Addr) (c : Nat) (q : Int) (hq : ¬ (0 ≤ q ∧ q < 8)) (d s : Int) (g : Bool) (p v t : Int) (b : ByteArray) (w : World) :
    Calls Tryd.prog 21 #[pv o k A l.length c, .int .i64 q, fr d s g p v t b] w fun e w' => e = .returned (.tuple #[.int .i64 (takV o k l q g v), .bool (takB o k l q g v)]) ∧ Below w.heap.size w w' := by
  have HH := Lib.hid (Por.has_any 255 q)
  rw [has_all, decide_eq_false hq] at HH
  have bel := Lib.hid (Bx.bel_box (Bx.box_below w (po o k A l.length c)) (fo d s g p v t b))
  have e2 : takB o k l q g v = false := by unfold takB; rw [decide_eq_false hq, Bool.false_and]
  have HZ := Lib.hid (show takV o k l q g v = 0 ∧ takB o k l q g v = false from ⟨by unfold takV; rw [e2]; rfl, e2⟩)
  have P1 := ((Bx.Blk.new w (pc o k A l.length c) 28).more (fo d s g p v t b)).at 1 rfl
  have P0 := ((Bx.Blk.new w (pc o k A l.length c) 28).more (fo d s g p v t b)).at 0 rfl
  clear e2
  go_enter Tryd.func21, Tryd.ntmps21
  go_wp2
  -- BY HAND
  refine wp_region_noPanic ?_
  refine wp_region_held_drew (S := fun w' => w'.cell? ⟨w.heap.size, 0, none⟩ = some (.int .i64 (o 0)) ∧ w'.cell? ⟨w.heap.size, 1, none⟩ = some (.int .i64 (o 1))) (by kernel_rfl) (by exact ⟨P0, P1⟩) (fun hHeld => ?_)
  refine wpAnyH_take (i := 0) (oi := ?o0) (v := ?v0) ?hi0 (by kernel_rfl) (by kernel_rfl) (by kernel_rfl) (fun _ _ _ h => h) ?y0 (by assumption) ?r0
  case hi0 => (simp only [List.getElem?_toArray, List.getElem?_cons_zero]; rfl)
  case y0 => (refine Or.inl ⟨by rfl, ?_⟩; intro w' hSw; (try dsimp only at hSw); go_simp; (try with_reducible rfl))
  try simp only [Act.put, List.setIfInBounds_toArray, List.set_cons_zero, List.set_cons_succ]
  refine wpAnyH_ready (rs := [1]) (by kernel_rfl) (by simp) ?_
  refine AllReadyH.cons (o := ?o1) ?hi1 ?hst1 AllReadyH.nil
  case hi1 => (simp only [List.getElem?_toArray, List.getElem?_cons_succ, List.getElem?_cons_zero]; rfl)
  intro K hK
  go_simp
  (go_at_call 22; with_reducible refine (HH.out _).mono ?_; rintro e w1 ⟨he, hw1⟩; subst he; subst hw1)
  go_wp2_with fail
  refine hK.out _ _ ⟨Bx.keep_cell (Bx.bel_refl _) hHeld.1, Bx.keep_cell (Bx.bel_refl _) hHeld.2⟩ (fun hNew => ?_)
  clear hHeld
  have hHeld := hNew
  clear hNew
  refine wpAnyH_take (i := 2) (oi := ?o2) (v := ?v2) ?hi2 (by kernel_rfl) (by kernel_rfl) (by kernel_rfl) (fun _ _ _ h => h) ?y2 (by assumption) ?r2
  case hi2 => (simp only [List.getElem?_toArray, List.getElem?_cons_succ, List.getElem?_cons_zero]; rfl)
  case y2 => (refine Or.inl ⟨by rfl, ?_⟩; intro w' hSw; (try dsimp only at hSw); go_simp; (try with_reducible rfl))
  try simp only [Act.put, List.setIfInBounds_toArray, List.set_cons_zero, List.set_cons_succ]
  refine wpAnyH_take (i := 3) (oi := ?o3) (v := ?v3) ?hi3 (by kernel_rfl) (by kernel_rfl) (by kernel_rfl) (fun _ _ _ h => h) ?y3 (by assumption) ?r3
  case hi3 => (simp only [List.getElem?_toArray, List.getElem?_cons_succ, List.getElem?_cons_zero]; rfl)
  case y3 => (refine Or.inl ⟨by rfl, ?_⟩; intro w' hSw; (try dsimp only at hSw); go_simp; (try with_reducible rfl))
  try simp only [Act.put, List.setIfInBounds_toArray, List.set_cons_zero, List.set_cons_succ]
  refine wpAnyH_take (i := 4) (oi := ?o4) (v := undef) ?hi4 (by kernel_rfl) (by kernel_rfl) (by kernel_rfl) (fun _ _ _ h => h) ?y4 (by assumption) ?r4
  case hi4 => (simp only [List.getElem?_toArray, List.getElem?_cons_succ, List.getElem?_cons_zero]; rfl)
  case y4 => exact Or.inr ⟨by rfl, rfl⟩
  try simp only [Act.put, List.setIfInBounds_toArray, List.set_cons_zero, List.set_cons_succ]
  refine wpAnyH_take (i := 5) (oi := ?o5) (v := undef) ?hi5 (by kernel_rfl) (by kernel_rfl) (by kernel_rfl) (fun _ _ _ h => h) ?y5 (by assumption) ?r5
  case hi5 => (simp only [List.getElem?_toArray, List.getElem?_cons_succ, List.getElem?_cons_zero]; rfl)
  case y5 => exact Or.inr ⟨by rfl, rfl⟩
  try simp only [Act.put, List.setIfInBounds_toArray, List.set_cons_zero, List.set_cons_succ]
  refine wpAnyH_take (i := 6) (oi := ?o6) (v := undef) ?hi6 (by kernel_rfl) (by kernel_rfl) (by kernel_rfl) (fun _ _ _ h => h) ?y6 (by assumption) ?r6
  case hi6 => (simp only [List.getElem?_toArray, List.getElem?_cons_succ, List.getElem?_cons_zero]; rfl)
  case y6 => exact Or.inr ⟨by rfl, rfl⟩
  try simp only [Act.put, List.setIfInBounds_toArray, List.set_cons_zero, List.set_cons_succ]
  refine wpAnyH_take (i := 7) (oi := ?o7) (v := undef) ?hi7 (by kernel_rfl) (by kernel_rfl) (by kernel_rfl) (fun _ _ _ h => h) ?y7 (by assumption) ?r7
  case hi7 => (simp only [List.getElem?_toArray, List.getElem?_cons_succ, List.getElem?_cons_zero]; rfl)
  case y7 => exact Or.inr ⟨by rfl, rfl⟩
  try simp only [Act.put, List.setIfInBounds_toArray, List.set_cons_zero, List.set_cons_succ]
  refine wpAnyH_take (i := 8) (oi := ?o8) (v := undef) ?hi8 (by kernel_rfl) (by kernel_rfl) (by kernel_rfl) (fun _ _ _ h => h) ?y8 (by assumption) ?r8
  case hi8 => (simp only [List.getElem?_toArray, List.getElem?_cons_succ, List.getElem?_cons_zero]; rfl)
  case y8 => exact Or.inr ⟨by rfl, rfl⟩
  try simp only [Act.put, List.setIfInBounds_toArray, List.set_cons_zero, List.set_cons_succ]
  refine wpAnyH_take (i := 9) (oi := ?o9) (v := undef) ?hi9 (by kernel_rfl) (by kernel_rfl) (by kernel_rfl) (fun _ _ _ h => h) ?y9 (by assumption) ?r9
  case hi9 => (simp only [List.getElem?_toArray, List.getElem?_cons_succ, List.getElem?_cons_zero]; rfl)
  case y9 => exact Or.inr ⟨by rfl, rfl⟩
  try simp only [Act.put, List.setIfInBounds_toArray, List.set_cons_zero, List.set_cons_succ]
  refine wpAnyH_take (i := 10) (oi := ?o10) (v := undef) ?hi10 (by kernel_rfl) (by kernel_rfl) (by kernel_rfl) (fun _ _ _ h => h) ?y10 (by assumption) ?r10
  case hi10 => (simp only [List.getElem?_toArray, List.getElem?_cons_succ, List.getElem?_cons_zero]; rfl)
  case y10 => exact Or.inr ⟨by rfl, rfl⟩
  try simp only [Act.put, List.setIfInBounds_toArray, List.set_cons_zero, List.set_cons_succ]
  refine wpAnyH_take (i := 11) (oi := ?o11) (v := undef) ?hi11 (by kernel_rfl) (by kernel_rfl) (by kernel_rfl) (fun _ _ _ h => h) ?y11 (by assumption) ?r11
  case hi11 => (simp only [List.getElem?_toArray, List.getElem?_cons_succ, List.getElem?_cons_zero]; rfl)
  case y11 => exact Or.inr ⟨by rfl, rfl⟩
  try simp only [Act.put, List.setIfInBounds_toArray, List.set_cons_zero, List.set_cons_succ]
  refine wpAnyH_take (i := 12) (oi := ?o12) (v := ?v12) ?hi12 (by kernel_rfl) (by kernel_rfl) (by kernel_rfl) (fun _ _ _ h => h) ?y12 (by assumption) ?r12
  case hi12 => (simp only [List.getElem?_toArray, List.getElem?_cons_succ, List.getElem?_cons_zero]; rfl)
  case y12 => (refine Or.inl ⟨by rfl, ?_⟩; intro w' hSw; (try dsimp only at hSw); go_simp; (try with_reducible rfl))
  try simp only [Act.put, List.setIfInBounds_toArray, List.set_cons_zero, List.set_cons_succ]
  refine wpAnyH_done (by kernel_rfl) ?_ _
  refine NoPanic.normal ?_
  go_wp2
  go_ret2
  exact ⟨by rw [HZ.out.1, HZ.out.2]; rfl, Bx.bel_drewn bel.out⟩

end Mem
end Go.Proofs.YtmojegnflcokjaaDoor

/-
  What package member, and the document, take at any port.
-/
namespace Go.Proofs.YtmojegnflcokjaaDoor
open Go.RowKit
namespace Mem
open Oct Eth

theorem takes_any (o k : Nat → Int) (l : List Vl) (hl : l.length ≤ maxLen) (A : Option Addr) (c : Nat) (q : Int) (d s : Int) (g : Bool) (p v t : Int) (b : ByteArray) (w : World) (hA : Vls w A l) :
    Calls Tryd.prog 21 #[pv o k A l.length c, .int .i64 q, fr d s g p v t b] w fun e w' => e = .returned (.tuple #[.int .i64 (takV o k l q g v), .bool (takB o k l q g v)]) ∧ Below w.heap.size w w' := by
  by_cases hq : 0 ≤ q ∧ q < 8
  · obtain ⟨n, rfl⟩ : ∃ n : Nat, q = n := ⟨q.toNat, by omega⟩
    exact takes_in o k l hl A c n (by omega) d s g p v t b w hA
  · exact takes_out o k l A c q hq d s g p v t b w

theorem own_true {v : Int} (h : 0 < v) : ownF true v = true := by unfold ownF; simp [h]
theorem own_less {v : Int} (h : ¬ 0 < v) : ownF true v = false := by unfold ownF; simp; omega

set_option maxRecDepth 20000 in
set_option maxHeartbeats 4000000 in
theorem rtakes_in (o k : Nat → Int) (l : List Vl) (hl : l.length ≤ maxLen) (A : Option Addr) (c : Nat) (q : Nat) (hq : q < 8) (d s : Int) (g : Bool) (p v t : Int) (b : ByteArray) (w : World) (hA : Vls w A l) :
    Calls Tryd.prog 36 #[pv o k A l.length c, .int .i64 q, fr d s g p v t b] w fun e w' => e = .returned (.tuple #[.int .i64 (takV o k l q g v), .bool (takB o k l q g v)]) ∧ Below w.heap.size w w' := by
  have HF := Lib.hid (fun (w : World) n hA => rof_any o k l hl A c n w hA)
  have HV := Lib.hid (fun w => rvlan_any d s g p v t b (o q) w)
  simp only [vlan_vid] at HV
  have HP := Lib.hid (fun x w => Por.rhas_any x q w)
  have bel := Lib.hid (Bx.bel_box (Bx.box_below w (po o k A l.length c)) (fo d s g p v t b))
  have A1 := Lib.hid (hA.below bel.out)
  have P1 := Lib.hid ((Bx.Blk.new w (pc o k A l.length c) 28).more (fo d s g p v t b))
  have F1 := Lib.hid (Bx.Blk.new_at (W := w.alloc (po o k A l.length c)) (k := w.heap.size + 1) (fc d s g p v t b) 32 (by simp))
  have e1 : decide (0 ≤ (q : Int) ∧ (q : Int) < 8) = true := decide_eq_true (by omega)
  have hT : takB o k l q g v = (admF (k q) (ownF g v) && (decide (vidF (o q) g v ≤ 4094) && Por.hasZ (Por.low (ofV l (vidF (o q) g v))) q)) := by unfold takB; rw [e1, Bool.true_and]; rfl
  have hW : takV o k l q g v = if takB o k l q g v then vidF (o q) g v else 0 := rfl
  have HW := Lib.hid hW
  have HT := Lib.hid hT
  have hq2 : (q : Int) < 8 := by omega
  have hq3 : ((q : Int)).toNat = q := by omega
  clear hA hT hW e1
  generalize vidF (o q) g v = n at *
  have c1 := P1.out.at (8 + q) (pc_take o k A l.length c hq)
  have c0 := P1.out.at q (pc_own o k A l.length c hq)
  obtain ⟨f0, f1, f2, f3, f4, f5, f6⟩ := F1.out.all7
  go_enter Tryd.func36, Tryd.ntmps36
  cases g with
  | false =>
    have hr : ownF false v = false := rfl
    rw [hr] at HT
    by_cases hk : k q = 1
    · have HZ := Lib.hid (show takV o k l q false v = 0 ∧ takB o k l q false v = false from by
        have h : takB o k l q false v = false := by rw [HT.out, hk]; rfl
        exact ⟨by rw [HW.out, h]; rfl, h⟩)
      have hk1 : (k q == 1) = true := by simpa using hk
      clear HT HW HF HP HV P1 F1
      go_wp2
      go_ret2
      exact ⟨by rw [HZ.out.1, HZ.out.2]; rfl, bel.out⟩
    · have hk1 : (k q == 1) = false := by simpa using hk
      rw [show admF (k q) false = true by unfold admF; rw [if_neg hk]; split <;> rfl, Bool.true_and] at HT
      go_wp2
      replace bel := Lib.hid (Bx.bel_drewn bel.out)
      replace A1 := Lib.hid A1.out.drew
      replace P1 := Lib.hid P1.out.drew
      replace F1 := Lib.hid F1.out.drew
      clear c1
      go_region_held3 (fun w' => w'.cell? ⟨w.heap.size, q, none⟩ = some (.int .i64 (o q)) ∧ w'.cell? ⟨w.heap.size + 1, 0, none⟩ = some (.int .u64 d) ∧ w'.cell? ⟨w.heap.size + 1, 1, none⟩ = some (.int .u64 s) ∧ w'.cell? ⟨w.heap.size + 1, 2, none⟩ = some (.bool false) ∧ w'.cell? ⟨w.heap.size + 1, 3, none⟩ = some (.int .i64 p) ∧ w'.cell? ⟨w.heap.size + 1, 4, none⟩ = some (.int .i64 v) ∧ w'.cell? ⟨w.heap.size + 1, 5, none⟩ = some (.int .i64 t) ∧ w'.cell? ⟨w.heap.size + 1, 6, none⟩ = some (.string b))
        (first | (go_split_ands; refine ⟨Bx.keep_cell hb ?_, Bx.keep_cell hb ?_, Bx.keep_cell hb ?_, Bx.keep_cell hb ?_, Bx.keep_cell hb ?_, Bx.keep_cell hb ?_, Bx.keep_cell hb ?_, Bx.keep_cell hb ?_⟩ <;> with_reducible assumption) | (go_keep; done))
        (first | (go_at_call 68; (with_reducible refine (HV.out _).mono ?_); (rintro e w7 ⟨rfl, hb⟩); (replace bel := Lib.hid (Bx.then_below bel.out hb)); (replace A1 := Lib.hid (A1.out.below hb)); (replace P1 := Lib.hid (P1.out.keep hb))))
      clear HV F1 f0 f1 f2 f3 f4 f5 f6 c0
      by_cases hn : n ≤ 4094
      · rw [decide_eq_true hn, Bool.true_and] at HT
        have hn4 : decide (4094 < n) = false := decide_eq_false (by omega)
        have HF1 := Lib.hid (fun w h => HF.out w n h)
        have HP1 := Lib.hid (HP.out (ofV l n))
        clear HF HP
        generalize ofV l n = x at *
        cases hz : Por.hasZ (Por.low x) q with
        | false =>
          rw [hz] at HP1 HT
          have HZ := Lib.hid (show takV o k l q false v = 0 ∧ takB o k l q false v = false from ⟨by rw [HW.out, HT.out]; rfl, HT.out⟩)
          clear hz HT HW
          go_wp2_with (first | ((with_reducible refine load_at ?_ ?_ w.heap.size ?_ o k A l.length c ?_ ?_); (· rfl); (· (first | rfl | (rw [hn4]; rfl))); (· rfl); (· exact P1.out)))
          refine (HF1.out _ A1.out).mono ?_; rintro e w8 ⟨rfl, hb⟩
          replace bel := Lib.hid (Bx.then_below bel.out hb)
          clear hb
          go_wp2_with fail
          refine (HP1.out _).mono ?_; rintro e w9 ⟨rfl, rfl⟩
          go_wp2
          go_ret2
          exact ⟨by rw [HZ.out.1, HZ.out.2]; rfl, bel.out⟩
        | true =>
          rw [hz] at HP1 HT
          have HZ := Lib.hid (show takV o k l q false v = n ∧ takB o k l q false v = true from ⟨by rw [HW.out, HT.out]; rfl, HT.out⟩)
          clear hz HT HW
          go_wp2_with (first | ((with_reducible refine load_at ?_ ?_ w.heap.size ?_ o k A l.length c ?_ ?_); (· rfl); (· (first | rfl | (rw [hn4]; rfl))); (· rfl); (· exact P1.out)))
          refine (HF1.out _ A1.out).mono ?_; rintro e w8 ⟨rfl, hb⟩
          replace bel := Lib.hid (Bx.then_below bel.out hb)
          clear hb
          go_wp2_with fail
          refine (HP1.out _).mono ?_; rintro e w9 ⟨rfl, rfl⟩
          go_wp2
          go_ret2
          exact ⟨by rw [HZ.out.1, HZ.out.2]; rfl, bel.out⟩
      · rw [decide_eq_false hn, Bool.false_and] at HT
        have HZ := Lib.hid (show takV o k l q false v = 0 ∧ takB o k l q false v = false from ⟨by rw [HW.out, HT.out]; rfl, HT.out⟩)
        clear HT HW HF HP
        go_wp2
        go_ret2
        exact ⟨by rw [HZ.out.1, HZ.out.2]; rfl, bel.out⟩
  | true =>
    by_cases h0 : 0 < v
    · have hr := own_true h0
      rw [hr] at HT
      by_cases hk : k q = 2
      · have HZ := Lib.hid (show takV o k l q true v = 0 ∧ takB o k l q true v = false from by
          have h : takB o k l q true v = false := by rw [HT.out, hk]; rfl
          exact ⟨by rw [HW.out, h]; rfl, h⟩)
        have hk1 : (k q == 2) = true := by simpa using hk
        clear HT HW HF HP HV P1 F1
        go_wp2
        go_ret2
        exact ⟨by rw [HZ.out.1, HZ.out.2]; rfl, bel.out⟩
      · have hk1 : (k q == 2) = false := by simpa using hk
        rw [show admF (k q) true = true by unfold admF; split <;> simp_all, Bool.true_and] at HT
        go_wp2
        replace bel := Lib.hid (Bx.bel_drewn bel.out)
        replace A1 := Lib.hid A1.out.drew
        replace P1 := Lib.hid P1.out.drew
        replace F1 := Lib.hid F1.out.drew
        clear c1
        go_region_held3 (fun w' => w'.cell? ⟨w.heap.size, q, none⟩ = some (.int .i64 (o q)) ∧ w'.cell? ⟨w.heap.size + 1, 0, none⟩ = some (.int .u64 d) ∧ w'.cell? ⟨w.heap.size + 1, 1, none⟩ = some (.int .u64 s) ∧ w'.cell? ⟨w.heap.size + 1, 2, none⟩ = some (.bool true) ∧ w'.cell? ⟨w.heap.size + 1, 3, none⟩ = some (.int .i64 p) ∧ w'.cell? ⟨w.heap.size + 1, 4, none⟩ = some (.int .i64 v) ∧ w'.cell? ⟨w.heap.size + 1, 5, none⟩ = some (.int .i64 t) ∧ w'.cell? ⟨w.heap.size + 1, 6, none⟩ = some (.string b))
          (first | (go_split_ands; refine ⟨Bx.keep_cell hb ?_, Bx.keep_cell hb ?_, Bx.keep_cell hb ?_, Bx.keep_cell hb ?_, Bx.keep_cell hb ?_, Bx.keep_cell hb ?_, Bx.keep_cell hb ?_, Bx.keep_cell hb ?_⟩ <;> with_reducible assumption) | (go_keep; done))
          (first | (go_at_call 68; (with_reducible refine (HV.out _).mono ?_); (rintro e w7 ⟨rfl, hb⟩); (replace bel := Lib.hid (Bx.then_below bel.out hb)); (replace A1 := Lib.hid (A1.out.below hb)); (replace P1 := Lib.hid (P1.out.keep hb))))
        clear HV F1 f0 f1 f2 f3 f4 f5 f6 c0
        by_cases hn : n ≤ 4094
        · rw [decide_eq_true hn, Bool.true_and] at HT
          have hn4 : decide (4094 < n) = false := decide_eq_false (by omega)
          have HF1 := Lib.hid (fun w h => HF.out w n h)
          have HP1 := Lib.hid (HP.out (ofV l n))
          clear HF HP
          generalize ofV l n = x at *
          cases hz : Por.hasZ (Por.low x) q with
          | false =>
            rw [hz] at HP1 HT
            have HZ := Lib.hid (show takV o k l q true v = 0 ∧ takB o k l q true v = false from ⟨by rw [HW.out, HT.out]; rfl, HT.out⟩)
            clear hz HT HW
            go_wp2_with (first | ((with_reducible refine load_at ?_ ?_ w.heap.size ?_ o k A l.length c ?_ ?_); (· rfl); (· (first | rfl | (rw [hn4]; rfl))); (· rfl); (· exact P1.out)))
            refine (HF1.out _ A1.out).mono ?_; rintro e w8 ⟨rfl, hb⟩
            replace bel := Lib.hid (Bx.then_below bel.out hb)
            clear hb
            go_wp2_with fail
            refine (HP1.out _).mono ?_; rintro e w9 ⟨rfl, rfl⟩
            go_wp2
            go_ret2
            exact ⟨by rw [HZ.out.1, HZ.out.2]; rfl, bel.out⟩
          | true =>
            rw [hz] at HP1 HT
            have HZ := Lib.hid (show takV o k l q true v = n ∧ takB o k l q true v = true from ⟨by rw [HW.out, HT.out]; rfl, HT.out⟩)
            clear hz HT HW
            go_wp2_with (first | ((with_reducible refine load_at ?_ ?_ w.heap.size ?_ o k A l.length c ?_ ?_); (· rfl); (· (first | rfl | (rw [hn4]; rfl))); (· rfl); (· exact P1.out)))
            refine (HF1.out _ A1.out).mono ?_; rintro e w8 ⟨rfl, hb⟩
            replace bel := Lib.hid (Bx.then_below bel.out hb)
            clear hb
            go_wp2_with fail
            refine (HP1.out _).mono ?_; rintro e w9 ⟨rfl, rfl⟩
            go_wp2
            go_ret2
            exact ⟨by rw [HZ.out.1, HZ.out.2]; rfl, bel.out⟩
        · rw [decide_eq_false hn, Bool.false_and] at HT
          have HZ := Lib.hid (show takV o k l q true v = 0 ∧ takB o k l q true v = false from ⟨by rw [HW.out, HT.out]; rfl, HT.out⟩)
          clear HT HW HF HP
          go_wp2
          go_ret2
          exact ⟨by rw [HZ.out.1, HZ.out.2]; rfl, bel.out⟩
    · have hr := own_less h0
      rw [hr] at HT
      by_cases hk : k q = 1
      · have HZ := Lib.hid (show takV o k l q true v = 0 ∧ takB o k l q true v = false from by
          have h : takB o k l q true v = false := by rw [HT.out, hk]; rfl
          exact ⟨by rw [HW.out, h]; rfl, h⟩)
        have hk1 : (k q == 1) = true := by simpa using hk
        clear HT HW HF HP HV P1 F1
        go_wp2
        go_ret2
        exact ⟨by rw [HZ.out.1, HZ.out.2]; rfl, bel.out⟩
      · have hk1 : (k q == 1) = false := by simpa using hk
        rw [show admF (k q) false = true by unfold admF; rw [if_neg hk]; split <;> rfl, Bool.true_and] at HT
        go_wp2
        replace bel := Lib.hid (Bx.bel_drewn bel.out)
        replace A1 := Lib.hid A1.out.drew
        replace P1 := Lib.hid P1.out.drew
        replace F1 := Lib.hid F1.out.drew
        clear c1
        go_region_held3 (fun w' => w'.cell? ⟨w.heap.size, q, none⟩ = some (.int .i64 (o q)) ∧ w'.cell? ⟨w.heap.size + 1, 0, none⟩ = some (.int .u64 d) ∧ w'.cell? ⟨w.heap.size + 1, 1, none⟩ = some (.int .u64 s) ∧ w'.cell? ⟨w.heap.size + 1, 2, none⟩ = some (.bool true) ∧ w'.cell? ⟨w.heap.size + 1, 3, none⟩ = some (.int .i64 p) ∧ w'.cell? ⟨w.heap.size + 1, 4, none⟩ = some (.int .i64 v) ∧ w'.cell? ⟨w.heap.size + 1, 5, none⟩ = some (.int .i64 t) ∧ w'.cell? ⟨w.heap.size + 1, 6, none⟩ = some (.string b))
          (first | (go_split_ands; refine ⟨Bx.keep_cell hb ?_, Bx.keep_cell hb ?_, Bx.keep_cell hb ?_, Bx.keep_cell hb ?_, Bx.keep_cell hb ?_, Bx.keep_cell hb ?_, Bx.keep_cell hb ?_, Bx.keep_cell hb ?_⟩ <;> with_reducible assumption) | (go_keep; done))
          (first | (go_at_call 68; (with_reducible refine (HV.out _).mono ?_); (rintro e w7 ⟨rfl, hb⟩); (replace bel := Lib.hid (Bx.then_below bel.out hb)); (replace A1 := Lib.hid (A1.out.below hb)); (replace P1 := Lib.hid (P1.out.keep hb))))
        clear HV F1 f0 f1 f2 f3 f4 f5 f6 c0
        by_cases hn : n ≤ 4094
        · rw [decide_eq_true hn, Bool.true_and] at HT
          have hn4 : decide (4094 < n) = false := decide_eq_false (by omega)
          have HF1 := Lib.hid (fun w h => HF.out w n h)
          have HP1 := Lib.hid (HP.out (ofV l n))
          clear HF HP
          generalize ofV l n = x at *
          cases hz : Por.hasZ (Por.low x) q with
          | false =>
            rw [hz] at HP1 HT
            have HZ := Lib.hid (show takV o k l q true v = 0 ∧ takB o k l q true v = false from ⟨by rw [HW.out, HT.out]; rfl, HT.out⟩)
            clear hz HT HW
            go_wp2_with (first | ((with_reducible refine load_at ?_ ?_ w.heap.size ?_ o k A l.length c ?_ ?_); (· rfl); (· (first | rfl | (rw [hn4]; rfl))); (· rfl); (· exact P1.out)))
            refine (HF1.out _ A1.out).mono ?_; rintro e w8 ⟨rfl, hb⟩
            replace bel := Lib.hid (Bx.then_below bel.out hb)
            clear hb
            go_wp2_with fail
            refine (HP1.out _).mono ?_; rintro e w9 ⟨rfl, rfl⟩
            go_wp2
            go_ret2
            exact ⟨by rw [HZ.out.1, HZ.out.2]; rfl, bel.out⟩
          | true =>
            rw [hz] at HP1 HT
            have HZ := Lib.hid (show takV o k l q true v = n ∧ takB o k l q true v = true from ⟨by rw [HW.out, HT.out]; rfl, HT.out⟩)
            clear hz HT HW
            go_wp2_with (first | ((with_reducible refine load_at ?_ ?_ w.heap.size ?_ o k A l.length c ?_ ?_); (· rfl); (· (first | rfl | (rw [hn4]; rfl))); (· rfl); (· exact P1.out)))
            refine (HF1.out _ A1.out).mono ?_; rintro e w8 ⟨rfl, hb⟩
            replace bel := Lib.hid (Bx.then_below bel.out hb)
            clear hb
            go_wp2_with fail
            refine (HP1.out _).mono ?_; rintro e w9 ⟨rfl, rfl⟩
            go_wp2
            go_ret2
            exact ⟨by rw [HZ.out.1, HZ.out.2]; rfl, bel.out⟩
        · rw [decide_eq_false hn, Bool.false_and] at HT
          have HZ := Lib.hid (show takV o k l q true v = 0 ∧ takB o k l q true v = false from ⟨by rw [HW.out, HT.out]; rfl, HT.out⟩)
          clear HT HW HF HP
          go_wp2
          go_ret2
          exact ⟨by rw [HZ.out.1, HZ.out.2]; rfl, bel.out⟩

set_option maxRecDepth 20000 in
theorem rtakes_out (o k : Nat → Int) (l : List Vl) (A : Option Addr) (c : Nat) (q : Int) (hq : ¬ (0 ≤ q ∧ q < 8)) (d s : Int) (g : Bool) (p v t : Int) (b : ByteArray) (w : World) :
    Calls Tryd.prog 36 #[pv o k A l.length c, .int .i64 q, fr d s g p v t b] w fun e w' => e = .returned (.tuple #[.int .i64 (takV o k l q g v), .bool (takB o k l q g v)]) ∧ Below w.heap.size w w' := by
  have bel := Lib.hid (Bx.bel_box (Bx.box_below w (po o k A l.length c)) (fo d s g p v t b))
  have e2 : takB o k l q g v = false := by unfold takB; rw [decide_eq_false hq, Bool.false_and]
  have HZ := Lib.hid (show takV o k l q g v = 0 ∧ takB o k l q g v = false from ⟨by unfold takV; rw [e2]; rfl, e2⟩)
  clear e2
  by_cases h0 : q < 0
  · go_enter Tryd.func36, Tryd.ntmps36
    go_wp2
    go_ret2
    exact ⟨by rw [HZ.out.1, HZ.out.2]; rfl, bel.out⟩
  · have h8 : 8 ≤ q := by omega
    go_enter Tryd.func36, Tryd.ntmps36
    go_wp2
    go_ret2
    exact ⟨by rw [HZ.out.1, HZ.out.2]; rfl, bel.out⟩

theorem rtakes_any (o k : Nat → Int) (l : List Vl) (hl : l.length ≤ maxLen) (A : Option Addr) (c : Nat) (q : Int) (d s : Int) (g : Bool) (p v t : Int) (b : ByteArray) (w : World) (hA : Vls w A l) :
    Calls Tryd.prog 36 #[pv o k A l.length c, .int .i64 q, fr d s g p v t b] w fun e w' => e = .returned (.tuple #[.int .i64 (takV o k l q g v), .bool (takB o k l q g v)]) ∧ Below w.heap.size w w' := by
  by_cases hq : 0 ≤ q ∧ q < 8
  · obtain ⟨n, rfl⟩ : ∃ n : Nat, q = n := ⟨q.toNat, by omega⟩
    exact rtakes_in o k l hl A c n (by omega) d s g p v t b w hA
  · exact rtakes_out o k l A c q hq d s g p v t b w

end Mem
end Go.Proofs.YtmojegnflcokjaaDoor

/-
  What package member, and the document, send at any port.
-/
namespace Go.Proofs.YtmojegnflcokjaaDoor
open Go.RowKit
namespace Mem
open Oct Eth

/-- The frame that is sent. -/
def sndF (l : List Vl) (n q d s p t : Int) (b : ByteArray) : Value := if sndT l n q then fr d s true p n t b else if sndU l n q then fr d s false 0 0 t b else fr 0 0 false 0 0 0 ⟨#[]⟩

theorem none_snd {l : List Vl} {n q : Int} (h : isV l n = false) : sndT l n q = false ∧ sndU l n q = false := by
  have hf : findV l n = none := by
    unfold isV at h
    cases hq : findV l n with
    | none => rfl
    | some y => rw [hq] at h; cases h
  unfold sndT sndU gotV
  rw [hf]
  simp [none3, Por.hasZ, Por.hasN, Por.low]

set_option maxRecDepth 20000 in
set_option maxHeartbeats 4000000 in
theorem sends_any (o k : Nat → Int) (l : List Vl) (hl : l.length ≤ maxLen) (A : Option Addr) (c : Nat) (q n : Int) (d s : Int) (g : Bool) (p v t : Int) (b : ByteArray) (w : World) (hA : Vls w A l) :
    Calls Tryd.prog 34 #[pv o k A l.length c, .int .i64 q, .int .i64 n, fr d s g p v t b] w fun e w' => e = .returned (.tuple #[sndF l n q d s p t b, .bool (sndB l n q)]) ∧ Below w.heap.size w w' := by
  have HF := Lib.hid (fun (w : World) hA => find_any o k l hl A c n w hA)
  have HT := Lib.hid (fun w => Por.has_any (gotV l n).t q w)
  have HU := Lib.hid (fun w => Por.has_any (gotV l n).u q w)
  have HRT := Lib.hid (show ∀ w, Calls Tryd.prog 66 #[fr d s g p v t b, .bool true, .int .i64 n] w fun e w' => e = .returned (fr d s true p n t b) ∧ Below w.heap.size w w' from fun w => retag_any d s g p v t b true n w)
  have HRF := Lib.hid (show ∀ w, Calls Tryd.prog 66 #[fr d s g p v t b, .bool false, .int .i64 n] w fun e w' => e = .returned (fr d s false 0 0 t b) ∧ Below w.heap.size w w' from fun w => retag_any d s g p v t b false n w)
  have HE := Lib.hid True.intro
  have HN := Lib.hid (show isV l n = false → sndT l n q = false ∧ sndU l n q = false from fun h => none_snd h)
  have bel := Lib.hid (Bx.bel_box (Bx.bel_box (Bx.box_below w (po o k A l.length c)) (fo d s g p v t b)) (fo 0 0 false 0 0 0 ⟨#[]⟩))
  have A1 := Lib.hid (hA.below bel.out)
  have P1 := Lib.hid (((Bx.Blk.new w (pc o k A l.length c) 28).more (fo d s g p v t b)).more (fo 0 0 false 0 0 0 ⟨#[]⟩))
  have F1 := Lib.hid ((Bx.Blk.new_at (W := w.alloc (po o k A l.length c)) (k := w.heap.size + 1) (fc d s g p v t b) 32 (by simp)).more (fo 0 0 false 0 0 0 ⟨#[]⟩))
  have R := Lib.hid (Bx.Fre.new_at (W := (w.alloc (po o k A l.length c)).alloc (fo d s g p v t b)) (k := w.heap.size + 1 + 1) (fc 0 0 false 0 0 0 ⟨#[]⟩) 32 (by simp))
  have hle : w.heap.size ≤ w.heap.size + 1 + 1 := by omega
  have hT : sndT l n q = Por.hasZ (Por.low (gotV l n).t) q := rfl
  have hU : sndU l n q = Por.hasZ (Por.low (gotV l n).u) q := rfl
  rw [hT, hU] at HN
  clear hA
  generalize Por.hasZ (Por.low (gotV l n).t) q = T at *
  generalize Por.hasZ (Por.low (gotV l n).u) q = U at *
  generalize gotV l n = y at *
  generalize isV l n = is at *
  obtain ⟨y1, y2, y3⟩ := y
  simp only at HT HU
  clear HN
  go_enter Tryd.func34, Tryd.ntmps34
  go_wp2_with (first | ((with_reducible refine load_at ?_ ?_ w.heap.size ?_ o k A l.length c ?_ ?_); (· rfl); (· rfl); (· rfl); (· exact P1.out)))
  refine (HF.out _ A1.out).mono ?_; rintro e w7 ⟨rfl, hb⟩
  replace bel := Lib.hid (Bx.bel_box (Bx.then_below bel.out hb) (vo ⟨y1, y2, y3⟩))
  replace F1 := Lib.hid ((F1.out.keep hb).more (vo ⟨y1, y2, y3⟩))
  replace R := Lib.hid ((R.out.keep hb).more (vo ⟨y1, y2, y3⟩))
  have V := Lib.hid (Bx.Blk.new w7 (vc ⟨y1, y2, y3⟩) 80)
  clear hb P1 A1 HF
  obtain ⟨v0, v1, v2⟩ := V.out.all3
  obtain ⟨f0, f1, f2, f3, f4, f5, f6⟩ := F1.out.all7
  cases T with
  | true =>
    have HZ := Lib.hid (show sndF l n q d s p t b = fr d s true p n t b ∧ sndB l n q = true from ⟨by unfold sndF; rw [hT]; rfl, by unfold sndB; rw [hT]; rfl⟩)
    go_wp2_with fail
    refine (HT.out _).mono ?_; rintro e w8 ⟨rfl, rfl⟩
    go_wp2_with fail
    refine (HRT.out _).mono ?_; rintro e w9 ⟨rfl, hb⟩
    replace bel := Lib.hid (Bx.then_below bel.out hb)
    replace R := Lib.hid (R.out.keep hb)
    clear hb f0 f1 f2 f3 f4 f5 f6
    clear HE F1 V HT HU HRT HRF hU hT
    obtain ⟨⟨r0, r1, r2, r3, r4, r5, r6⟩, g0, g1, g2, g3, g4, g5, g6⟩ := R.out.all7
    have R2 := Lib.hid ((R.out.1.put7 (x0 := .int .u64 d) (x1 := .int .u64 s) (x2 := .bool true) (x3 := .int .i64 p) (x4 := .int .i64 n) (x5 := .int .i64 t) (x6 := .string b)).all7)
    have bel3 := Lib.hid (Bx.bel_set7 (x0 := .int .u64 d) (x1 := .int .u64 s) (x2 := .bool true) (x3 := .int .i64 p) (x4 := .int .i64 n) (x5 := .int .i64 t) (x6 := .string b) hle bel.out)
    clear R bel
    go_wp2
    refine bodyPost_ret (v := .tuple #[fr d s true p n t b, .bool true]) ?_ rfl ?_
    · obtain ⟨d0, d1, d2, d3, d4, d5, d6⟩ := R2.out
      simp [results, Tryd.results34, d0, d1, d2, d3, d4, d5, d6, go_sem]
    · exact ⟨by rw [HZ.out.1, HZ.out.2], bel3.out⟩

  | false =>
    go_wp2_with fail
    refine (HT.out _).mono ?_; rintro e w8 ⟨rfl, rfl⟩

    cases U with
    | true =>
      have HZ := Lib.hid (show sndF l n q d s p t b = fr d s false 0 0 t b ∧ sndB l n q = true from ⟨by unfold sndF; rw [hT, hU]; rfl, by unfold sndB; rw [hT, hU]; rfl⟩)
      go_wp2_with fail
      refine (HU.out _).mono ?_; rintro e w8 ⟨rfl, rfl⟩
      go_wp2_with fail
      refine (HRF.out _).mono ?_; rintro e w9 ⟨rfl, hb⟩
      replace bel := Lib.hid (Bx.then_below bel.out hb)
      replace R := Lib.hid (R.out.keep hb)
      clear hb f0 f1 f2 f3 f4 f5 f6
      clear HE F1 V HT HU HRT HRF hU hT
      obtain ⟨⟨r0, r1, r2, r3, r4, r5, r6⟩, g0, g1, g2, g3, g4, g5, g6⟩ := R.out.all7
      have R2 := Lib.hid ((R.out.1.put7 (x0 := .int .u64 d) (x1 := .int .u64 s) (x2 := .bool false) (x3 := .int .i64 0) (x4 := .int .i64 0) (x5 := .int .i64 t) (x6 := .string b)).all7)
      have bel3 := Lib.hid (Bx.bel_set7 (x0 := .int .u64 d) (x1 := .int .u64 s) (x2 := .bool false) (x3 := .int .i64 0) (x4 := .int .i64 0) (x5 := .int .i64 t) (x6 := .string b) hle bel.out)
      clear R bel
      go_wp2
      refine bodyPost_ret (v := .tuple #[fr d s false 0 0 t b, .bool true]) ?_ rfl ?_
      · obtain ⟨d0, d1, d2, d3, d4, d5, d6⟩ := R2.out
        simp [results, Tryd.results34, d0, d1, d2, d3, d4, d5, d6, go_sem]
      · exact ⟨by rw [HZ.out.1, HZ.out.2], bel3.out⟩

    | false =>
      have HZ := Lib.hid (show sndF l n q d s p t b = fr 0 0 false 0 0 0 ⟨#[]⟩ ∧ sndB l n q = false from ⟨by unfold sndF; rw [hT, hU]; rfl, by unfold sndB; rw [hT, hU]; rfl⟩)
      go_wp2_with fail
      refine (HU.out _).mono ?_; rintro e w8 ⟨rfl, rfl⟩
      clear HE F1 V HT HU HRT HRF hU hT f0 f1 f2 f3 f4 f5 f6
      obtain ⟨⟨r0, r1, r2, r3, r4, r5, r6⟩, g0, g1, g2, g3, g4, g5, g6⟩ := R.out.all7
      have R2 := Lib.hid ((R.out.1.put7 (x0 := .int .u64 0) (x1 := .int .u64 0) (x2 := .bool false) (x3 := .int .i64 0) (x4 := .int .i64 0) (x5 := .int .i64 0) (x6 := .string ⟨#[]⟩)).all7)
      have bel3 := Lib.hid (Bx.bel_set7 (x0 := .int .u64 0) (x1 := .int .u64 0) (x2 := .bool false) (x3 := .int .i64 0) (x4 := .int .i64 0) (x5 := .int .i64 0) (x6 := .string ⟨#[]⟩) hle bel.out)
      clear R bel
      go_wp2
      refine bodyPost_ret (v := .tuple #[fr 0 0 false 0 0 0 ⟨#[]⟩, .bool false]) ?_ rfl ?_
      · obtain ⟨d0, d1, d2, d3, d4, d5, d6⟩ := R2.out
        simp [results, Tryd.results34, d0, d1, d2, d3, d4, d5, d6, go_sem]
      · exact ⟨by rw [HZ.out.1, HZ.out.2], bel3.out⟩

set_option maxRecDepth 20000 in
set_option maxHeartbeats 4000000 in
theorem rsends_any (o k : Nat → Int) (l : List Vl) (hl : l.length ≤ maxLen) (A : Option Addr) (c : Nat) (q n : Int) (d s : Int) (g : Bool) (p v t : Int) (b : ByteArray) (w : World) (hA : Vls w A l) :
    Calls Tryd.prog 38 #[pv o k A l.length c, .int .i64 q, .int .i64 n, fr d s g p v t b] w fun e w' => e = .returned (.tuple #[sndF l n q d s p t b, .bool (sndB l n q)]) ∧ Below w.heap.size w w' := by
  have HF := Lib.hid (fun (w : World) hA => rfind_any o k l hl A c n w hA)
  have HT := Lib.hid (fun w => Por.rhas_any (gotV l n).t q w)
  have HU := Lib.hid (fun w => Por.rhas_any (gotV l n).u q w)
  have HRT := Lib.hid (show ∀ w, Calls Tryd.prog 70 #[fr d s g p v t b, .bool true, .int .i64 n] w fun e w' => e = .returned (fr d s true p n t b) ∧ Below w.heap.size w w' from fun w => rretag_any d s g p v t b true n w)
  have HRF := Lib.hid (show ∀ w, Calls Tryd.prog 70 #[fr d s g p v t b, .bool false, .int .i64 0] w fun e w' => e = .returned (fr d s false 0 0 t b) ∧ Below w.heap.size w w' from fun w => rretag_any d s g p v t b false 0 w)
  have HE := Lib.hid True.intro
  have HN := Lib.hid (show isV l n = false → sndT l n q = false ∧ sndU l n q = false from fun h => none_snd h)
  have bel := Lib.hid (Bx.bel_box (Bx.bel_box (Bx.box_below w (po o k A l.length c)) (fo d s g p v t b)) (fo 0 0 false 0 0 0 ⟨#[]⟩))
  have A1 := Lib.hid (hA.below bel.out)
  have P1 := Lib.hid (((Bx.Blk.new w (pc o k A l.length c) 28).more (fo d s g p v t b)).more (fo 0 0 false 0 0 0 ⟨#[]⟩))
  have F1 := Lib.hid ((Bx.Blk.new_at (W := w.alloc (po o k A l.length c)) (k := w.heap.size + 1) (fc d s g p v t b) 32 (by simp)).more (fo 0 0 false 0 0 0 ⟨#[]⟩))
  have R := Lib.hid (Bx.Fre.new_at (W := (w.alloc (po o k A l.length c)).alloc (fo d s g p v t b)) (k := w.heap.size + 1 + 1) (fc 0 0 false 0 0 0 ⟨#[]⟩) 32 (by simp))
  have hle : w.heap.size ≤ w.heap.size + 1 + 1 := by omega
  have hT : sndT l n q = Por.hasZ (Por.low (gotV l n).t) q := rfl
  have hU : sndU l n q = Por.hasZ (Por.low (gotV l n).u) q := rfl
  rw [hT, hU] at HN
  clear hA
  generalize Por.hasZ (Por.low (gotV l n).t) q = T at *
  generalize Por.hasZ (Por.low (gotV l n).u) q = U at *
  generalize gotV l n = y at *
  generalize isV l n = is at *
  obtain ⟨y1, y2, y3⟩ := y
  simp only at HT HU
  go_enter Tryd.func38, Tryd.ntmps38
  go_wp2_with (first | ((with_reducible refine load_at ?_ ?_ w.heap.size ?_ o k A l.length c ?_ ?_); (· rfl); (· rfl); (· rfl); (· exact P1.out)))
  refine (HF.out _ A1.out).mono ?_; rintro e w7 ⟨rfl, hb⟩
  replace bel := Lib.hid (Bx.bel_box (Bx.then_below bel.out hb) (vo ⟨y1, y2, y3⟩))
  replace F1 := Lib.hid ((F1.out.keep hb).more (vo ⟨y1, y2, y3⟩))
  replace R := Lib.hid ((R.out.keep hb).more (vo ⟨y1, y2, y3⟩))
  have V := Lib.hid (Bx.Blk.new w7 (vc ⟨y1, y2, y3⟩) 80)
  clear hb P1 A1 HF
  obtain ⟨v0, v1, v2⟩ := V.out.all3
  obtain ⟨f0, f1, f2, f3, f4, f5, f6⟩ := F1.out.all7
  cases is with
  | false =>
    obtain ⟨rfl, rfl⟩ := HN.out rfl
    have HZ := Lib.hid (show sndF l n q d s p t b = fr 0 0 false 0 0 0 ⟨#[]⟩ ∧ sndB l n q = false from ⟨by unfold sndF; rw [hT, hU]; rfl, by unfold sndB; rw [hT, hU]; rfl⟩)
    clear HE F1 V HT HU HRT HRF hU hT HN f0 f1 f2 f3 f4 f5 f6
    obtain ⟨⟨r0, r1, r2, r3, r4, r5, r6⟩, g0, g1, g2, g3, g4, g5, g6⟩ := R.out.all7
    have R2 := Lib.hid ((R.out.1.put7 (x0 := .int .u64 0) (x1 := .int .u64 0) (x2 := .bool false) (x3 := .int .i64 0) (x4 := .int .i64 0) (x5 := .int .i64 0) (x6 := .string ⟨#[]⟩)).all7)
    have bel3 := Lib.hid (Bx.bel_set7 (x0 := .int .u64 0) (x1 := .int .u64 0) (x2 := .bool false) (x3 := .int .i64 0) (x4 := .int .i64 0) (x5 := .int .i64 0) (x6 := .string ⟨#[]⟩) hle bel.out)
    clear R bel
    go_wp2
    refine bodyPost_ret (v := .tuple #[fr 0 0 false 0 0 0 ⟨#[]⟩, .bool false]) ?_ rfl ?_
    · obtain ⟨d0, d1, d2, d3, d4, d5, d6⟩ := R2.out
      simp [results, Tryd.results38, d0, d1, d2, d3, d4, d5, d6, go_sem]
    · exact ⟨by rw [HZ.out.1, HZ.out.2], bel3.out⟩

  | true =>
    clear HN
    cases T with
    | true =>
      have HZ := Lib.hid (show sndF l n q d s p t b = fr d s true p n t b ∧ sndB l n q = true from ⟨by unfold sndF; rw [hT]; rfl, by unfold sndB; rw [hT]; rfl⟩)
      go_wp2_with fail
      refine (HT.out _).mono ?_; rintro e w8 ⟨rfl, rfl⟩
      go_wp2_with fail
      refine (HRT.out _).mono ?_; rintro e w9 ⟨rfl, hb⟩
      replace bel := Lib.hid (Bx.then_below bel.out hb)
      replace R := Lib.hid (R.out.keep hb)
      clear hb f0 f1 f2 f3 f4 f5 f6
      clear HE F1 V HT HU HRT HRF hU hT
      obtain ⟨⟨r0, r1, r2, r3, r4, r5, r6⟩, g0, g1, g2, g3, g4, g5, g6⟩ := R.out.all7
      have R2 := Lib.hid ((R.out.1.put7 (x0 := .int .u64 d) (x1 := .int .u64 s) (x2 := .bool true) (x3 := .int .i64 p) (x4 := .int .i64 n) (x5 := .int .i64 t) (x6 := .string b)).all7)
      have bel3 := Lib.hid (Bx.bel_set7 (x0 := .int .u64 d) (x1 := .int .u64 s) (x2 := .bool true) (x3 := .int .i64 p) (x4 := .int .i64 n) (x5 := .int .i64 t) (x6 := .string b) hle bel.out)
      clear R bel
      go_wp2
      refine bodyPost_ret (v := .tuple #[fr d s true p n t b, .bool true]) ?_ rfl ?_
      · obtain ⟨d0, d1, d2, d3, d4, d5, d6⟩ := R2.out
        simp [results, Tryd.results38, d0, d1, d2, d3, d4, d5, d6, go_sem]
      · exact ⟨by rw [HZ.out.1, HZ.out.2], bel3.out⟩

    | false =>
      go_wp2_with fail
      refine (HT.out _).mono ?_; rintro e w8 ⟨rfl, rfl⟩

      cases U with
      | true =>
        have HZ := Lib.hid (show sndF l n q d s p t b = fr d s false 0 0 t b ∧ sndB l n q = true from ⟨by unfold sndF; rw [hT, hU]; rfl, by unfold sndB; rw [hT, hU]; rfl⟩)
        go_wp2_with fail
        refine (HU.out _).mono ?_; rintro e w8 ⟨rfl, rfl⟩
        go_wp2_with fail
        refine (HRF.out _).mono ?_; rintro e w9 ⟨rfl, hb⟩
        replace bel := Lib.hid (Bx.then_below bel.out hb)
        replace R := Lib.hid (R.out.keep hb)
        clear hb f0 f1 f2 f3 f4 f5 f6
        clear HE F1 V HT HU HRT HRF hU hT
        obtain ⟨⟨r0, r1, r2, r3, r4, r5, r6⟩, g0, g1, g2, g3, g4, g5, g6⟩ := R.out.all7
        have R2 := Lib.hid ((R.out.1.put7 (x0 := .int .u64 d) (x1 := .int .u64 s) (x2 := .bool false) (x3 := .int .i64 0) (x4 := .int .i64 0) (x5 := .int .i64 t) (x6 := .string b)).all7)
        have bel3 := Lib.hid (Bx.bel_set7 (x0 := .int .u64 d) (x1 := .int .u64 s) (x2 := .bool false) (x3 := .int .i64 0) (x4 := .int .i64 0) (x5 := .int .i64 t) (x6 := .string b) hle bel.out)
        clear R bel
        go_wp2
        refine bodyPost_ret (v := .tuple #[fr d s false 0 0 t b, .bool true]) ?_ rfl ?_
        · obtain ⟨d0, d1, d2, d3, d4, d5, d6⟩ := R2.out
          simp [results, Tryd.results38, d0, d1, d2, d3, d4, d5, d6, go_sem]
        · exact ⟨by rw [HZ.out.1, HZ.out.2], bel3.out⟩

      | false =>
        have HZ := Lib.hid (show sndF l n q d s p t b = fr 0 0 false 0 0 0 ⟨#[]⟩ ∧ sndB l n q = false from ⟨by unfold sndF; rw [hT, hU]; rfl, by unfold sndB; rw [hT, hU]; rfl⟩)
        go_wp2_with fail
        refine (HU.out _).mono ?_; rintro e w8 ⟨rfl, rfl⟩
        clear HE F1 V HT HU HRT HRF hU hT f0 f1 f2 f3 f4 f5 f6
        obtain ⟨⟨r0, r1, r2, r3, r4, r5, r6⟩, g0, g1, g2, g3, g4, g5, g6⟩ := R.out.all7
        have R2 := Lib.hid ((R.out.1.put7 (x0 := .int .u64 0) (x1 := .int .u64 0) (x2 := .bool false) (x3 := .int .i64 0) (x4 := .int .i64 0) (x5 := .int .i64 0) (x6 := .string ⟨#[]⟩)).all7)
        have bel3 := Lib.hid (Bx.bel_set7 (x0 := .int .u64 0) (x1 := .int .u64 0) (x2 := .bool false) (x3 := .int .i64 0) (x4 := .int .i64 0) (x5 := .int .i64 0) (x6 := .string ⟨#[]⟩) hle bel.out)
        clear R bel
        go_wp2
        refine bodyPost_ret (v := .tuple #[fr 0 0 false 0 0 0 ⟨#[]⟩, .bool false]) ?_ rfl ?_
        · obtain ⟨d0, d1, d2, d3, d4, d5, d6⟩ := R2.out
          simp [results, Tryd.results38, d0, d1, d2, d3, d4, d5, d6, go_sem]
        · exact ⟨by rw [HZ.out.1, HZ.out.2], bel3.out⟩

end Mem
end Go.Proofs.YtmojegnflcokjaaDoor

/-
  Plain data of layer 16: a frame's kind, the ports at which it goes out, what is learnt of it, and the frames that go out.
-/
namespace Go.Proofs.YtmojegnflcokjaaDoor
namespace Fwd

/-- The kind of a frame with that type and destination. -/
def kindN (t : Int) (d : Nat) : Int := if t = 34958 then 1 else if d = 1652522221568 then 2 else if Mac.reservedB d then 3 else 0

/-- The entries behind a frame from s, of the VLAN v, at the port q. -/
def learnsL (most : Int) (l : List Tab.En) (v : Int) (s : Nat) (q ln : Int) : List Tab.En := if Por.hasZ (Por.low ln) q then Tab.learnL most l v s q else l

/-- All other ports; where a frame goes. -/
def othersI (L : List Mem.Vl) (v op q : Int) : Int := Por.withoutI (bits .and .i64 (Mem.ofV L v) op) q
def portsI (l : List Tab.En) (L : List Mem.Vl) (t : Int) (d : Nat) (v q op : Int) : Int :=
  if kindN t d = 0 ∧ Por.hasZ (Por.low op) q = true then
    if Mac.groupB d = true ∨ Tab.isE l v d = false then othersI L v op q
    else if Por.hasZ (Por.low (othersI L v op q)) (Tab.gotE l v d).p = true then Por.withI 0 (Tab.gotE l v d).p else 0
  else 0
def portsL (l : List Tab.En) (L : List Mem.Vl) (t : Int) (d : Nat) (v q op : Int) : List Int := Por.listI (Por.low (portsI l L t d v q op)) 8

/-- A frame's fields. -/
structure Fm where
  d : Int
  s : Int
  g : Bool
  p : Int
  v : Int
  t : Int
  b : ByteArray

/-- The frame that is sent at the port q, of the VLAN n. -/
def sentF (L : List Mem.Vl) (n q d s p t : Int) (b : ByteArray) : Fm := if Mem.sndT L n q then ⟨d, s, true, p, n, t, b⟩ else if Mem.sndU L n q then ⟨d, s, false, 0, 0, t, b⟩ else ⟨0, 0, false, 0, 0, 0, ⟨#[]⟩⟩

/-- What goes out: at a port a frame. -/
structure Ou where
  q : Int
  f : Fm

def outsL (L : List Mem.Vl) (n d s p t : Int) (b : ByteArray) (l : List Int) : List Ou := l.map fun q => ⟨q, sentF L n q d s p t b⟩

theorem outs_len (L : List Mem.Vl) (n d s p t : Int) (b : ByteArray) (l : List Int) : (outsL L n d s p t b l).length = l.length := by simp [outsL]

theorem portsL_len (l : List Tab.En) (L : List Mem.Vl) (t : Int) (d : Nat) (v q op : Int) : (portsL l L t d v q op).length ≤ 8 := Por.listI_len _ _

theorem low_and (x y : Int) : Por.low (bits .and .i64 x y) = Por.low x &&& Por.low y := by
  show Por.low (IntKind.i64.wrap ((BitVec.ofInt IntKind.i64.bits x &&& BitVec.ofInt IntKind.i64.bits y).toNat : Int)) = _
  rw [Por.low_wrap, BitVec.toNat_and, ← Por.low_ofInt x, ← Por.low_ofInt y, show (256 : Nat) = 2 ^ 8 from rfl, Nat.and_mod_two_pow]

theorem has_bit (m p : Nat) : Por.hasN m p = m.testBit p := by
  unfold Por.hasN
  rw [Nat.testBit_eq_decide_div_mod_eq]
  rfl

theorem hasZ_and (a b : Nat) (p : Int) : Por.hasZ (a &&& b) p = (Por.hasZ a p && Por.hasZ b p) := by
  unfold Por.hasZ
  rw [has_bit, has_bit, has_bit, Nat.testBit_and]
  cases decide (0 ≤ p ∧ p < 8) <;> simp

theorem without_fin : ∀ m : Fin 256, ∀ k j : Fin 8, Por.hasN (m.val &&& (255 - 2 ^ k.val)) j.val = (Por.hasN m.val j.val && !decide (j.val = k.val)) := by decide +kernel

theorem has_with_out (x q p : Int) : Por.hasZ (Por.low (Por.withoutI x q)) p = (Por.hasZ (Por.low x) p && !decide (p = q)) := by
  by_cases hp : 0 ≤ p ∧ p < 8
  · by_cases hq : 0 ≤ q ∧ q < 8
    · rw [Por.low_without x q hq]
      have h := without_fin ⟨Por.low x, Por.low_lt x⟩ ⟨q.toNat, by omega⟩ ⟨p.toNat, by omega⟩
      simp only at h
      unfold Por.hasZ
      rw [h, show (decide (p.toNat = q.toNat)) = decide (p = q) by rw [decide_eq_decide]; omega, decide_eq_true hp]
      simp
    · have : Por.withoutI x q = x := if_neg hq
      rw [this, decide_eq_false (by omega : ¬ p = q)]
      simp
  · unfold Por.hasZ
    rw [decide_eq_false hp]
    simp

theorem with_fin : ∀ k j : Fin 8, Por.hasN (2 ^ k.val) j.val = decide (j.val = k.val) := by decide +kernel

theorem has_one (x p : Int) (h : Por.hasZ (Por.low (Por.withI 0 x)) p = true) : p = x := by
  have hp := Por.hasZ_eight _ _ h
  by_cases hx : 0 ≤ x ∧ x < 8
  · rw [Por.low_withI] at h
    unfold Por.withN at h
    rw [if_pos hx, show Por.low 0 = 0 from rfl, Nat.zero_or] at h
    have g := with_fin ⟨x.toNat, by omega⟩ ⟨p.toNat, by omega⟩
    simp only at g
    unfold Por.hasZ at h
    rw [g, Bool.and_eq_true, decide_eq_true_eq, decide_eq_true_eq] at h
    omega
  · rw [show Por.withI 0 x = 0 from if_neg hx] at h
    unfold Por.hasZ Por.hasN at h
    simp [Por.low] at h

theorem has_others {L : List Mem.Vl} {v op q p : Int} (h : Por.hasZ (Por.low (othersI L v op q)) p = true) : p ≠ q ∧ Por.hasZ (Por.low (Mem.ofV L v)) p = true ∧ Por.hasZ (Por.low op) p = true := by
  unfold othersI at h
  rw [has_with_out, low_and, hasZ_and] at h
  simp only [Bool.and_eq_true, Bool.not_eq_true', decide_eq_false_iff_not] at h
  exact ⟨h.2, h.1.1, h.1.2⟩

theorem has_none (p : Int) : Por.hasZ (Por.low 0) p = false := by
  unfold Por.hasZ Por.hasN
  simp [Por.low]

/-- Where a frame goes: not where it came in, where it is open, and of the VLAN. -/
theorem has_ports {l : List Tab.En} {L : List Mem.Vl} {t : Int} {d : Nat} {v q op p : Int} (h : Por.hasZ (Por.low (portsI l L t d v q op)) p = true) : p ≠ q ∧ Por.hasZ (Por.low (Mem.ofV L v)) p = true ∧ Por.hasZ (Por.low op) p = true := by
  unfold portsI at h
  split at h
  · split at h
    · exact has_others h
    · split at h
      · rename_i ho
        rw [has_one _ _ h]
        exact has_others ho
      · rw [has_none] at h; cases h
  · rw [has_none] at h; cases h

theorem mem_list {m : Nat} {x : Int} (h : x ∈ Por.listI m 8) : Por.hasZ m x = true := by
  unfold Por.listI Por.listN at h
  obtain ⟨k, hk, rfl⟩ := List.mem_map.1 h
  obtain ⟨h1, h2⟩ := List.mem_filter.1 hk
  rw [show Int.ofNat k = (k : Int) from rfl, Por.hasZ_nat m k (List.mem_range.1 h1)]
  exact h2

theorem mem_ports {l : List Tab.En} {L : List Mem.Vl} {t : Int} {d : Nat} {v q op p : Int} (h : p ∈ portsL l L t d v q op) : p ≠ q ∧ Por.hasZ (Por.low (Mem.ofV L v)) p = true ∧ Por.hasZ (Por.low op) p = true ∧ Mem.sndB L v p = true := by
  have := has_ports (mem_list h)
  exact ⟨this.1, this.2.1, this.2.2, by rw [← Mem.snd_of]; exact this.2.1⟩

/-- What is sent at a port that sends has the frame's body and destination; with a tag it is of the VLAN. -/
theorem sent_is {L : List Mem.Vl} {n q d s p t : Int} {b : ByteArray} (h : Mem.sndB L n q = true) : (sentF L n q d s p t b).d = d ∧ (sentF L n q d s p t b).b = b ∧ ((sentF L n q d s p t b).g = true → (sentF L n q d s p t b).v = n) := by
  unfold sentF
  unfold Mem.sndB at h
  split
  · exact ⟨rfl, rfl, fun _ => rfl⟩
  · rename_i h1
    split
    · exact ⟨rfl, rfl, fun h => by cases h⟩
    · rename_i h2
      simp [h1, h2] at h

theorem list_rise (m k : Nat) (h : k + 1 < (Por.listI m 8).length) (h0 : k < (Por.listI m 8).length) : (Por.listI m 8)[k] < (Por.listI m 8)[k + 1] := by
  have hp : (Por.listN m 8).Pairwise (· < ·) := List.pairwise_lt_range.filter _
  have h1 : k + 1 < (Por.listN m 8).length := by simpa [Por.listI] using h
  have := List.pairwise_iff_getElem.1 hp k (k + 1) (by omega) h1 (by omega)
  simp only [Por.listI, List.getElem_map]
  exact Int.ofNat_lt.2 this

theorem one_fin : ∀ m : Fin 8, (Por.listI (2 ^ m.val) 8).length = 1 := by decide +kernel

theorem one_len (x : Int) : (Por.listI (Por.low (Por.withI 0 x)) 8).length ≤ 1 := by
  by_cases hx : 0 ≤ x ∧ x < 8
  · rw [Por.low_withI]
    unfold Por.withN
    rw [if_pos hx, show Por.low 0 = 0 from rfl, Nat.zero_or, one_fin ⟨x.toNat, by omega⟩]
    exact Nat.le_refl _
  · rw [show Por.withI 0 x = 0 from if_neg hx]
    decide

/-- To an address that was learnt it goes out once at most, and where that is. -/
theorem ports_one {l : List Tab.En} {L : List Mem.Vl} {t : Int} {d : Nat} {v q op : Int} (h : Tab.isE l v d = true) (hg : Mac.groupB d = false) : (portsL l L t d v q op).length ≤ 1 ∧ ∀ p ∈ portsL l L t d v q op, p = (Tab.gotE l v d).p := by
  have hn : ¬ (Mac.groupB d = true ∨ Tab.isE l v d = false) := by rw [h, hg]; simp
  have h0 : (Por.listI (Por.low 0) 8).length ≤ 1 ∧ ∀ p ∈ Por.listI (Por.low 0) 8, p = (Tab.gotE l v d).p := ⟨by decide, fun p hp => by have := mem_list hp; rw [has_none] at this; cases this⟩
  unfold portsL
  by_cases hk : kindN t d = 0 ∧ Por.hasZ (Por.low op) q = true
  · by_cases ho : Por.hasZ (Por.low (othersI L v op q)) (Tab.gotE l v d).p = true
    · rw [show portsI l L t d v q op = Por.withI 0 (Tab.gotE l v d).p by unfold portsI; rw [if_pos hk, if_neg hn, if_pos ho]]
      exact ⟨one_len _, fun p hp => has_one _ _ (mem_list hp)⟩
    · rw [show portsI l L t d v q op = 0 by unfold portsI; rw [if_pos hk, if_neg hn, if_neg ho]]
      exact h0
  · rw [show portsI l L t d v q op = 0 by unfold portsI; rw [if_neg hk]]
    exact h0

theorem ports_all {l : List Tab.En} {L : List Mem.Vl} {t : Int} {d : Nat} {v q op : Int} (hk : kindN t d = 0) (ho : Por.hasZ (Por.low op) q = true) (h : Mac.groupB d = true ∨ Tab.isE l v d = false) : portsI l L t d v q op = othersI L v op q := by
  unfold portsI
  rw [if_pos ⟨hk, ho⟩, if_pos h]

theorem ports_none {l : List Tab.En} {L : List Mem.Vl} {t : Int} {d : Nat} {v q op : Int} (h : ¬ (kindN t d = 0 ∧ Por.hasZ (Por.low op) q = true)) : portsI l L t d v q op = 0 := if_neg h

end Fwd
end Go.Proofs.YtmojegnflcokjaaDoor

/-
  Slices of integers (over any program): a slice, nil or not, that reads as a list; what a call that makes memory leaves of it; a slice that a call made.
-/
namespace Go.Proofs.YtmojegnflcokjaaDoor
open Go.RowKit
namespace Bx

/-- The slice that begins at A reads as l. -/
def Ints (w : World) (A : Option Addr) (l : List Int) : Prop := ∀ j x, l[j]? = some x → ∃ ad, A = some ad ∧ ad.block < w.heap.size ∧ w.cell? (ad.add j) = some (.int .i64 x)

theorem add_block (a : Addr) (i : Nat) : (a.add i).block = a.block := by unfold Addr.add; split <;> rfl

theorem Ints.below {w w' : World} {A : Option Addr} {l : List Int} (h : Ints w A l) (hb : Below w.heap.size w w') : Ints w' A l := fun j x hj => by
  obtain ⟨ad, e, h1, h2⟩ := h j x hj
  exact ⟨ad, e, Nat.lt_of_lt_of_le h1 hb.size, by rw [hb.cell (p := ad.add j) (by rw [add_block]; exact h1)]; exact h2⟩

theorem Ints.more {w : World} {A : Option Addr} {l : List Int} (h : Ints w A l) (o : Obj) : Ints (w.alloc o) A l := h.below ((Below.refl _ _).alloc (Nat.le_refl _) _)

theorem Ints.drew {w : World} {A : Option Addr} {l : List Int} (h : Ints w A l) : Ints w.drew A l := h

theorem Ints.nil (w : World) (A : Option Addr) : Ints w A [] := fun j x h => by simp at h

theorem Ints.at {w : World} {A : Option Addr} {l : List Int} (h : Ints w A l) {k : Nat} (hk : k < l.length) : ∃ ad, A = some ad ∧ ad.block < w.heap.size ∧ w.cell? (ad.add k) = some (.int .i64 l[k]) := h k l[k] (List.getElem?_eq_getElem hk)

/-- A row of the call's own, as a slice. -/
theorem Ints.of_own {w : World} {base : Nat} {e : TypeId} {v : Value} {l : List Int} (h : w.ownsRow base e 1 v l.length (l.map (Value.int .i64))) :
    ∃ A cap, v = .slice A l.length cap ∧ Ints w A l := by
  rcases h.2 with ⟨rfl, h0⟩ | ⟨g, cap, cur, rfl, hb, hg, _⟩
  · have : l = [] := List.eq_nil_of_length_eq_zero h0
    subst this
    exact ⟨none, 0, rfl, Ints.nil _ _⟩
  · refine ⟨_, _, rfl, fun j x hj => ⟨⟨g, 0, none⟩, rfl, (Array.getElem?_eq_some_iff.1 hg).1, ?_⟩⟩
    exact h.cells (g := g) rfl j _ (by rw [List.getElem?_map, hj]; rfl)

/-- What hands back a new slice that reads as l. -/
def Gives (l : List Int) (w : World) (e : Ending) (w' : World) : Prop := ∃ A cap, e = .returned (.slice A l.length cap) ∧ Ints w' A l ∧ Below w.heap.size w w'

end Bx
end Go.Proofs.YtmojegnflcokjaaDoor
