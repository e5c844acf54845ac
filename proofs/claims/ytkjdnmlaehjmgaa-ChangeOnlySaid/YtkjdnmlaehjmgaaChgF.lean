/-
  Hear for any port; the law's awake.
-/
import Derived.Test.YtkjdnmlaehjmgaaChgD
import Derived.Test.YtkjdnmlaehjmgaaChgE
import Derived.Test.YtkjdnmlaehjmgaaEltI
import Derived.Test.YtkjdnmlaehjmgaaEltF
import Derived.Deep.DeepCutAuto
namespace Go.Proofs.Ytkjdnmlaehjmgaa
open Go.RowKit
namespace Chg
open Pre Crd Tre Elt Rip

/-- What Hear makes, whatever the port. -/
def herI (x : Td) (p : Int) (b : Bd) : Td × Nat := if 0 ≤ p ∧ p < 8 then herT x p.toNat b else (x, 0)

theorem hear_all (x : Td) (p : Int) (b : Bd) (w : World) : Calls Try.prog 7 #[tdv x, .int .i64 p, bdv b] w fun e w' => e = .returned (.tuple #[tdv (herI x p b).1, .int .i64 (((herI x p b).2 : Nat) : Int)]) ∧ Below w.heap.size w w' := by
  by_cases hp : 0 ≤ p ∧ p < 8
  · obtain ⟨i, rfl⟩ : ∃ i : Nat, p = i := ⟨p.toNat, by omega⟩
    have h := hear_any x i (by omega) b w
    rw [show herI x (i : Int) b = herT x i b from (if_pos hp).trans (by rw [Int.toNat_natCast])]
    exact h
  · rw [show herI x p b = (x, 0) from if_neg hp]
    exact hear_out x p b w (by omega)

theorem rhear_all (x : Td) (p : Int) (b : Bd) (w : World) : Calls Try.prog 8 #[tdv x, .int .i64 p, bdv b] w fun e w' => e = .returned (.tuple #[tdv (herI x p b).1, .int .i64 (((herI x p b).2 : Nat) : Int)]) ∧ Below w.heap.size w w' := by
  by_cases hp : 0 ≤ p ∧ p < 8
  · obtain ⟨i, rfl⟩ : ∃ i : Nat, p = i := ⟨p.toNat, by omega⟩
    have h := rhear_any x i (by omega) b w
    rw [show herI x (i : Int) b = herT x i b from (if_pos hp).trans (by rw [Int.toNat_natCast])]
    exact h
  · rw [show herI x p b = (x, 0) from if_neg hp]
    exact rhear_out x p b w (by omega)

def ct1 : Td := eleT al7
def cu1 : Td := putT ct1 2 { ct1.cs 2 with st := 2 }
def cv1 : Td := (flN ct1 cu1 8).1
def cw1 : Td := (flN cu1 ct1 8).1
abbrev bch : Bd := ⟨128, false, false, 0, false, false, false, false, ⟨0, 0, 0, 0⟩, ⟨0, 0, 0, 0⟩⟩
abbrev brp : Bd := ⟨2, false, false, 0, false, false, false, false, ⟨0, 0, 0, 0⟩, ⟨0, 0, 0, 0⟩⟩
def cx1 : Td := (herI ct1 1 bch).1
def cx2 : Td := (herI ct1 1 brp).1
def ce1 : Td := putT cu1 2 { cu1.cs 2 with edge := true }
def cj1 : Td := (flN ct1 ce1 8).1
def cs1 : Td := strT ct1 1
theorem cv_is : (flN ct1 cu1 8).2 = 251 ∧ (cv1.cs 0).chg = 2 ∧ (cv1.cs 2).chg = 2 := by decide +kernel
theorem cw_is : (flN cu1 ct1 8).2 = 4 ∧ samT cw1 ct1 = true := by decide +kernel
theorem cx_is : (herI ct1 1 bch).2 = 253 ∧ (cx1.cs 1).ack = true ∧ (cx1.cs 1).chg = 0 ∧ (cx1.cs 0).chg = 2 := by decide +kernel
theorem cr_is : (herI ct1 1 brp).2 = 0 ∧ (flN ct1 ce1 8).2 = 0 ∧ prtI ct1 0 = 254 ∧ (cs1.cs 0).chg = 2 := by decide +kernel

theorem field5 (x : Td) (w : World) : (Instr.field 31 (tdv x) 5).run Try.prog w = .ok (csv x.cs) w := by kernel_rfl
theorem field21 (c : Cd) (w : World) : (Instr.field 28 (cdv c) 21).run Try.prog w = .ok (.int .i64 c.chg) w := by kernel_rfl
theorem build_k (n : Int) (w : World) : (Instr.build 33 #[(0, .int .i64 n)]).run Try.prog w = .ok (.agg #[.int .i64 n, .bool false, .bool false, .int .i64 0, .bool false, .bool false, .bool false, .bool false, .int .u64 0, .int .u64 0, .int .u64 0, .int .i64 0, .int .i64 0, .int .i64 0, .int .i64 0, .int .i64 0]) w := by kernel_rfl

set_option maxRecDepth 40000 in
set_option maxHeartbeats 8000000 in
theorem awake_any (w : World) : Calls Try.prog 13 #[] w fun e w' => e = .returned (.bool true) ∧ Below w.heap.size w w' := by
  have HA := Lib.hid alone_any
  have HE1 : Hid (∀ w, Calls Try.prog 25 #[tdv al7] w fun e w' => e = .returned (tdv ct1) ∧ Below w.heap.size w w') := Lib.hid (elect_any al7)
  obtain ⟨hv1, hv2, hv3⟩ := cv_is
  obtain ⟨hw1, hw2⟩ := cw_is
  obtain ⟨hx1, hx2, hx3, hx4⟩ := cx_is
  obtain ⟨hr1, hr2, hr3, hr4⟩ := cr_is
  have P1 : Hid (∀ w, Calls Try.prog 5 #[tdv ct1, tdv cu1] w fun e w' => e = .returned (.tuple #[tdv cv1, .int .i64 251]) ∧ Below w.heap.size w w') := Lib.hid (fun w => by have h := flush_any ct1 cu1 w; rw [hv1] at h; exact h)
  have P2 : Hid (∀ w, Calls Try.prog 5 #[tdv cu1, tdv ct1] w fun e w' => e = .returned (.tuple #[tdv cw1, .int .i64 4]) ∧ Below w.heap.size w w') := Lib.hid (fun w => by have h := flush_any cu1 ct1 w; rw [hw1] at h; exact h)
  have P3 : Hid (∀ w, Calls Try.prog 7 #[tdv ct1, .int .i64 1, .agg #[.int .i64 128, .bool false, .bool false, .int .i64 0, .bool false, .bool false, .bool false, .bool false, .int .u64 0, .int .u64 0, .int .u64 0, .int .i64 0, .int .i64 0, .int .i64 0, .int .i64 0, .int .i64 0]] w fun e w' => e = .returned (.tuple #[tdv cx1, .int .i64 253]) ∧ Below w.heap.size w w') := Lib.hid (fun w => by have h := hear_all ct1 1 bch w; rw [hx1] at h; exact h)
  have P4 : Hid (∀ w, Calls Try.prog 7 #[tdv ct1, .int .i64 1, .agg #[.int .i64 2, .bool false, .bool false, .int .i64 0, .bool false, .bool false, .bool false, .bool false, .int .u64 0, .int .u64 0, .int .u64 0, .int .i64 0, .int .i64 0, .int .i64 0, .int .i64 0, .int .i64 0]] w fun e w' => e = .returned (.tuple #[tdv cx2, .int .i64 0]) ∧ Below w.heap.size w w') := Lib.hid (fun w => by have h := hear_all ct1 1 brp w; rw [hr1] at h; exact h)
  have P5 : Hid (∀ w, Calls Try.prog 5 #[tdv ct1, tdv ce1] w fun e w' => e = .returned (.tuple #[tdv cj1, .int .i64 0]) ∧ Below w.heap.size w w') := Lib.hid (fun w => by have h := flush_any ct1 ce1 w; rw [hr2] at h; exact h)
  have P6 : Hid (∀ w, Calls Try.prog 9 #[tdv ct1, .int .i64 0] w fun e w' => e = .returned (.int .i64 254) ∧ Below w.heap.size w w') := Lib.hid (fun w => by have h := ports_any ct1 0 w; rw [hr3] at h; exact h)
  have P7 : Hid (∀ w, Calls Try.prog 11 #[tdv ct1, .int .i64 1] w fun e w' => e = .returned (tdv cs1) ∧ Below w.heap.size w w') := Lib.hid (start_any ct1 1)
  have hy : ∀ w, (binOp .eql 31 (tdv cw1) (tdv ct1)).run Try.prog w = .ok (.bool true) w := fun w => by rw [teql_any, hw2]
  replace hy := Lib.hid hy
  have hb1 := Lib.hid (build_k 128)
  have hb2 := Lib.hid (build_k 2)
  have hfd := Lib.hid (field5 cs1)
  have hix : Hid (∀ w, (Instr.index 29 (csv cs1.cs) (.int .i64 0)).run Try.prog w = .ok (cdv (cs1.cs 0)) w) := Lib.hid (fun w => index_at cs1.cs 0 (by omega) w)
  have hfc : Hid (∀ w, (Instr.field 28 (cdv (cs1.cs 0)) 21).run Try.prog w = .ok (.int .i64 2) w) := Lib.hid (fun w => by rw [field21, hr4])
  clear hv1 hw1 hw2 hx1 hr1 hr2 hr3 hr4
  replace hv2 := Lib.hid hv2
  replace hv3 := Lib.hid hv3
  replace hx2 := Lib.hid hx2
  replace hx3 := Lib.hid hx3
  replace hx4 := Lib.hid hx4
  have HZ := Lib.hid (@zero_at)
  have hal := zero_at
  go_enter Try.func13, Try.ntmps13
  go_wp2_with fail
  refine (HA.out _).mono ?_; rintro e w1 ⟨rfl, hb⟩
  have bel := Lib.hid hb
  clear hb
  go_wp2_with fail
  refine (HE1.out _).mono ?_; rintro e w2 ⟨rfl, hb⟩
  replace bel := Lib.hid (Bx.then_below bel.out hb)
  clear hb
  have hwT1 : w.heap.size ≤ w2.heap.size := bel.out.size
  have T1 : Hid (Bx.Fre (w2.alloc (tdo ct1)) w2.heap.size (tdl ct1)) := Lib.hid (Bx.Fre.new w2 (tdl ct1) 31)
  replace bel := Lib.hid (Bx.bel_box bel.out (tdo ct1))
  go_upto_region 2 with (first | ((with_reducible refine td_fresh ?_ ?_ (w2.heap.size) ct1 ?_ ?_ w2 (tdl Td.zero) ?_ ?_ ?_ ?_); (· rfl); (· rfl); (· rfl); (· rfl); (· exact tdl_len _); (· rfl); (· first | rfl | (simp; done))))
  obtain ⟨kT1, hkT1⟩ : ∃ k, k = w2.heap.size := ⟨_, rfl⟩
  rw [← hkT1] at T1 hwT1 ⊢
  generalize (w2.alloc (tdo ct1)) = WT1 at *
  clear hkT1
  have X2 := T1
  have hT1T2 : kT1 < WT1.heap.size := T1.out.2.1
  have hwT2 : w.heap.size ≤ WT1.heap.size := bel.out.size
  replace T1 := Lib.hid (T1.out.more (tdo ct1))
  have T2 : Hid (Bx.Fre (WT1.alloc (tdo ct1)) WT1.heap.size (tdl ct1)) := Lib.hid (Bx.Fre.new WT1 (tdl ct1) 31)
  replace bel := Lib.hid (Bx.bel_box bel.out (tdo ct1))
  go_upto_region 3 with (first | ((with_reducible refine td_fresh ?_ ?_ (WT1.heap.size) ct1 ?_ ?_ WT1 (tdl Td.zero) ?_ ?_ ?_ ?_); (· rfl); (· rfl); (· rfl); (· rfl); (· exact tdl_len _); (· rfl); (· first | rfl | (simp; done))) | ((with_reducible refine td_load ?_ ?_ (kT1) ?_ ct1 ?_ ?_); (· rfl); (· rfl); (· rfl); (· exact X2.out.blk)))
  obtain ⟨kT2, hkT2⟩ : ∃ k, k = WT1.heap.size := ⟨_, rfl⟩
  rw [← hkT2] at T2 hT1T2 hwT2 ⊢
  generalize (WT1.alloc (tdo ct1)) = WT2 at *
  clear hkT2
  clear X2 hal
  have q3 := cord_cell (x := ct1) T2.out.blk 2 14 (by omega) (by omega) (v := .int .i64 (ct1.cs 2).st) rfl
  have f3 := T2.out.2.2 90
  replace q3 : WT2.cell? ⟨kT2, 90, none⟩ = some (.int .i64 (ct1.cs 2).st) := q3
  replace T1 := Lib.hid (T1.out.other (k' := kT2) (o := 90) (x := .int .i64 2) (by omega))
  replace bel := Lib.hid (Bx.bel_set (k := kT2) (o := 90) (x := .int .i64 2) (by omega) bel.out)
  replace T2 := Lib.hid ((T2.out.set (90) (.int .i64 2)).of (m := (tdl cu1)) (tdl_set ct1 2 14 (by omega) (by omega) _ { ct1.cs 2 with st := 2 } rfl))
  go_upto_region 4 with fail
  clear q3 f3
  generalize (WT2.setCell ⟨kT2, 90, none⟩ (.int .i64 2)) = W4 at *
  go_wp2_with (first | ((with_reducible refine td_load ?_ ?_ (kT1) ?_ ct1 ?_ ?_); (· rfl); (· rfl); (· rfl); (· exact T1.out.blk)) | ((with_reducible refine cs_load ?_ ?_ (kT1) ?_ ct1 ?_ ?_); (· rfl); (· rfl); (· rfl); (· exact T1.out.blk)) | ((with_reducible refine td_load ?_ ?_ (kT2) ?_ cu1 ?_ ?_); (· rfl); (· rfl); (· rfl); (· exact T2.out.blk)) | ((with_reducible refine cs_load ?_ ?_ (kT2) ?_ cu1 ?_ ?_); (· rfl); (· rfl); (· rfl); (· exact T2.out.blk)))
  refine (P1.out _).mono ?_; rintro e w3 ⟨rfl, hb⟩
  replace T1 := Lib.hid (T1.out.keep hb)
  replace T2 := Lib.hid (T2.out.keep hb)
  replace bel := Lib.hid (Bx.then_below bel.out hb)
  clear hb
  have hal := HZ.out
  have hT1T3 : kT1 < w3.heap.size := T1.out.2.1
  have hT2T3 : kT2 < w3.heap.size := T2.out.2.1
  have hwT3 : w.heap.size ≤ w3.heap.size := bel.out.size
  replace T1 := Lib.hid (T1.out.more (tdo cv1))
  replace T2 := Lib.hid (T2.out.more (tdo cv1))
  have T3 : Hid (Bx.Fre (w3.alloc (tdo cv1)) w3.heap.size (tdl cv1)) := Lib.hid (Bx.Fre.new w3 (tdl cv1) 31)
  replace bel := Lib.hid (Bx.bel_box bel.out (tdo cv1))
  go_upto_region 5 with (first | ((with_reducible refine td_fresh ?_ ?_ (w3.heap.size) cv1 ?_ ?_ w3 (tdl Td.zero) ?_ ?_ ?_ ?_); (· rfl); (· rfl); (· rfl); (· rfl); (· exact tdl_len _); (· rfl); (· first | rfl | (simp; done))))
  obtain ⟨kT3, hkT3⟩ : ∃ k, k = w3.heap.size := ⟨_, rfl⟩
  rw [← hkT3] at T3 hT1T3 hT2T3 hwT3 ⊢
  generalize (w3.alloc (tdo cv1)) = WT3 at *
  clear hkT3
  clear hal
  go_wp2_with (first | ((with_reducible refine td_load ?_ ?_ (kT1) ?_ ct1 ?_ ?_); (· rfl); (· rfl); (· rfl); (· exact T1.out.blk)) | ((with_reducible refine cs_load ?_ ?_ (kT1) ?_ ct1 ?_ ?_); (· rfl); (· rfl); (· rfl); (· exact T1.out.blk)) | ((with_reducible refine td_load ?_ ?_ (kT2) ?_ cu1 ?_ ?_); (· rfl); (· rfl); (· rfl); (· exact T2.out.blk)) | ((with_reducible refine cs_load ?_ ?_ (kT2) ?_ cu1 ?_ ?_); (· rfl); (· rfl); (· rfl); (· exact T2.out.blk)))
  refine (P2.out _).mono ?_; rintro e w4 ⟨rfl, hb⟩
  replace T1 := Lib.hid (T1.out.keep hb)
  replace T2 := Lib.hid (T2.out.keep hb)
  replace T3 := Lib.hid (T3.out.keep hb)
  replace bel := Lib.hid (Bx.then_below bel.out hb)
  clear hb
  have hal := HZ.out
  have hT1T5 : kT1 < w4.heap.size := T1.out.2.1
  have hT2T5 : kT2 < w4.heap.size := T2.out.2.1
  have hT3T5 : kT3 < w4.heap.size := T3.out.2.1
  have hwT5 : w.heap.size ≤ w4.heap.size := bel.out.size
  replace T1 := Lib.hid (T1.out.more (tdo cw1))
  replace T2 := Lib.hid (T2.out.more (tdo cw1))
  replace T3 := Lib.hid (T3.out.more (tdo cw1))
  have T5 : Hid (Bx.Fre (w4.alloc (tdo cw1)) w4.heap.size (tdl cw1)) := Lib.hid (Bx.Fre.new w4 (tdl cw1) 31)
  replace bel := Lib.hid (Bx.bel_box bel.out (tdo cw1))
  go_upto_region 6 with (first | ((with_reducible refine td_fresh ?_ ?_ (w4.heap.size) cw1 ?_ ?_ w4 (tdl Td.zero) ?_ ?_ ?_ ?_); (· rfl); (· rfl); (· rfl); (· rfl); (· exact tdl_len _); (· rfl); (· first | rfl | (simp; done))))
  obtain ⟨kT5, hkT5⟩ : ∃ k, k = w4.heap.size := ⟨_, rfl⟩
  rw [← hkT5] at T5 hT1T5 hT2T5 hT3T5 hwT5 ⊢
  generalize (w4.alloc (tdo cw1)) = WT5 at *
  clear hkT5
  clear hal
  have hbb := hb1.out
  go_wp2_with (first | ((with_reducible refine td_load ?_ ?_ (kT1) ?_ ct1 ?_ ?_); (· rfl); (· rfl); (· rfl); (· exact T1.out.blk)) | ((with_reducible refine cs_load ?_ ?_ (kT1) ?_ ct1 ?_ ?_); (· rfl); (· rfl); (· rfl); (· exact T1.out.blk)))
  clear hbb
  refine (P3.out _).mono ?_; rintro e w5 ⟨rfl, hb⟩
  replace T1 := Lib.hid (T1.out.keep hb)
  replace T2 := Lib.hid (T2.out.keep hb)
  replace T3 := Lib.hid (T3.out.keep hb)
  replace T5 := Lib.hid (T5.out.keep hb)
  replace bel := Lib.hid (Bx.then_below bel.out hb)
  clear hb
  have hal := HZ.out
  have hT1T7 : kT1 < w5.heap.size := T1.out.2.1
  have hT2T7 : kT2 < w5.heap.size := T2.out.2.1
  have hT3T7 : kT3 < w5.heap.size := T3.out.2.1
  have hT5T7 : kT5 < w5.heap.size := T5.out.2.1
  have hwT7 : w.heap.size ≤ w5.heap.size := bel.out.size
  replace T1 := Lib.hid (T1.out.more (tdo cx1))
  replace T2 := Lib.hid (T2.out.more (tdo cx1))
  replace T3 := Lib.hid (T3.out.more (tdo cx1))
  replace T5 := Lib.hid (T5.out.more (tdo cx1))
  have T7 : Hid (Bx.Fre (w5.alloc (tdo cx1)) w5.heap.size (tdl cx1)) := Lib.hid (Bx.Fre.new w5 (tdl cx1) 31)
  replace bel := Lib.hid (Bx.bel_box bel.out (tdo cx1))
  go_upto_region 7 with (first | ((with_reducible refine td_fresh ?_ ?_ (w5.heap.size) cx1 ?_ ?_ w5 (tdl Td.zero) ?_ ?_ ?_ ?_); (· rfl); (· rfl); (· rfl); (· rfl); (· exact tdl_len _); (· rfl); (· first | rfl | (simp; done))))
  obtain ⟨kT7, hkT7⟩ : ∃ k, k = w5.heap.size := ⟨_, rfl⟩
  rw [← hkT7] at T7 hT1T7 hT2T7 hT3T7 hT5T7 hwT7 ⊢
  generalize (w5.alloc (tdo cx1)) = WT7 at *
  clear hkT7
  clear hal
  have hbb := hb2.out
  go_wp2_with (first | ((with_reducible refine td_load ?_ ?_ (kT1) ?_ ct1 ?_ ?_); (· rfl); (· rfl); (· rfl); (· exact T1.out.blk)) | ((with_reducible refine cs_load ?_ ?_ (kT1) ?_ ct1 ?_ ?_); (· rfl); (· rfl); (· rfl); (· exact T1.out.blk)))
  clear hbb
  refine (P4.out _).mono ?_; rintro e w6 ⟨rfl, hb⟩
  replace T1 := Lib.hid (T1.out.keep hb)
  replace T2 := Lib.hid (T2.out.keep hb)
  replace T3 := Lib.hid (T3.out.keep hb)
  replace T5 := Lib.hid (T5.out.keep hb)
  replace T7 := Lib.hid (T7.out.keep hb)
  replace bel := Lib.hid (Bx.then_below bel.out hb)
  clear hb
  have hal := HZ.out
  have hT1T9 : kT1 < w6.heap.size := T1.out.2.1
  have hT2T9 : kT2 < w6.heap.size := T2.out.2.1
  have hT3T9 : kT3 < w6.heap.size := T3.out.2.1
  have hT5T9 : kT5 < w6.heap.size := T5.out.2.1
  have hT7T9 : kT7 < w6.heap.size := T7.out.2.1
  have hwT9 : w.heap.size ≤ w6.heap.size := bel.out.size
  replace T1 := Lib.hid (T1.out.more (tdo cx2))
  replace T2 := Lib.hid (T2.out.more (tdo cx2))
  replace T3 := Lib.hid (T3.out.more (tdo cx2))
  replace T5 := Lib.hid (T5.out.more (tdo cx2))
  replace T7 := Lib.hid (T7.out.more (tdo cx2))
  have T9 : Hid (Bx.Fre (w6.alloc (tdo cx2)) w6.heap.size (tdl cx2)) := Lib.hid (Bx.Fre.new w6 (tdl cx2) 31)
  replace bel := Lib.hid (Bx.bel_box bel.out (tdo cx2))
  go_upto_region 8 with (first | ((with_reducible refine td_fresh ?_ ?_ (w6.heap.size) cx2 ?_ ?_ w6 (tdl Td.zero) ?_ ?_ ?_ ?_); (· rfl); (· rfl); (· rfl); (· rfl); (· exact tdl_len _); (· rfl); (· first | rfl | (simp; done))))
  obtain ⟨kT9, hkT9⟩ : ∃ k, k = w6.heap.size := ⟨_, rfl⟩
  rw [← hkT9] at T9 hT1T9 hT2T9 hT3T9 hT5T9 hT7T9 hwT9 ⊢
  generalize (w6.alloc (tdo cx2)) = WT9 at *
  clear hkT9
  have X2 := T2
  have hT1T11 : kT1 < WT9.heap.size := T1.out.2.1
  have hT2T11 : kT2 < WT9.heap.size := T2.out.2.1
  have hT3T11 : kT3 < WT9.heap.size := T3.out.2.1
  have hT5T11 : kT5 < WT9.heap.size := T5.out.2.1
  have hT7T11 : kT7 < WT9.heap.size := T7.out.2.1
  have hT9T11 : kT9 < WT9.heap.size := T9.out.2.1
  have hwT11 : w.heap.size ≤ WT9.heap.size := bel.out.size
  replace T1 := Lib.hid (T1.out.more (tdo cu1))
  replace T2 := Lib.hid (T2.out.more (tdo cu1))
  replace T3 := Lib.hid (T3.out.more (tdo cu1))
  replace T5 := Lib.hid (T5.out.more (tdo cu1))
  replace T7 := Lib.hid (T7.out.more (tdo cu1))
  replace T9 := Lib.hid (T9.out.more (tdo cu1))
  have T11 : Hid (Bx.Fre (WT9.alloc (tdo cu1)) WT9.heap.size (tdl cu1)) := Lib.hid (Bx.Fre.new WT9 (tdl cu1) 31)
  replace bel := Lib.hid (Bx.bel_box bel.out (tdo cu1))
  go_upto_region 9 with (first | ((with_reducible refine td_fresh ?_ ?_ (WT9.heap.size) cu1 ?_ ?_ WT9 (tdl Td.zero) ?_ ?_ ?_ ?_); (· rfl); (· rfl); (· rfl); (· rfl); (· exact tdl_len _); (· rfl); (· first | rfl | (simp; done))) | ((with_reducible refine td_load ?_ ?_ (kT2) ?_ cu1 ?_ ?_); (· rfl); (· rfl); (· rfl); (· exact X2.out.blk)))
  obtain ⟨kT11, hkT11⟩ : ∃ k, k = WT9.heap.size := ⟨_, rfl⟩
  rw [← hkT11] at T11 hT1T11 hT2T11 hT3T11 hT5T11 hT7T11 hT9T11 hwT11 ⊢
  generalize (WT9.alloc (tdo cu1)) = WT11 at *
  clear hkT11
  clear X2 hal
  have q9 := cord_cell (x := cu1) T11.out.blk 2 2 (by omega) (by omega) (v := .bool (cu1.cs 2).edge) rfl
  have f9 := T11.out.2.2 78
  replace q9 : WT11.cell? ⟨kT11, 78, none⟩ = some (.bool (cu1.cs 2).edge) := q9
  replace T1 := Lib.hid (T1.out.other (k' := kT11) (o := 78) (x := .bool true) (by omega))
  replace T2 := Lib.hid (T2.out.other (k' := kT11) (o := 78) (x := .bool true) (by omega))
  replace T3 := Lib.hid (T3.out.other (k' := kT11) (o := 78) (x := .bool true) (by omega))
  replace T5 := Lib.hid (T5.out.other (k' := kT11) (o := 78) (x := .bool true) (by omega))
  replace T7 := Lib.hid (T7.out.other (k' := kT11) (o := 78) (x := .bool true) (by omega))
  replace T9 := Lib.hid (T9.out.other (k' := kT11) (o := 78) (x := .bool true) (by omega))
  replace bel := Lib.hid (Bx.bel_set (k := kT11) (o := 78) (x := .bool true) (by omega) bel.out)
  replace T11 := Lib.hid ((T11.out.set (78) (.bool true)).of (m := (tdl ce1)) (tdl_set cu1 2 2 (by omega) (by omega) _ { cu1.cs 2 with edge := true } rfl))
  go_upto_region 10 with fail
  clear q9 f9
  generalize (WT11.setCell ⟨kT11, 78, none⟩ (.bool true)) = W10 at *
  go_wp2_with (first | ((with_reducible refine td_load ?_ ?_ (kT1) ?_ ct1 ?_ ?_); (· rfl); (· rfl); (· rfl); (· exact T1.out.blk)) | ((with_reducible refine cs_load ?_ ?_ (kT1) ?_ ct1 ?_ ?_); (· rfl); (· rfl); (· rfl); (· exact T1.out.blk)) | ((with_reducible refine td_load ?_ ?_ (kT11) ?_ ce1 ?_ ?_); (· rfl); (· rfl); (· rfl); (· exact T11.out.blk)) | ((with_reducible refine cs_load ?_ ?_ (kT11) ?_ ce1 ?_ ?_); (· rfl); (· rfl); (· rfl); (· exact T11.out.blk)))
  refine (P5.out _).mono ?_; rintro e w7 ⟨rfl, hb⟩
  replace T1 := Lib.hid (T1.out.keep hb)
  replace T2 := Lib.hid (T2.out.keep hb)
  replace T3 := Lib.hid (T3.out.keep hb)
  replace T5 := Lib.hid (T5.out.keep hb)
  replace T7 := Lib.hid (T7.out.keep hb)
  replace T9 := Lib.hid (T9.out.keep hb)
  replace T11 := Lib.hid (T11.out.keep hb)
  replace bel := Lib.hid (Bx.then_below bel.out hb)
  clear hb
  have hal := HZ.out
  have hT1T12 : kT1 < w7.heap.size := T1.out.2.1
  have hT2T12 : kT2 < w7.heap.size := T2.out.2.1
  have hT3T12 : kT3 < w7.heap.size := T3.out.2.1
  have hT5T12 : kT5 < w7.heap.size := T5.out.2.1
  have hT7T12 : kT7 < w7.heap.size := T7.out.2.1
  have hT9T12 : kT9 < w7.heap.size := T9.out.2.1
  have hT11T12 : kT11 < w7.heap.size := T11.out.2.1
  have hwT12 : w.heap.size ≤ w7.heap.size := bel.out.size
  replace T1 := Lib.hid (T1.out.more (tdo cj1))
  replace T2 := Lib.hid (T2.out.more (tdo cj1))
  replace T3 := Lib.hid (T3.out.more (tdo cj1))
  replace T5 := Lib.hid (T5.out.more (tdo cj1))
  replace T7 := Lib.hid (T7.out.more (tdo cj1))
  replace T9 := Lib.hid (T9.out.more (tdo cj1))
  replace T11 := Lib.hid (T11.out.more (tdo cj1))
  have T12 : Hid (Bx.Fre (w7.alloc (tdo cj1)) w7.heap.size (tdl cj1)) := Lib.hid (Bx.Fre.new w7 (tdl cj1) 31)
  replace bel := Lib.hid (Bx.bel_box bel.out (tdo cj1))
  go_upto_region 11 with (first | ((with_reducible refine td_fresh ?_ ?_ (w7.heap.size) cj1 ?_ ?_ w7 (tdl Td.zero) ?_ ?_ ?_ ?_); (· rfl); (· rfl); (· rfl); (· rfl); (· exact tdl_len _); (· rfl); (· first | rfl | (simp; done))))
  obtain ⟨kT12, hkT12⟩ : ∃ k, k = w7.heap.size := ⟨_, rfl⟩
  rw [← hkT12] at T12 hT1T12 hT2T12 hT3T12 hT5T12 hT7T12 hT9T12 hT11T12 hwT12 ⊢
  generalize (w7.alloc (tdo cj1)) = WT12 at *
  clear hkT12
  clear hal
  have a1 : WT12.cell? ⟨kT3, 41, none⟩ = some (.int .i64 2) := by have h := cord_cell T3.out.blk 0 27 (by omega) (by omega) (v := .int .i64 (cv1.cs 0).chg) rfl; rw [hv2.out] at h; exact h
  have a2 : WT12.cell? ⟨kT3, 103, none⟩ = some (.int .i64 2) := by have h := cord_cell T3.out.blk 2 27 (by omega) (by omega) (v := .int .i64 (cv1.cs 2).chg) rfl; rw [hv3.out] at h; exact h
  have a3 : WT12.cell? ⟨kT7, 68, none⟩ = some (.bool true) := by have h := cord_cell T7.out.blk 1 23 (by omega) (by omega) (v := .bool (cx1.cs 1).ack) rfl; rw [hx2.out] at h; exact h
  have a4 : WT12.cell? ⟨kT7, 72, none⟩ = some (.int .i64 0) := by have h := cord_cell T7.out.blk 1 27 (by omega) (by omega) (v := .int .i64 (cx1.cs 1).chg) rfl; rw [hx3.out] at h; exact h
  have a5 : WT12.cell? ⟨kT7, 41, none⟩ = some (.int .i64 2) := by have h := cord_cell T7.out.blk 0 27 (by omega) (by omega) (v := .int .i64 (cx1.cs 0).chg) rfl; rw [hx4.out] at h; exact h
  simp only [List.append_eq, List.cons_append, List.nil_append]
  have hyy := hy.out
  have hyg := fun op a b w => Tre.tguard_at op a b cw1 ct1 w
  go_wp2_with (first | ((with_reducible refine td_load ?_ ?_ (kT1) ?_ ct1 ?_ ?_); (· rfl); (· rfl); (· rfl); (· exact T1.out.blk)) | ((with_reducible refine cs_load ?_ ?_ (kT1) ?_ ct1 ?_ ?_); (· rfl); (· rfl); (· rfl); (· exact T1.out.blk)) | ((with_reducible refine td_load ?_ ?_ (kT5) ?_ cw1 ?_ ?_); (· rfl); (· rfl); (· rfl); (· exact T5.out.blk)) | ((with_reducible refine cs_load ?_ ?_ (kT5) ?_ cw1 ?_ ?_); (· rfl); (· rfl); (· rfl); (· exact T5.out.blk)))
  clear a1 a2 a3 a4 a5 hyy hyg
  refine (P6.out _).mono ?_; rintro e w8 ⟨rfl, hb⟩
  replace T1 := Lib.hid (T1.out.keep hb)
  replace T2 := Lib.hid (T2.out.keep hb)
  replace T3 := Lib.hid (T3.out.keep hb)
  replace T5 := Lib.hid (T5.out.keep hb)
  replace T7 := Lib.hid (T7.out.keep hb)
  replace T9 := Lib.hid (T9.out.keep hb)
  replace T11 := Lib.hid (T11.out.keep hb)
  replace T12 := Lib.hid (T12.out.keep hb)
  replace bel := Lib.hid (Bx.then_below bel.out hb)
  clear hb
  go_wp2_with (first | ((with_reducible refine td_load ?_ ?_ (kT1) ?_ ct1 ?_ ?_); (· rfl); (· rfl); (· rfl); (· exact T1.out.blk)) | ((with_reducible refine cs_load ?_ ?_ (kT1) ?_ ct1 ?_ ?_); (· rfl); (· rfl); (· rfl); (· exact T1.out.blk)))
  refine (P7.out _).mono ?_; rintro e w9 ⟨rfl, hb⟩
  replace T1 := Lib.hid (T1.out.keep hb)
  replace T2 := Lib.hid (T2.out.keep hb)
  replace T3 := Lib.hid (T3.out.keep hb)
  replace T5 := Lib.hid (T5.out.keep hb)
  replace T7 := Lib.hid (T7.out.keep hb)
  replace T9 := Lib.hid (T9.out.keep hb)
  replace T11 := Lib.hid (T11.out.keep hb)
  replace T12 := Lib.hid (T12.out.keep hb)
  replace bel := Lib.hid (Bx.then_below bel.out hb)
  clear hb
  have hfd2 := hfd.out
  have hix2 := hix.out
  have hfc2 := hfc.out
  go_wp2_with fail
  go_ret
  exact ⟨rfl, bel.out⟩

end Chg
end Go.Proofs.Ytkjdnmlaehjmgaa
