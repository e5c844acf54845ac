/-
  The statement ChangeSays: for all bridges and every Case the law ChangeSays returns true, and its arguments read afterwards as they read before.
-/
import Derived.Test.YtkjdnmlaehjmgaaChgF
import Derived.Test.YtkjdnmlaehjmgaaChgOpen
import Derived.Test.YtkjdnmlaehjmgaaTreOpen
import Derived.Test.YtkjdnmlaehjmgaaFrame
import Derived.Test.YtkjdnmlaehjmgaaRows
import Derived.Deep.CutBlock
namespace Go.Proofs.Ytkjdnmlaehjmgaa
open Go.RowKit
namespace Chg
open Pre Crd Tre Elt Rip

set_option maxRecDepth 40000 in
set_option maxHeartbeats 8000000 in
theorem walk_says (w : World) (a y : Td) (p s : Int) (b : Bd) : Calls Try.prog 3 #[tdv a, tdv y, cav p s b] w fun e w' => e = .returned (.bool true) ∧ Below w.heap.size w w' := by
  have HF : Hid (∀ w, Calls Try.prog 5 #[tdv a, tdv y] w fun e w' => e = .returned (.tuple #[tdv (flN a y 8).1, .int .i64 (((flN a y 8).2 : Nat) : Int)]) ∧ Below w.heap.size w w') := Lib.hid (flush_any a y)
  have RF : Hid (∀ w, Calls Try.prog 6 #[tdv a, tdv y] w fun e w' => e = .returned (.tuple #[tdv (flN a y 8).1, .int .i64 (((flN a y 8).2 : Nat) : Int)]) ∧ Below w.heap.size w w') := Lib.hid (rflush_any a y)
  have HH : Hid (∀ w, Calls Try.prog 7 #[tdv a, .int .i64 p, bdv b] w fun e w' => e = .returned (.tuple #[tdv (herI a p b).1, .int .i64 (((herI a p b).2 : Nat) : Int)]) ∧ Below w.heap.size w w') := Lib.hid (hear_all a p b)
  have RH : Hid (∀ w, Calls Try.prog 8 #[tdv a, .int .i64 p, bdv b] w fun e w' => e = .returned (.tuple #[tdv (herI a p b).1, .int .i64 (((herI a p b).2 : Nat) : Int)]) ∧ Below w.heap.size w w') := Lib.hid (rhear_all a p b)
  have HP : Hid (∀ w, Calls Try.prog 9 #[tdv a, .int .i64 p] w fun e w' => e = .returned (.int .i64 ((prtI a p : Nat) : Int)) ∧ Below w.heap.size w w') := Lib.hid (ports_any a p)
  have RP : Hid (∀ w, Calls Try.prog 10 #[tdv a, .int .i64 p] w fun e w' => e = .returned (.int .i64 ((prtI a p : Nat) : Int)) ∧ Below w.heap.size w w') := Lib.hid (rports_any a p)
  have HS : Hid (∀ w, Calls Try.prog 11 #[tdv a, .int .i64 s] w fun e w' => e = .returned (tdv (strT a s)) ∧ Below w.heap.size w w') := Lib.hid (start_any a s)
  have RS : Hid (∀ w, Calls Try.prog 12 #[tdv a, .int .i64 s] w fun e w' => e = .returned (tdv (strT a s)) ∧ Below w.heap.size w w') := Lib.hid (rstart_any a s)
  generalize (flN a y 8).1 = u at HF RF
  generalize (((flN a y 8).2 : Nat) : Int) = f at HF RF
  generalize (herI a p b).1 = v at HH RH
  generalize (((herI a p b).2 : Nat) : Int) = h at HH RH
  generalize ((prtI a p : Nat) : Int) = n at HP RP
  generalize strT a s = z at HS RS
  have HW := Lib.hid awake_any
  have HZ := Lib.hid (@zero_at)
  have T0 : Hid (Bx.Fre (w.alloc (tdo a)) w.heap.size (tdl a)) := Lib.hid (Bx.Fre.new w (tdl a) 31)
  have bel := Lib.hid (Bx.box_below w (tdo a))
  replace T0 := Lib.hid (T0.out.more (tdo y))
  have T1 : Hid (Bx.Fre ((w.alloc (tdo a)).alloc (tdo y)) (w.heap.size + 1) (tdl y)) := Lib.hid (Bx.Fre.new_at (W := (w.alloc (tdo a))) (k := w.heap.size + 1) (tdl y) 31 (by simp))
  replace bel := Lib.hid (Bx.bel_box bel.out (tdo y))
  replace T0 := Lib.hid (T0.out.more (cao p s b))
  replace T1 := Lib.hid (T1.out.more (cao p s b))
  have C2 : Hid (Bx.Fre (((w.alloc (tdo a)).alloc (tdo y)).alloc (cao p s b)) (w.heap.size + 1 + 1) (cal p s b)) := Lib.hid (Bx.Fre.new_at (W := ((w.alloc (tdo a)).alloc (tdo y))) (k := w.heap.size + 1 + 1) (cal p s b) 35 (by simp))
  replace bel := Lib.hid (Bx.bel_box bel.out (cao p s b))
  go_enter Try.func3, Try.ntmps3
  go_upto_region 1 with fail
  generalize (((w.alloc (tdo a)).alloc (tdo y)).alloc (cao p s b)) = W0 at *
  go_wp2_with (first | ((with_reducible refine td_load ?_ ?_ (w.heap.size) ?_ a ?_ ?_); (· rfl); (· rfl); (· rfl); (· exact T0.out.blk)) | ((with_reducible refine cs_load ?_ ?_ (w.heap.size) ?_ a ?_ ?_); (· rfl); (· rfl); (· rfl); (· exact T0.out.blk)) | ((with_reducible refine td_load ?_ ?_ (w.heap.size + 1) ?_ y ?_ ?_); (· rfl); (· rfl); (· rfl); (· exact T1.out.blk)) | ((with_reducible refine cs_load ?_ ?_ (w.heap.size + 1) ?_ y ?_ ?_); (· rfl); (· rfl); (· rfl); (· exact T1.out.blk)))
  refine (HF.out _).mono ?_; rintro e w1 ⟨rfl, hb⟩
  replace T0 := Lib.hid (T0.out.keep hb)
  replace T1 := Lib.hid (T1.out.keep hb)
  replace C2 := Lib.hid (C2.out.keep hb)
  replace bel := Lib.hid (Bx.then_below bel.out hb)
  clear hb
  have hal := HZ.out
  have hT0T7 : w.heap.size < w1.heap.size := T0.out.2.1
  have hT1T7 : w.heap.size + 1 < w1.heap.size := T1.out.2.1
  have hC2T7 : w.heap.size + 1 + 1 < w1.heap.size := C2.out.2.1
  have hwT7 : w.heap.size ≤ w1.heap.size := bel.out.size
  replace T0 := Lib.hid (T0.out.more (tdo u))
  replace T1 := Lib.hid (T1.out.more (tdo u))
  replace C2 := Lib.hid (C2.out.more (tdo u))
  have T7 : Hid (Bx.Fre (w1.alloc (tdo u)) w1.heap.size (tdl u)) := Lib.hid (Bx.Fre.new w1 (tdl u) 31)
  replace bel := Lib.hid (Bx.bel_box bel.out (tdo u))
  go_upto_region 2 with (first | ((with_reducible refine td_fresh ?_ ?_ (w1.heap.size) u ?_ ?_ w1 (tdl Td.zero) ?_ ?_ ?_ ?_); (· rfl); (· rfl); (· rfl); (· rfl); (· exact tdl_len _); (· rfl); (· first | rfl | (simp; done))))
  obtain ⟨kT7, hkT7⟩ : ∃ k, k = w1.heap.size := ⟨_, rfl⟩
  rw [← hkT7] at T7 hT0T7 hT1T7 hC2T7 hwT7 ⊢
  generalize (w1.alloc (tdo u)) = WT7 at *
  clear hkT7
  clear hal
  go_wp2_with (first | ((with_reducible refine td_load ?_ ?_ (w.heap.size) ?_ a ?_ ?_); (· rfl); (· rfl); (· rfl); (· exact T0.out.blk)) | ((with_reducible refine cs_load ?_ ?_ (w.heap.size) ?_ a ?_ ?_); (· rfl); (· rfl); (· rfl); (· exact T0.out.blk)) | ((with_reducible refine td_load ?_ ?_ (w.heap.size + 1) ?_ y ?_ ?_); (· rfl); (· rfl); (· rfl); (· exact T1.out.blk)) | ((with_reducible refine cs_load ?_ ?_ (w.heap.size + 1) ?_ y ?_ ?_); (· rfl); (· rfl); (· rfl); (· exact T1.out.blk)))
  refine (RF.out _).mono ?_; rintro e w2 ⟨rfl, hb⟩
  replace T0 := Lib.hid (T0.out.keep hb)
  replace T1 := Lib.hid (T1.out.keep hb)
  replace C2 := Lib.hid (C2.out.keep hb)
  replace T7 := Lib.hid (T7.out.keep hb)
  replace bel := Lib.hid (Bx.then_below bel.out hb)
  clear hb
  have hal := HZ.out
  have hT0T9 : w.heap.size < w2.heap.size := T0.out.2.1
  have hT1T9 : w.heap.size + 1 < w2.heap.size := T1.out.2.1
  have hC2T9 : w.heap.size + 1 + 1 < w2.heap.size := C2.out.2.1
  have hT7T9 : kT7 < w2.heap.size := T7.out.2.1
  have hwT9 : w.heap.size ≤ w2.heap.size := bel.out.size
  replace T0 := Lib.hid (T0.out.more (tdo u))
  replace T1 := Lib.hid (T1.out.more (tdo u))
  replace C2 := Lib.hid (C2.out.more (tdo u))
  replace T7 := Lib.hid (T7.out.more (tdo u))
  have T9 : Hid (Bx.Fre (w2.alloc (tdo u)) w2.heap.size (tdl u)) := Lib.hid (Bx.Fre.new w2 (tdl u) 31)
  replace bel := Lib.hid (Bx.bel_box bel.out (tdo u))
  go_upto_region 3 with (first | ((with_reducible refine td_fresh ?_ ?_ (w2.heap.size) u ?_ ?_ w2 (tdl Td.zero) ?_ ?_ ?_ ?_); (· rfl); (· rfl); (· rfl); (· rfl); (· exact tdl_len _); (· rfl); (· first | rfl | (simp; done))))
  obtain ⟨kT9, hkT9⟩ : ∃ k, k = w2.heap.size := ⟨_, rfl⟩
  rw [← hkT9] at T9 hT0T9 hT1T9 hC2T9 hT7T9 hwT9 ⊢
  generalize (w2.alloc (tdo u)) = WT9 at *
  clear hkT9
  clear hal
  have C2_0 := C2.out.at 0 rfl
  go_wp2_with (first | ((with_reducible refine ca_load ?_ ?_ (w.heap.size + 1 + 1) ?_ p s b ?_ ?_); (· rfl); (· rfl); (· rfl); (· exact C2.out.blk)) | ((with_reducible refine td_load ?_ ?_ (w.heap.size) ?_ a ?_ ?_); (· rfl); (· rfl); (· rfl); (· exact T0.out.blk)) | ((with_reducible refine cs_load ?_ ?_ (w.heap.size) ?_ a ?_ ?_); (· rfl); (· rfl); (· rfl); (· exact T0.out.blk)))
  clear C2_0
  refine (HH.out _).mono ?_; rintro e w3 ⟨rfl, hb⟩
  replace T0 := Lib.hid (T0.out.keep hb)
  replace T1 := Lib.hid (T1.out.keep hb)
  replace C2 := Lib.hid (C2.out.keep hb)
  replace T7 := Lib.hid (T7.out.keep hb)
  replace T9 := Lib.hid (T9.out.keep hb)
  replace bel := Lib.hid (Bx.then_below bel.out hb)
  clear hb
  have hal := HZ.out
  have hT0T11 : w.heap.size < w3.heap.size := T0.out.2.1
  have hT1T11 : w.heap.size + 1 < w3.heap.size := T1.out.2.1
  have hC2T11 : w.heap.size + 1 + 1 < w3.heap.size := C2.out.2.1
  have hT7T11 : kT7 < w3.heap.size := T7.out.2.1
  have hT9T11 : kT9 < w3.heap.size := T9.out.2.1
  have hwT11 : w.heap.size ≤ w3.heap.size := bel.out.size
  replace T0 := Lib.hid (T0.out.more (tdo v))
  replace T1 := Lib.hid (T1.out.more (tdo v))
  replace C2 := Lib.hid (C2.out.more (tdo v))
  replace T7 := Lib.hid (T7.out.more (tdo v))
  replace T9 := Lib.hid (T9.out.more (tdo v))
  have T11 : Hid (Bx.Fre (w3.alloc (tdo v)) w3.heap.size (tdl v)) := Lib.hid (Bx.Fre.new w3 (tdl v) 31)
  replace bel := Lib.hid (Bx.bel_box bel.out (tdo v))
  go_upto_region 4 with (first | ((with_reducible refine td_fresh ?_ ?_ (w3.heap.size) v ?_ ?_ w3 (tdl Td.zero) ?_ ?_ ?_ ?_); (· rfl); (· rfl); (· rfl); (· rfl); (· exact tdl_len _); (· rfl); (· first | rfl | (simp; done))))
  obtain ⟨kT11, hkT11⟩ : ∃ k, k = w3.heap.size := ⟨_, rfl⟩
  rw [← hkT11] at T11 hT0T11 hT1T11 hC2T11 hT7T11 hT9T11 hwT11 ⊢
  generalize (w3.alloc (tdo v)) = WT11 at *
  clear hkT11
  clear hal
  have C2_0 := C2.out.at 0 rfl
  go_wp2_with (first | ((with_reducible refine ca_load ?_ ?_ (w.heap.size + 1 + 1) ?_ p s b ?_ ?_); (· rfl); (· rfl); (· rfl); (· exact C2.out.blk)) | ((with_reducible refine td_load ?_ ?_ (w.heap.size) ?_ a ?_ ?_); (· rfl); (· rfl); (· rfl); (· exact T0.out.blk)) | ((with_reducible refine cs_load ?_ ?_ (w.heap.size) ?_ a ?_ ?_); (· rfl); (· rfl); (· rfl); (· exact T0.out.blk)))
  clear C2_0
  refine (RH.out _).mono ?_; rintro e w4 ⟨rfl, hb⟩
  replace T0 := Lib.hid (T0.out.keep hb)
  replace T1 := Lib.hid (T1.out.keep hb)
  replace C2 := Lib.hid (C2.out.keep hb)
  replace T7 := Lib.hid (T7.out.keep hb)
  replace T9 := Lib.hid (T9.out.keep hb)
  replace T11 := Lib.hid (T11.out.keep hb)
  replace bel := Lib.hid (Bx.then_below bel.out hb)
  clear hb
  have hal := HZ.out
  have hT0T13 : w.heap.size < w4.heap.size := T0.out.2.1
  have hT1T13 : w.heap.size + 1 < w4.heap.size := T1.out.2.1
  have hC2T13 : w.heap.size + 1 + 1 < w4.heap.size := C2.out.2.1
  have hT7T13 : kT7 < w4.heap.size := T7.out.2.1
  have hT9T13 : kT9 < w4.heap.size := T9.out.2.1
  have hT11T13 : kT11 < w4.heap.size := T11.out.2.1
  have hwT13 : w.heap.size ≤ w4.heap.size := bel.out.size
  replace T0 := Lib.hid (T0.out.more (tdo v))
  replace T1 := Lib.hid (T1.out.more (tdo v))
  replace C2 := Lib.hid (C2.out.more (tdo v))
  replace T7 := Lib.hid (T7.out.more (tdo v))
  replace T9 := Lib.hid (T9.out.more (tdo v))
  replace T11 := Lib.hid (T11.out.more (tdo v))
  have T13 : Hid (Bx.Fre (w4.alloc (tdo v)) w4.heap.size (tdl v)) := Lib.hid (Bx.Fre.new w4 (tdl v) 31)
  replace bel := Lib.hid (Bx.bel_box bel.out (tdo v))
  go_upto_region 5 with (first | ((with_reducible refine td_fresh ?_ ?_ (w4.heap.size) v ?_ ?_ w4 (tdl Td.zero) ?_ ?_ ?_ ?_); (· rfl); (· rfl); (· rfl); (· rfl); (· exact tdl_len _); (· rfl); (· first | rfl | (simp; done))))
  obtain ⟨kT13, hkT13⟩ : ∃ k, k = w4.heap.size := ⟨_, rfl⟩
  rw [← hkT13] at T13 hT0T13 hT1T13 hC2T13 hT7T13 hT9T13 hT11T13 hwT13 ⊢
  generalize (w4.alloc (tdo v)) = WT13 at *
  clear hkT13
  clear hal
  have hy0 := fun w => tself_at z w
  have hg0 := fun op a b w => Tre.tguard_at op a b z z w
  have hy1 := fun w => tself_at u w
  have hg1 := fun op a b w => Tre.tguard_at op a b u u w
  have hy2 := fun w => tself_at v w
  have hg2 := fun op a b w => Tre.tguard_at op a b v v w
  have qn : (n == n) = true := by simp
  have qf : (f == f) = true := by simp
  have qh : (h == h) = true := by simp
  refine wp_region_noPanic ?_
  refine wp_region_held_drew (S := fun w' => Bx.Blk w' w.heap.size (tdl a) ∧ w'.cell? ⟨w.heap.size + 1 + 1, 0, none⟩ = some (.int .i64 p) ∧ w'.cell? ⟨w.heap.size + 1 + 1, 1, none⟩ = some (.int .i64 s) ∧ Bx.Blk w' kT7 (tdl u) ∧ Bx.Blk w' kT9 (tdl u) ∧ Bx.Blk w' kT11 (tdl v) ∧ Bx.Blk w' kT13 (tdl v)) (by kernel_rfl) (by exact ⟨T0.out.blk, C2.out.at 0 rfl, C2.out.at 1 rfl, T7.out.blk, T9.out.blk, T11.out.blk, T13.out.blk⟩) (fun hHeld => ?_)
  replace bel := Lib.hid (Bx.bel_drewn bel.out)
  refine wpAnyH_take (i := 0) (oi := ?oz1x0) (v := tdv a) ?hiz1x0 (by kernel_rfl) (by kernel_rfl) (by kernel_rfl) (fun _ _ _ h => h) ?yz1x0 (by assumption) ?rz1x0
  case hiz1x0 => (simp only [List.getElem?_toArray, List.getElem?_cons_zero]; rfl)
  case yz1x0 => (refine td_yields rfl rfl (w.heap.size) rfl a ?_; intro w' hS; exact hS.1)
  try simp only [Act.put, List.setIfInBounds_toArray, List.set_cons_zero, List.set_cons_succ]
  refine wpAnyH_take (i := 1) (oi := ?oz1x1) (v := ?vz1x1) ?hiz1x1 (by kernel_rfl) (by kernel_rfl) (by kernel_rfl) (fun _ _ _ h => h) ?yz1x1 (by assumption) ?rz1x1
  case hiz1x1 => (simp only [List.getElem?_toArray, List.getElem?_cons_succ, List.getElem?_cons_zero]; rfl)
  case yz1x1 => (refine Or.inl ⟨by rfl, ?_⟩; intro w' hSw; (try dsimp only at hSw); go_simp; (try with_reducible rfl))
  try simp only [Act.put, List.setIfInBounds_toArray, List.set_cons_zero, List.set_cons_succ]
  refine wpAnyH_take (i := 2) (oi := ?oz1x2) (v := ?vz1x2) ?hiz1x2 (by kernel_rfl) (by kernel_rfl) (by kernel_rfl) (fun _ _ _ h => h) ?yz1x2 (by assumption) ?rz1x2
  case hiz1x2 => (simp only [List.getElem?_toArray, List.getElem?_cons_succ, List.getElem?_cons_zero]; rfl)
  case yz1x2 => (refine Or.inl ⟨by rfl, ?_⟩; intro w' hSw; (try dsimp only at hSw); go_simp; (try with_reducible rfl))
  try simp only [Act.put, List.setIfInBounds_toArray, List.set_cons_zero, List.set_cons_succ]
  refine wpAnyH_take (i := 4) (oi := ?oz1x4) (v := tdv a) ?hiz1x4 (by kernel_rfl) (by kernel_rfl) (by kernel_rfl) (fun _ _ _ h => h) ?yz1x4 (by assumption) ?rz1x4
  case hiz1x4 => (simp only [List.getElem?_toArray, List.getElem?_cons_succ, List.getElem?_cons_zero]; rfl)
  case yz1x4 => (refine td_yields rfl rfl (w.heap.size) rfl a ?_; intro w' hS; exact hS.1)
  try simp only [Act.put, List.setIfInBounds_toArray, List.set_cons_zero, List.set_cons_succ]
  refine wpAnyH_take (i := 5) (oi := ?oz1x5) (v := ?vz1x5) ?hiz1x5 (by kernel_rfl) (by kernel_rfl) (by kernel_rfl) (fun _ _ _ h => h) ?yz1x5 (by assumption) ?rz1x5
  case hiz1x5 => (simp only [List.getElem?_toArray, List.getElem?_cons_succ, List.getElem?_cons_zero]; rfl)
  case yz1x5 => (refine Or.inl ⟨by rfl, ?_⟩; intro w' hSw; (try dsimp only at hSw); go_simp; (try with_reducible rfl))
  try simp only [Act.put, List.setIfInBounds_toArray, List.set_cons_zero, List.set_cons_succ]
  refine wpAnyH_take (i := 6) (oi := ?oz1x6) (v := ?vz1x6) ?hiz1x6 (by kernel_rfl) (by kernel_rfl) (by kernel_rfl) (fun _ _ _ h => h) ?yz1x6 (by assumption) ?rz1x6
  case hiz1x6 => (simp only [List.getElem?_toArray, List.getElem?_cons_succ, List.getElem?_cons_zero]; rfl)
  case yz1x6 => (refine Or.inl ⟨by rfl, ?_⟩; intro w' hSw; (try dsimp only at hSw); go_simp; (try with_reducible rfl))
  try simp only [Act.put, List.setIfInBounds_toArray, List.set_cons_zero, List.set_cons_succ]
  refine wpAnyH_ready (rs := [3]) (by kernel_rfl) (by simp) ?_
  refine AllReadyH.cons (o := ?oz1x3) ?hiz1x3 ?hstz1x3 AllReadyH.nil
  case hiz1x3 => (simp only [List.getElem?_toArray, List.getElem?_cons_succ, List.getElem?_cons_zero]; rfl)
  intro K hK
  go_simp
  (go_at_call 9; (with_reducible refine (HP.out _).mono ?_); rintro e w21 ⟨rfl, hb21⟩)
  go_wp2_with fail
  refine hK.out _ _ ⟨Bx.Blk.keep hHeld.1 hb21, Bx.keep_cell hb21 hHeld.2.1, Bx.keep_cell hb21 hHeld.2.2.1, Bx.Blk.keep hHeld.2.2.2.1 hb21, Bx.Blk.keep hHeld.2.2.2.2.1 hb21, Bx.Blk.keep hHeld.2.2.2.2.2.1 hb21, Bx.Blk.keep hHeld.2.2.2.2.2.2 hb21⟩ (fun hNew => ?_)
  clear hHeld
  have hHeld := hNew
  clear hNew hK K
  replace bel := Lib.hid (Bx.then_below bel.out hb21)
  clear hb21
  refine wpAnyH_ready (rs := [7]) (by kernel_rfl) (by simp) ?_
  refine AllReadyH.cons (o := ?oz1x7) ?hiz1x7 ?hstz1x7 AllReadyH.nil
  case hiz1x7 => (simp only [List.getElem?_toArray, List.getElem?_cons_succ, List.getElem?_cons_zero]; rfl)
  intro K hK
  go_simp
  (go_at_call 10; (with_reducible refine (RP.out _).mono ?_); rintro e w22 ⟨rfl, hb22⟩)
  go_wp2_with fail
  refine hK.out _ _ ⟨Bx.Blk.keep hHeld.1 hb22, Bx.keep_cell hb22 hHeld.2.1, Bx.keep_cell hb22 hHeld.2.2.1, Bx.Blk.keep hHeld.2.2.2.1 hb22, Bx.Blk.keep hHeld.2.2.2.2.1 hb22, Bx.Blk.keep hHeld.2.2.2.2.2.1 hb22, Bx.Blk.keep hHeld.2.2.2.2.2.2 hb22⟩ (fun hNew => ?_)
  clear hHeld
  have hHeld := hNew
  clear hNew hK K
  replace bel := Lib.hid (Bx.then_below bel.out hb22)
  clear hb22
  refine wpAnyH_take (i := 8) (oi := ?oz1x8) (v := ?vz1x8) ?hiz1x8 (by kernel_rfl) (by kernel_rfl) (by kernel_rfl) (fun _ _ _ h => h) ?yz1x8 (by assumption) ?rz1x8
  case hiz1x8 => (simp only [List.getElem?_toArray, List.getElem?_cons_succ, List.getElem?_cons_zero]; rfl)
  case yz1x8 => (refine Or.inl ⟨by rfl, ?_⟩; intro w' hSw; (try dsimp only at hSw); go_simp; (try with_reducible rfl))
  try simp only [Act.put, List.setIfInBounds_toArray, List.set_cons_zero, List.set_cons_succ]
  refine wpAnyH_take (i := 9) (oi := ?oz1x9) (v := ?vz1x9) ?hiz1x9 (by kernel_rfl) (by kernel_rfl) (by kernel_rfl) (fun _ _ _ h => h) ?yz1x9 (by assumption) ?rz1x9
  case hiz1x9 => (simp only [List.getElem?_toArray, List.getElem?_cons_succ, List.getElem?_cons_zero]; rfl)
  case yz1x9 => (refine Or.inl ⟨by rfl, ?_⟩; intro w' hSw; (try dsimp only at hSw); go_simp; (try with_reducible rfl))
  try simp only [Act.put, List.setIfInBounds_toArray, List.set_cons_zero, List.set_cons_succ]
  refine wpAnyH_take (i := 10) (oi := ?oz1x10) (v := tdv a) ?hiz1x10 (by kernel_rfl) (by kernel_rfl) (by kernel_rfl) (fun _ _ _ h => h) ?yz1x10 (by assumption) ?rz1x10
  case hiz1x10 => (simp only [List.getElem?_toArray, List.getElem?_cons_succ, List.getElem?_cons_zero]; rfl)
  case yz1x10 => (refine td_yields rfl rfl (w.heap.size) rfl a ?_; intro w' hS; exact hS.1)
  try simp only [Act.put, List.setIfInBounds_toArray, List.set_cons_zero, List.set_cons_succ]
  refine wpAnyH_take (i := 11) (oi := ?oz1x11) (v := ?vz1x11) ?hiz1x11 (by kernel_rfl) (by kernel_rfl) (by kernel_rfl) (fun _ _ _ h => h) ?yz1x11 (by assumption) ?rz1x11
  case hiz1x11 => (simp only [List.getElem?_toArray, List.getElem?_cons_succ, List.getElem?_cons_zero]; rfl)
  case yz1x11 => (refine Or.inl ⟨by rfl, ?_⟩; intro w' hSw; (try dsimp only at hSw); go_simp; (try with_reducible rfl))
  try simp only [Act.put, List.setIfInBounds_toArray, List.set_cons_zero, List.set_cons_succ]
  refine wpAnyH_take (i := 12) (oi := ?oz1x12) (v := ?vz1x12) ?hiz1x12 (by kernel_rfl) (by kernel_rfl) (by kernel_rfl) (fun _ _ _ h => h) ?yz1x12 (by assumption) ?rz1x12
  case hiz1x12 => (simp only [List.getElem?_toArray, List.getElem?_cons_succ, List.getElem?_cons_zero]; rfl)
  case yz1x12 => (refine Or.inl ⟨by rfl, ?_⟩; intro w' hSw; (try dsimp only at hSw); go_simp; (try with_reducible rfl))
  try simp only [Act.put, List.setIfInBounds_toArray, List.set_cons_zero, List.set_cons_succ]
  refine wpAnyH_take (i := 14) (oi := ?oz1x14) (v := tdv a) ?hiz1x14 (by kernel_rfl) (by kernel_rfl) (by kernel_rfl) (fun _ _ _ h => h) ?yz1x14 (by assumption) ?rz1x14
  case hiz1x14 => (simp only [List.getElem?_toArray, List.getElem?_cons_succ, List.getElem?_cons_zero]; rfl)
  case yz1x14 => (refine td_yields rfl rfl (w.heap.size) rfl a ?_; intro w' hS; exact hS.1)
  try simp only [Act.put, List.setIfInBounds_toArray, List.set_cons_zero, List.set_cons_succ]
  refine wpAnyH_take (i := 15) (oi := ?oz1x15) (v := ?vz1x15) ?hiz1x15 (by kernel_rfl) (by kernel_rfl) (by kernel_rfl) (fun _ _ _ h => h) ?yz1x15 (by assumption) ?rz1x15
  case hiz1x15 => (simp only [List.getElem?_toArray, List.getElem?_cons_succ, List.getElem?_cons_zero]; rfl)
  case yz1x15 => (refine Or.inl ⟨by rfl, ?_⟩; intro w' hSw; (try dsimp only at hSw); go_simp; (try with_reducible rfl))
  try simp only [Act.put, List.setIfInBounds_toArray, List.set_cons_zero, List.set_cons_succ]
  refine wpAnyH_take (i := 16) (oi := ?oz1x16) (v := ?vz1x16) ?hiz1x16 (by kernel_rfl) (by kernel_rfl) (by kernel_rfl) (fun _ _ _ h => h) ?yz1x16 (by assumption) ?rz1x16
  case hiz1x16 => (simp only [List.getElem?_toArray, List.getElem?_cons_succ, List.getElem?_cons_zero]; rfl)
  case yz1x16 => (refine Or.inl ⟨by rfl, ?_⟩; intro w' hSw; (try dsimp only at hSw); go_simp; (try with_reducible rfl))
  try simp only [Act.put, List.setIfInBounds_toArray, List.set_cons_zero, List.set_cons_succ]
  refine wpAnyH_ready (rs := [13]) (by kernel_rfl) (by simp) ?_
  refine AllReadyH.cons (o := ?oz1x13) ?hiz1x13 ?hstz1x13 AllReadyH.nil
  case hiz1x13 => (simp only [List.getElem?_toArray, List.getElem?_cons_succ, List.getElem?_cons_zero]; rfl)
  intro K hK
  go_simp
  (go_at_call 11; (with_reducible refine (HS.out _).mono ?_); rintro e w23 ⟨rfl, hb23⟩)
  go_wp2_with fail
  refine hK.out _ _ ⟨Bx.Blk.keep hHeld.1 hb23, Bx.keep_cell hb23 hHeld.2.1, Bx.keep_cell hb23 hHeld.2.2.1, Bx.Blk.keep hHeld.2.2.2.1 hb23, Bx.Blk.keep hHeld.2.2.2.2.1 hb23, Bx.Blk.keep hHeld.2.2.2.2.2.1 hb23, Bx.Blk.keep hHeld.2.2.2.2.2.2 hb23⟩ (fun hNew => ?_)
  clear hHeld
  have hHeld := hNew
  clear hNew hK K
  replace bel := Lib.hid (Bx.then_below bel.out hb23)
  clear hb23
  refine wpAnyH_ready (rs := [17]) (by kernel_rfl) (by simp) ?_
  refine AllReadyH.cons (o := ?oz1x17) ?hiz1x17 ?hstz1x17 AllReadyH.nil
  case hiz1x17 => (simp only [List.getElem?_toArray, List.getElem?_cons_succ, List.getElem?_cons_zero]; rfl)
  intro K hK
  go_simp
  (go_at_call 12; (with_reducible refine (RS.out _).mono ?_); rintro e w24 ⟨rfl, hb24⟩)
  go_wp2_with fail
  refine hK.out _ _ ⟨Bx.Blk.keep hHeld.1 hb24, Bx.keep_cell hb24 hHeld.2.1, Bx.keep_cell hb24 hHeld.2.2.1, Bx.Blk.keep hHeld.2.2.2.1 hb24, Bx.Blk.keep hHeld.2.2.2.2.1 hb24, Bx.Blk.keep hHeld.2.2.2.2.2.1 hb24, Bx.Blk.keep hHeld.2.2.2.2.2.2 hb24⟩ (fun hNew => ?_)
  clear hHeld
  have hHeld := hNew
  clear hNew hK K
  replace bel := Lib.hid (Bx.then_below bel.out hb24)
  clear hb24
  refine wpAnyH_take (i := 18) (oi := ?oz1x18) (v := ?vz1x18) ?hiz1x18 (by kernel_rfl) (by kernel_rfl) (by kernel_rfl) (fun _ _ _ h => h) ?yz1x18 (by assumption) ?rz1x18
  case hiz1x18 => (simp only [List.getElem?_toArray, List.getElem?_cons_succ, List.getElem?_cons_zero]; rfl)
  case yz1x18 => (refine Or.inl ⟨by rfl, ?_⟩; intro w' hSw; (try dsimp only at hSw); go_simp; (try with_reducible rfl))
  try simp only [Act.put, List.setIfInBounds_toArray, List.set_cons_zero, List.set_cons_succ]
  refine wpAnyH_take (i := 19) (oi := ?oz1x19) (v := ?vz1x19) ?hiz1x19 (by kernel_rfl) (by kernel_rfl) (by kernel_rfl) (fun _ _ _ h => h) ?yz1x19 (by assumption) ?rz1x19
  case hiz1x19 => (simp only [List.getElem?_toArray, List.getElem?_cons_succ, List.getElem?_cons_zero]; rfl)
  case yz1x19 => (refine Or.inl ⟨by rfl, ?_⟩; intro w' hSw; (try dsimp only at hSw); go_simp; (try with_reducible rfl))
  try simp only [Act.put, List.setIfInBounds_toArray, List.set_cons_zero, List.set_cons_succ]
  refine wpAnyH_take (i := 20) (oi := ?oz1x20) (v := ?vz1x20) ?hiz1x20 (by kernel_rfl) (by kernel_rfl) (by kernel_rfl) (fun _ _ _ h => h) ?yz1x20 (by assumption) ?rz1x20
  case hiz1x20 => (simp only [List.getElem?_toArray, List.getElem?_cons_succ, List.getElem?_cons_zero]; rfl)
  case yz1x20 => (refine Or.inl ⟨by rfl, ?_⟩; intro w' hSw; (try dsimp only at hSw); go_simp; (try with_reducible rfl))
  try simp only [Act.put, List.setIfInBounds_toArray, List.set_cons_zero, List.set_cons_succ]
  refine wpAnyH_take (i := 21) (oi := ?oz1x21) (v := tdv u) ?hiz1x21 (by kernel_rfl) (by kernel_rfl) (by kernel_rfl) (fun _ _ _ h => h) ?yz1x21 (by assumption) ?rz1x21
  case hiz1x21 => (simp only [List.getElem?_toArray, List.getElem?_cons_succ, List.getElem?_cons_zero]; rfl)
  case yz1x21 => (refine td_yields rfl rfl (kT7) rfl u ?_; intro w' hS; exact hS.2.2.2.1)
  try simp only [Act.put, List.setIfInBounds_toArray, List.set_cons_zero, List.set_cons_succ]
  refine wpAnyH_take (i := 22) (oi := ?oz1x22) (v := tdv u) ?hiz1x22 (by kernel_rfl) (by kernel_rfl) (by kernel_rfl) (fun _ _ _ h => h) ?yz1x22 (by assumption) ?rz1x22
  case hiz1x22 => (simp only [List.getElem?_toArray, List.getElem?_cons_succ, List.getElem?_cons_zero]; rfl)
  case yz1x22 => (refine td_yields rfl rfl (kT9) rfl u ?_; intro w' hS; exact hS.2.2.2.2.1)
  try simp only [Act.put, List.setIfInBounds_toArray, List.set_cons_zero, List.set_cons_succ]
  refine wpAnyH_take (i := 23) (oi := ?oz1x23) (v := ?vz1x23) ?hiz1x23 (by kernel_rfl) (by kernel_rfl) (by kernel_rfl) (fun _ _ _ h => h) ?yz1x23 (by assumption) ?rz1x23
  case hiz1x23 => (simp only [List.getElem?_toArray, List.getElem?_cons_succ, List.getElem?_cons_zero]; rfl)
  case yz1x23 => (refine Or.inl ⟨by rfl, ?_⟩; intro w' hSw; (try dsimp only at hSw); go_simp; (try with_reducible rfl))
  try simp only [Act.put, List.setIfInBounds_toArray, List.set_cons_zero, List.set_cons_succ]
  refine wpAnyH_take (i := 24) (oi := ?oz1x24) (v := ?vz1x24) ?hiz1x24 (by kernel_rfl) (by kernel_rfl) (by kernel_rfl) (fun _ _ _ h => h) ?yz1x24 (by assumption) ?rz1x24
  case hiz1x24 => (simp only [List.getElem?_toArray, List.getElem?_cons_succ, List.getElem?_cons_zero]; rfl)
  case yz1x24 => (refine Or.inl ⟨by rfl, ?_⟩; intro w' hSw; (try dsimp only at hSw); go_simp; (try with_reducible rfl))
  try simp only [Act.put, List.setIfInBounds_toArray, List.set_cons_zero, List.set_cons_succ]
  refine wpAnyH_take (i := 25) (oi := ?oz1x25) (v := ?vz1x25) ?hiz1x25 (by kernel_rfl) (by kernel_rfl) (by kernel_rfl) (fun _ _ _ h => h) ?yz1x25 (by assumption) ?rz1x25
  case hiz1x25 => (simp only [List.getElem?_toArray, List.getElem?_cons_succ, List.getElem?_cons_zero]; rfl)
  case yz1x25 => (refine Or.inl ⟨by rfl, ?_⟩; intro w' hSw; (try dsimp only at hSw); go_simp; (try with_reducible rfl))
  try simp only [Act.put, List.setIfInBounds_toArray, List.set_cons_zero, List.set_cons_succ]
  refine wpAnyH_take (i := 26) (oi := ?oz1x26) (v := ?vz1x26) ?hiz1x26 (by kernel_rfl) (by kernel_rfl) (by kernel_rfl) (fun _ _ _ h => h) ?yz1x26 (by assumption) ?rz1x26
  case hiz1x26 => (simp only [List.getElem?_toArray, List.getElem?_cons_succ, List.getElem?_cons_zero]; rfl)
  case yz1x26 => (refine Or.inl ⟨by rfl, ?_⟩; intro w' hSw; (try dsimp only at hSw); go_simp; (try with_reducible rfl))
  try simp only [Act.put, List.setIfInBounds_toArray, List.set_cons_zero, List.set_cons_succ]
  refine wpAnyH_take (i := 27) (oi := ?oz1x27) (v := ?vz1x27) ?hiz1x27 (by kernel_rfl) (by kernel_rfl) (by kernel_rfl) (fun _ _ _ h => h) ?yz1x27 (by assumption) ?rz1x27
  case hiz1x27 => (simp only [List.getElem?_toArray, List.getElem?_cons_succ, List.getElem?_cons_zero]; rfl)
  case yz1x27 => (refine Or.inl ⟨by rfl, ?_⟩; intro w' hSw; (try dsimp only at hSw); go_simp; (try with_reducible rfl))
  try simp only [Act.put, List.setIfInBounds_toArray, List.set_cons_zero, List.set_cons_succ]
  refine wpAnyH_take (i := 28) (oi := ?oz1x28) (v := ?vz1x28) ?hiz1x28 (by kernel_rfl) (by kernel_rfl) (by kernel_rfl) (fun _ _ _ h => h) ?yz1x28 (by assumption) ?rz1x28
  case hiz1x28 => (simp only [List.getElem?_toArray, List.getElem?_cons_succ, List.getElem?_cons_zero]; rfl)
  case yz1x28 => (refine Or.inl ⟨by rfl, ?_⟩; intro w' hSw; (try dsimp only at hSw); go_simp; (try with_reducible rfl))
  try simp only [Act.put, List.setIfInBounds_toArray, List.set_cons_zero, List.set_cons_succ]
  refine wpAnyH_take (i := 29) (oi := ?oz1x29) (v := ?vz1x29) ?hiz1x29 (by kernel_rfl) (by kernel_rfl) (by kernel_rfl) (fun _ _ _ h => h) ?yz1x29 (by assumption) ?rz1x29
  case hiz1x29 => (simp only [List.getElem?_toArray, List.getElem?_cons_succ, List.getElem?_cons_zero]; rfl)
  case yz1x29 => (refine Or.inl ⟨by rfl, ?_⟩; intro w' hSw; (try dsimp only at hSw); go_simp; (try with_reducible rfl))
  try simp only [Act.put, List.setIfInBounds_toArray, List.set_cons_zero, List.set_cons_succ]
  refine wpAnyH_take (i := 30) (oi := ?oz1x30) (v := ?vz1x30) ?hiz1x30 (by kernel_rfl) (by kernel_rfl) (by kernel_rfl) (fun _ _ _ h => h) ?yz1x30 (by assumption) ?rz1x30
  case hiz1x30 => (simp only [List.getElem?_toArray, List.getElem?_cons_succ, List.getElem?_cons_zero]; rfl)
  case yz1x30 => (refine Or.inl ⟨by rfl, ?_⟩; intro w' hSw; (try dsimp only at hSw); go_simp; (try with_reducible rfl))
  try simp only [Act.put, List.setIfInBounds_toArray, List.set_cons_zero, List.set_cons_succ]
  refine wpAnyH_take (i := 31) (oi := ?oz1x31) (v := tdv v) ?hiz1x31 (by kernel_rfl) (by kernel_rfl) (by kernel_rfl) (fun _ _ _ h => h) ?yz1x31 (by assumption) ?rz1x31
  case hiz1x31 => (simp only [List.getElem?_toArray, List.getElem?_cons_succ, List.getElem?_cons_zero]; rfl)
  case yz1x31 => (refine td_yields rfl rfl (kT11) rfl v ?_; intro w' hS; exact hS.2.2.2.2.2.1)
  try simp only [Act.put, List.setIfInBounds_toArray, List.set_cons_zero, List.set_cons_succ]
  refine wpAnyH_take (i := 32) (oi := ?oz1x32) (v := tdv v) ?hiz1x32 (by kernel_rfl) (by kernel_rfl) (by kernel_rfl) (fun _ _ _ h => h) ?yz1x32 (by assumption) ?rz1x32
  case hiz1x32 => (simp only [List.getElem?_toArray, List.getElem?_cons_succ, List.getElem?_cons_zero]; rfl)
  case yz1x32 => (refine td_yields rfl rfl (kT13) rfl v ?_; intro w' hS; exact hS.2.2.2.2.2.2)
  try simp only [Act.put, List.setIfInBounds_toArray, List.set_cons_zero, List.set_cons_succ]
  refine wpAnyH_take (i := 33) (oi := ?oz1x33) (v := ?vz1x33) ?hiz1x33 (by kernel_rfl) (by kernel_rfl) (by kernel_rfl) (fun _ _ _ h => h) ?yz1x33 (by assumption) ?rz1x33
  case hiz1x33 => (simp only [List.getElem?_toArray, List.getElem?_cons_succ, List.getElem?_cons_zero]; rfl)
  case yz1x33 => (refine Or.inl ⟨by rfl, ?_⟩; intro w' hSw; (try dsimp only at hSw); go_simp; (try with_reducible rfl))
  try simp only [Act.put, List.setIfInBounds_toArray, List.set_cons_zero, List.set_cons_succ]
  refine wpAnyH_take (i := 34) (oi := ?oz1x34) (v := ?vz1x34) ?hiz1x34 (by kernel_rfl) (by kernel_rfl) (by kernel_rfl) (fun _ _ _ h => h) ?yz1x34 (by assumption) ?rz1x34
  case hiz1x34 => (simp only [List.getElem?_toArray, List.getElem?_cons_succ, List.getElem?_cons_zero]; rfl)
  case yz1x34 => (refine Or.inl ⟨by rfl, ?_⟩; intro w' hSw; (try dsimp only at hSw); go_simp; (try with_reducible rfl))
  try simp only [Act.put, List.setIfInBounds_toArray, List.set_cons_zero, List.set_cons_succ]
  refine wpAnyH_take (i := 35) (oi := ?oz1x35) (v := ?vz1x35) ?hiz1x35 (by kernel_rfl) (by kernel_rfl) (by kernel_rfl) (fun _ _ _ h => h) ?yz1x35 (by assumption) ?rz1x35
  case hiz1x35 => (simp only [List.getElem?_toArray, List.getElem?_cons_succ, List.getElem?_cons_zero]; rfl)
  case yz1x35 => (refine Or.inl ⟨by rfl, ?_⟩; intro w' hSw; (try dsimp only at hSw); go_simp; (try with_reducible rfl))
  try simp only [Act.put, List.setIfInBounds_toArray, List.set_cons_zero, List.set_cons_succ]
  refine wpAnyH_take (i := 36) (oi := ?oz1x36) (v := ?vz1x36) ?hiz1x36 (by kernel_rfl) (by kernel_rfl) (by kernel_rfl) (fun _ _ _ h => h) ?yz1x36 (by assumption) ?rz1x36
  case hiz1x36 => (simp only [List.getElem?_toArray, List.getElem?_cons_succ, List.getElem?_cons_zero]; rfl)
  case yz1x36 => (refine Or.inl ⟨by rfl, ?_⟩; intro w' hSw; (try dsimp only at hSw); go_simp; (try with_reducible rfl))
  try simp only [Act.put, List.setIfInBounds_toArray, List.set_cons_zero, List.set_cons_succ]
  refine wpAnyH_take (i := 37) (oi := ?oz1x37) (v := ?vz1x37) ?hiz1x37 (by kernel_rfl) (by kernel_rfl) (by kernel_rfl) (fun _ _ _ h => h) ?yz1x37 (by assumption) ?rz1x37
  case hiz1x37 => (simp only [List.getElem?_toArray, List.getElem?_cons_succ, List.getElem?_cons_zero]; rfl)
  case yz1x37 => (refine Or.inl ⟨by rfl, ?_⟩; intro w' hSw; (try dsimp only at hSw); go_simp; (try with_reducible rfl))
  try simp only [Act.put, List.setIfInBounds_toArray, List.set_cons_zero, List.set_cons_succ]
  refine wpAnyH_take (i := 38) (oi := ?oz1x38) (v := ?vz1x38) ?hiz1x38 (by kernel_rfl) (by kernel_rfl) (by kernel_rfl) (fun _ _ _ h => h) ?yz1x38 (by assumption) ?rz1x38
  case hiz1x38 => (simp only [List.getElem?_toArray, List.getElem?_cons_succ, List.getElem?_cons_zero]; rfl)
  case yz1x38 => (refine Or.inl ⟨by rfl, ?_⟩; intro w' hSw; (try dsimp only at hSw); go_simp; (try with_reducible rfl))
  try simp only [Act.put, List.setIfInBounds_toArray, List.set_cons_zero, List.set_cons_succ]
  refine wpAnyH_take (i := 39) (oi := ?oz1x39) (v := ?vz1x39) ?hiz1x39 (by kernel_rfl) (by kernel_rfl) (by kernel_rfl) (fun _ _ _ h => h) ?yz1x39 (by assumption) ?rz1x39
  case hiz1x39 => (simp only [List.getElem?_toArray, List.getElem?_cons_succ, List.getElem?_cons_zero]; rfl)
  case yz1x39 => (refine Or.inl ⟨by rfl, ?_⟩; intro w' hSw; (try dsimp only at hSw); go_simp; (try with_reducible rfl))
  try simp only [Act.put, List.setIfInBounds_toArray, List.set_cons_zero, List.set_cons_succ]
  refine wpAnyH_take (i := 40) (oi := ?oz1x40) (v := ?vz1x40) ?hiz1x40 (by kernel_rfl) (by kernel_rfl) (by kernel_rfl) (fun _ _ _ h => h) ?yz1x40 (by assumption) ?rz1x40
  case hiz1x40 => (simp only [List.getElem?_toArray, List.getElem?_cons_succ, List.getElem?_cons_zero]; rfl)
  case yz1x40 => (refine Or.inl ⟨by rfl, ?_⟩; intro w' hSw; (try dsimp only at hSw); go_simp; (try with_reducible rfl))
  try simp only [Act.put, List.setIfInBounds_toArray, List.set_cons_zero, List.set_cons_succ]
  refine wpAnyH_ready (rs := [41]) (by kernel_rfl) (by simp) ?_
  refine AllReadyH.cons (o := ?oz1x41) ?hiz1x41 ?hstz1x41 AllReadyH.nil
  case hiz1x41 => (simp only [List.getElem?_toArray, List.getElem?_cons_succ, List.getElem?_cons_zero]; rfl)
  intro K hK
  go_simp
  (go_at_call 13; (with_reducible refine (HW.out _).mono ?_); rintro e w25 ⟨rfl, hb25⟩)
  go_wp2_with fail
  refine hK.out _ _ ⟨Bx.Blk.keep hHeld.1 hb25, Bx.keep_cell hb25 hHeld.2.1, Bx.keep_cell hb25 hHeld.2.2.1, Bx.Blk.keep hHeld.2.2.2.1 hb25, Bx.Blk.keep hHeld.2.2.2.2.1 hb25, Bx.Blk.keep hHeld.2.2.2.2.2.1 hb25, Bx.Blk.keep hHeld.2.2.2.2.2.2 hb25⟩ (fun hNew => ?_)
  clear hHeld
  have hHeld := hNew
  clear hNew hK K
  replace bel := Lib.hid (Bx.then_below bel.out hb25)
  clear hb25
  refine wpAnyH_take (i := 42) (oi := ?oz1x42) (v := ?vz1x42) ?hiz1x42 (by kernel_rfl) (by kernel_rfl) (by kernel_rfl) (fun _ _ _ h => h) ?yz1x42 (by assumption) ?rz1x42
  case hiz1x42 => (simp only [List.getElem?_toArray, List.getElem?_cons_succ, List.getElem?_cons_zero]; rfl)
  case yz1x42 => (refine Or.inl ⟨by rfl, ?_⟩; intro w' hSw; (try dsimp only at hSw); go_simp; (try with_reducible rfl))
  try simp only [Act.put, List.setIfInBounds_toArray, List.set_cons_zero, List.set_cons_succ]
  refine wpAnyH_take (i := 43) (oi := ?oz1x43) (v := ?vz1x43) ?hiz1x43 (by kernel_rfl) (by kernel_rfl) (by kernel_rfl) (fun _ _ _ h => h) ?yz1x43 (by assumption) ?rz1x43
  case hiz1x43 => (simp only [List.getElem?_toArray, List.getElem?_cons_succ, List.getElem?_cons_zero]; rfl)
  case yz1x43 => (refine Or.inl ⟨by rfl, ?_⟩; intro w' hSw; (try dsimp only at hSw); go_simp; (try with_reducible rfl))
  try simp only [Act.put, List.setIfInBounds_toArray, List.set_cons_zero, List.set_cons_succ]
  refine wpAnyH_done (by kernel_rfl) ?_ _
  refine NoPanic.normal ?_
  clear hHeld
  go_wp2_with fail
  go_ret
  exact ⟨rfl, bel.out⟩

end Chg
namespace LawChangeSays
open Go.ChangeShapes Go.WideShapes Go.ChangeAt Go.RowKit
open Go.ChangeMaps (open_string shut_string)

theorem own : ownKnob Try.prog.godebug = none := by kernel_rfl
theorem laidOut : laidOutB Try.prog = true := by kernel_rfl

set_option maxRecDepth 100000 in
theorem lifted (os : Os) (started : os.Started) (H : Type) (enc : TypeId × Value → H) :
    ReturnsInHanded {} Try.checked os 3 .any (Rows.changeSaysSpec.pre6 enc Try.prog Try.f3 Rows.changeSaysRow.domain false) (Rows.changeSaysSpec.post enc Try.prog Try.f3 false true false false) := by
  refine Fr.law_lift (C := Try.checked) (tb := 4) own started (by kernel_rfl) Try.func3
    (ChangeSpec.witness6 (enc := enc) (C := Try.checked) false ⟨#[], #[.agg #[.int .u64 0, .int .i64 0, .int .i64 0, .int .i64 0, .int .i64 0, .int .u64 0, .int .u64 0, .int .u64 0, .int .i64 0, .int .i64 0, .int .i64 0, .int .i64 0, .int .i64 0, .int .i64 0, .bool false, .bool false, .bool false, .int .u64 0, .int .i64 0, .int .u64 0, .int .u64 0, .int .u64 0, .int .i64 0, .int .i64 0, .int .i64 0, .int .i64 0, .int .i64 0, .int .i64 0, .int .i64 0, .bool false, .bool false, .bool false, .bool false, .bool false, .bool false, .bool false, .bool false, .bool false, .int .i64 0, .int .i64 0, .int .i64 0, .int .i64 0, .int .i64 0, .int .i64 0, .int .i64 0, .bool false, .bool false, .bool false, .int .u64 0, .int .i64 0, .int .u64 0, .int .u64 0, .int .u64 0, .int .i64 0, .int .i64 0, .int .i64 0, .int .i64 0, .int .i64 0, .int .i64 0, .int .i64 0, .bool false, .bool false, .bool false, .bool false, .bool false, .bool false, .bool false, .bool false, .bool false, .int .i64 0, .int .i64 0, .int .i64 0, .int .i64 0, .int .i64 0, .int .i64 0, .int .i64 0, .bool false, .bool false, .bool false, .int .u64 0, .int .i64 0, .int .u64 0, .int .u64 0, .int .u64 0, .int .i64 0, .int .i64 0, .int .i64 0, .int .i64 0, .int .i64 0, .int .i64 0, .int .i64 0, .bool false, .bool false, .bool false, .bool false, .bool false, .bool false, .bool false, .bool false, .bool false, .int .i64 0, .int .i64 0, .int .i64 0, .int .i64 0, .int .i64 0, .int .i64 0, .int .i64 0, .bool false, .bool false, .bool false, .int .u64 0, .int .i64 0, .int .u64 0, .int .u64 0, .int .u64 0, .int .i64 0, .int .i64 0, .int .i64 0, .int .i64 0, .int .i64 0, .int .i64 0, .int .i64 0, .bool false, .bool false, .bool false, .bool false, .bool false, .bool false, .bool false, .bool false, .bool false, .int .i64 0, .int .i64 0, .int .i64 0, .int .i64 0, .int .i64 0, .int .i64 0, .int .i64 0, .bool false, .bool false, .bool false, .int .u64 0, .int .i64 0, .int .u64 0, .int .u64 0, .int .u64 0, .int .i64 0, .int .i64 0, .int .i64 0, .int .i64 0, .int .i64 0, .int .i64 0, .int .i64 0, .bool false, .bool false, .bool false, .bool false, .bool false, .bool false, .bool false, .bool false, .bool false, .int .i64 0, .int .i64 0, .int .i64 0, .int .i64 0, .int .i64 0, .int .i64 0, .int .i64 0, .bool false, .bool false, .bool false, .int .u64 0, .int .i64 0, .int .u64 0, .int .u64 0, .int .u64 0, .int .i64 0, .int .i64 0, .int .i64 0, .int .i64 0, .int .i64 0, .int .i64 0, .int .i64 0, .bool false, .bool false, .bool false, .bool false, .bool false, .bool false, .bool false, .bool false, .bool false, .int .i64 0, .int .i64 0, .int .i64 0, .int .i64 0, .int .i64 0, .int .i64 0, .int .i64 0, .bool false, .bool false, .bool false, .int .u64 0, .int .i64 0, .int .u64 0, .int .u64 0, .int .u64 0, .int .i64 0, .int .i64 0, .int .i64 0, .int .i64 0, .int .i64 0, .int .i64 0, .int .i64 0, .bool false, .bool false, .bool false, .bool false, .bool false, .bool false, .bool false, .bool false, .bool false, .int .i64 0, .int .i64 0, .int .i64 0, .int .i64 0, .int .i64 0, .int .i64 0, .int .i64 0, .bool false, .bool false, .bool false, .int .u64 0, .int .i64 0, .int .u64 0, .int .u64 0, .int .u64 0, .int .i64 0, .int .i64 0, .int .i64 0, .int .i64 0, .int .i64 0, .int .i64 0, .int .i64 0, .bool false, .bool false, .bool false, .bool false, .bool false, .bool false, .bool false, .bool false, .bool false, .int .i64 0, .int .i64 0, .int .i64 0, .int .i64 0, .int .i64 0, .int .i64 0, .int .i64 0], .agg #[.int .u64 0, .int .i64 0, .int .i64 0, .int .i64 0, .int .i64 0, .int .u64 0, .int .u64 0, .int .u64 0, .int .i64 0, .int .i64 0, .int .i64 0, .int .i64 0, .int .i64 0, .int .i64 0, .bool false, .bool false, .bool false, .int .u64 0, .int .i64 0, .int .u64 0, .int .u64 0, .int .u64 0, .int .i64 0, .int .i64 0, .int .i64 0, .int .i64 0, .int .i64 0, .int .i64 0, .int .i64 0, .bool false, .bool false, .bool false, .bool false, .bool false, .bool false, .bool false, .bool false, .bool false, .int .i64 0, .int .i64 0, .int .i64 0, .int .i64 0, .int .i64 0, .int .i64 0, .int .i64 0, .bool false, .bool false, .bool false, .int .u64 0, .int .i64 0, .int .u64 0, .int .u64 0, .int .u64 0, .int .i64 0, .int .i64 0, .int .i64 0, .int .i64 0, .int .i64 0, .int .i64 0, .int .i64 0, .bool false, .bool false, .bool false, .bool false, .bool false, .bool false, .bool false, .bool false, .bool false, .int .i64 0, .int .i64 0, .int .i64 0, .int .i64 0, .int .i64 0, .int .i64 0, .int .i64 0, .bool false, .bool false, .bool false, .int .u64 0, .int .i64 0, .int .u64 0, .int .u64 0, .int .u64 0, .int .i64 0, .int .i64 0, .int .i64 0, .int .i64 0, .int .i64 0, .int .i64 0, .int .i64 0, .bool false, .bool false, .bool false, .bool false, .bool false, .bool false, .bool false, .bool false, .bool false, .int .i64 0, .int .i64 0, .int .i64 0, .int .i64 0, .int .i64 0, .int .i64 0, .int .i64 0, .bool false, .bool false, .bool false, .int .u64 0, .int .i64 0, .int .u64 0, .int .u64 0, .int .u64 0, .int .i64 0, .int .i64 0, .int .i64 0, .int .i64 0, .int .i64 0, .int .i64 0, .int .i64 0, .bool false, .bool false, .bool false, .bool false, .bool false, .bool false, .bool false, .bool false, .bool false, .int .i64 0, .int .i64 0, .int .i64 0, .int .i64 0, .int .i64 0, .int .i64 0, .int .i64 0, .bool false, .bool false, .bool false, .int .u64 0, .int .i64 0, .int .u64 0, .int .u64 0, .int .u64 0, .int .i64 0, .int .i64 0, .int .i64 0, .int .i64 0, .int .i64 0, .int .i64 0, .int .i64 0, .bool false, .bool false, .bool false, .bool false, .bool false, .bool false, .bool false, .bool false, .bool false, .int .i64 0, .int .i64 0, .int .i64 0, .int .i64 0, .int .i64 0, .int .i64 0, .int .i64 0, .bool false, .bool false, .bool false, .int .u64 0, .int .i64 0, .int .u64 0, .int .u64 0, .int .u64 0, .int .i64 0, .int .i64 0, .int .i64 0, .int .i64 0, .int .i64 0, .int .i64 0, .int .i64 0, .bool false, .bool false, .bool false, .bool false, .bool false, .bool false, .bool false, .bool false, .bool false, .int .i64 0, .int .i64 0, .int .i64 0, .int .i64 0, .int .i64 0, .int .i64 0, .int .i64 0, .bool false, .bool false, .bool false, .int .u64 0, .int .i64 0, .int .u64 0, .int .u64 0, .int .u64 0, .int .i64 0, .int .i64 0, .int .i64 0, .int .i64 0, .int .i64 0, .int .i64 0, .int .i64 0, .bool false, .bool false, .bool false, .bool false, .bool false, .bool false, .bool false, .bool false, .bool false, .int .i64 0, .int .i64 0, .int .i64 0, .int .i64 0, .int .i64 0, .int .i64 0, .int .i64 0, .bool false, .bool false, .bool false, .int .u64 0, .int .i64 0, .int .u64 0, .int .u64 0, .int .u64 0, .int .i64 0, .int .i64 0, .int .i64 0, .int .i64 0, .int .i64 0, .int .i64 0, .int .i64 0, .bool false, .bool false, .bool false, .bool false, .bool false, .bool false, .bool false, .bool false, .bool false, .int .i64 0, .int .i64 0, .int .i64 0, .int .i64 0, .int .i64 0, .int .i64 0, .int .i64 0], .agg #[.int .i64 0, .int .i64 0, .int .i64 0, .bool false, .bool false, .int .i64 0, .bool false, .bool false, .bool false, .bool false, .int .u64 0, .int .u64 0, .int .u64 0, .int .i64 0, .int .i64 0, .int .i64 0, .int .i64 0, .int .i64 0]], []⟩ 8 (by kernel_rfl) (by kernel_rfl) (by kernel_rfl) (by kernel_rfl))
    laidOut (by rw [Try.params3]; decide +kernel) rfl Try.underlying4 rfl ?_ ?_
  · intro ds hl
    match ds, hl with
    | [d0, d1, d2], _ => rfl
  · intro W base args ds p hval hA
    rw [Try.params3] at hA hval
    obtain ⟨v0, vs0, d0, ds0, p0, q0, hargs, rfl, rfl, h0, r0⟩ := trodAll_cons hA
    obtain ⟨v1, vs1, d1, ds1, p1, q1, rfl, rfl, rfl, h1, r1⟩ := trodAll_cons r0
    obtain ⟨v2, vs2, d2, ds2, p2, q2, rfl, rfl, rfl, h2, r2⟩ := trodAll_cons r1
    obtain ⟨rfl, rfl, rfl⟩ := trodAll_nil r2
    obtain rfl : args = #[v0, v1, v2] := by cases args; simp_all
    obtain ⟨x0, rfl⟩ := Tre.open_td (hval 0 31 v0 rfl rfl) h0
    obtain ⟨x1, rfl⟩ := Tre.open_td (hval 1 31 v1 rfl rfl) h1
    obtain ⟨q2, s2, b2, rfl⟩ := Chg.open_case (hval 2 35 v2 rfl rfl) h2
    exact Chg.walk_says W x0 x1 q2 s2 b2

theorem over : Rows.changeSaysRow.holds Try.pinned (OpenSpec.ofChange Rows.changeSaysSpec) :=
  OpenClaim.holds_of_wide 3 Try.f3 rfl rfl rfl rfl rfl rfl rfl ⟨rfl, rfl, rfl, rfl, rfl⟩ rfl rfl rfl rfl rfl (by kernel_rfl) Try.func3 (by kernel_rfl)
    (of_decide_eq_true (by kernel_rfl)) (by unfold Func.isWrapper; first | (rw [if_pos (by decide +kernel)]; kernel_rfl) | (rw [if_neg (by decide +kernel)]; exact ⟨rfl, rfl⟩))
    (fun os started H enc _ => lifted os started H enc)
end LawChangeSays

/-- The statement ChangeSays. -/
theorem changeSays_holds : Rows.ChangeSaysSaid := LawChangeSays.over

end Go.Proofs.Ytkjdnmlaehjmgaa
