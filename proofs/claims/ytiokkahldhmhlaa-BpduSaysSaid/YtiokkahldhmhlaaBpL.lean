/-
  The check of single answers that the statements of layer 6 end with (tipstafflaw06.awake) comes out true, whatever the memory, and changes nothing that was there.
-/
import Derived.Test.YtiokkahldhmhlaaBpK
namespace Go.Proofs.Ytiokkahldhmhlaa
open Go.RowKit
namespace Bpd
open Oct Mac Eth Epl

def someB : Bp := ⟨2, false, true, 3, false, true, false, false, 5, 20, 6, 3, 1, 20, 2, 15⟩
def txtS : ByteArray := ofL (wireL someB)
def bodyS : ByteArray := ofL ([66, 66, 3] ++ wireL someB)

theorem results_one {fn : Func} {p : Tmp} (h : fn.results = #[.cell p 26]) {tmps : Array Value} {W : World} {k : Nat} {b : Bp} (hp : tmps.getD p undef = .pointer (some ⟨k, 0, none⟩)) (hB : Bx.Blk W k (bpl b)) :
    (results fn tmps).run Try.prog W = .ok (bp b) W := by
  have hp' : tmps[p]?.getD undef = .pointer (some ⟨k, 0, none⟩) := by simpa using hp
  simp [results, h, hp', asAddr, var_bp hB]

theorem some_any (w : World) : Calls Try.prog 19 #[] w fun e w' => e = .returned (bp someB) ∧ Below w.heap.size w w' := by
  go_enter Try.func19, Try.ntmps19
  go_wp2_with ((with_reducible refine new_at ?_ ?_ w.heap.size zeroB someB ?_ ?_ w ?_ ?_ ?_); (· rfl); (· rfl); (· rfl); (· rfl); (· rfl); (· rfl))
  exact bodyPost_ret (v := bp someB) (results_one Try.results19 rfl (Bx.Blk.new w (bpl someB) _)) rfl ⟨rfl, Bx.box_below _ _⟩

theorem some_right : rightB someB = true := by decide +kernel

theorem aw_b1 (w : World) : Calls Try.prog 7 #[bp someB] w fun e w' => e = .returned (.tuple #[.string txtS, .int .i64 0]) ∧ Below w.heap.size w w' := by
  have h := bytes_any someB w (by decide) (by decide)
  unfold bTxt bErr at h
  rw [some_right] at h
  exact h
theorem aw_r1 (w : World) : Calls Try.prog 9 #[.string txtS] w fun e w' => e = .returned (.tuple #[bp someB, .int .i64 0]) ∧ Below w.heap.size w w' := by
  have h := read_any txtS w (by decide)
  rwa [show rVal txtS = someB by decide +kernel, show rErr txtS = 0 by decide +kernel] at h
theorem aw_w (w : World) : Calls Try.prog 11 #[.int .u64 9, bp someB] w fun e w' => e = .returned (.tuple #[fr 1652522221568 9 false 0 0 39 bodyS, .int .i64 0]) ∧ Below w.heap.size w w' := by
  have h := wrap_any 9 someB w (by decide) (by decide)
  unfold wVal wErr at h
  rw [if_pos ⟨some_right, by decide⟩, if_pos ⟨some_right, by decide⟩] at h
  exact h
theorem aw_o (w : World) : Calls Try.prog 13 #[fr 1652522221568 9 false 0 0 39 bodyS] w fun e w' => e = .returned (.tuple #[bp someB, .int .i64 0]) ∧ Below w.heap.size w w' := by
  have h := of_any 1652522221568 9 false 0 0 39 bodyS w (by decide)
  rwa [show oVal 1652522221568 false 39 bodyS = someB by decide +kernel, show oErr 1652522221568 false 39 bodyS = 0 by decide +kernel] at h
theorem aw_b2 (w : World) : Calls Try.prog 7 #[.agg #[.int .i64 128, .bool false, .bool false, .int .i64 0, .bool false, .bool false, .bool false, .bool false, .int .u64 0, .int .u64 0, .int .u64 0, .int .i64 0, .int .i64 0, .int .i64 0, .int .i64 0, .int .i64 0]] w fun e w' => e = .returned (.tuple #[.string ⟨#[0, 0, 0, 128]⟩, .int .i64 0]) ∧ Below w.heap.size w w' := by
  have h := bytes_any changeB w (by decide) (by decide)
  rw [show bTxt changeB = ⟨#[0, 0, 0, 128]⟩ by decide +kernel, show bErr changeB = 0 by decide +kernel] at h
  exact h
theorem aw_r2 (w : World) : Calls Try.prog 9 #[.string ⟨#[0, 0, 0, 5]⟩] w fun e w' => e = .returned (.tuple #[bp zeroB, .int .i64 10]) ∧ Below w.heap.size w w' := by
  have h := read_any ⟨#[0, 0, 0, 5]⟩ w (by decide)
  rwa [show rVal ⟨#[0, 0, 0, 5]⟩ = zeroB by decide +kernel, show rErr ⟨#[0, 0, 0, 5]⟩ = 10 by decide +kernel] at h
theorem aw_o2 (w : World) : Calls Try.prog 13 #[fr 0 0 false 0 0 0 ⟨#[]⟩] w fun e w' => e = .returned (.tuple #[bp zeroB, .int .i64 10]) ∧ Below w.heap.size w w' := by
  have h := of_any 0 0 false 0 0 0 ⟨#[]⟩ w (by decide)
  rwa [show oVal 0 false 0 ⟨#[]⟩ = zeroB by decide +kernel, show oErr 0 false 0 ⟨#[]⟩ = 10 by decide +kernel] at h
theorem aw_f (w : World) : Calls Try.prog 17 #[bp someB] w fun e w' => e = .returned (.int .i64 46) ∧ Below w.heap.size w w' := by
  have h := flags_any someB w
  rwa [show flagN someB = 46 by decide +kernel] at h
theorem aw_ri (w : World) : Calls Try.prog 15 #[bp someB] w fun e w' => e = .returned (.bool true) ∧ Below w.heap.size w w' := by
  have h := right_any someB w
  rwa [some_right] at h

set_option maxRecDepth 100000 in
set_option maxHeartbeats 4000000 in
theorem awake_any (w : World) :
    Calls Try.prog 6 #[] w fun e w' => e = .returned (.bool true) ∧ Below w.heap.size w w' := by
  have zT : txtS.size = 36 := by decide +kernel
  have HE := fun w => eq_bp someB someB w
  rw [eqB_self] at HE
  go_enter Try.func6, Try.ntmps6
  go_wp2_with fail
  have bel := Bx.bel_refl w
  refine (some_any _).mono ?_; rintro e w1 ⟨rfl, hb1⟩
  replace bel := Bx.then_below bel hb1
  clear hb1
  go_wp2_with fail
  refine (aw_b1 _).mono ?_; rintro e w2 ⟨rfl, hb2⟩
  replace bel := Bx.then_below bel hb2
  clear hb2
  go_wp2_with fail
  refine (aw_r1 _).mono ?_; rintro e w3 ⟨rfl, hb3⟩
  replace bel := Bx.then_below bel hb3
  clear hb3
  have B0 := Lib.hid (Bx.Blk.new w3 (bpl someB) 26)
  replace bel := Bx.bel_box bel (Obj.cells (bpl someB).toArray 26)
  go_wp2_with (first | ((with_reducible refine load_at ?_ ?_ (w3.heap.size) ?_ someB ?_ ?_); (· rfl); (· rfl); (· rfl); (· exact B0.out)) | ((with_reducible refine new_at ?_ ?_ (w3.heap.size) zeroB someB ?_ ?_ w3 ?_ ?_ ?_); (· rfl); (· rfl); (· rfl); (· rfl); (· rfl); (· simp)))
  refine (some_any _).mono ?_; rintro e w4 ⟨rfl, hb4⟩
  replace bel := Bx.then_below bel hb4
  replace B0 := Lib.hid (B0.out.keep hb4)
  clear hb4
  go_wp2_with (first | ((with_reducible refine load_at ?_ ?_ (w3.heap.size) ?_ someB ?_ ?_); (· rfl); (· rfl); (· rfl); (· exact B0.out)))
  refine (aw_w _).mono ?_; rintro e w5 ⟨rfl, hb5⟩
  replace bel := Bx.then_below bel hb5
  replace B0 := Lib.hid (B0.out.keep hb5)
  clear hb5
  replace B0 := Lib.hid (B0.out.more (Obj.cells #[.int .u64 1652522221568, .int .u64 9, .bool false, .int .i64 0, .int .i64 0, .int .i64 39, .string bodyS] 29))
  have B1 := Lib.hid (Bx.Blk.new w5 [.int .u64 1652522221568, .int .u64 9, .bool false, .int .i64 0, .int .i64 0, .int .i64 39, .string bodyS] 29)
  replace bel := Bx.bel_box bel (Obj.cells #[.int .u64 1652522221568, .int .u64 9, .bool false, .int .i64 0, .int .i64 0, .int .i64 39, .string bodyS] 29)
  obtain ⟨c1_0, c1_1, c1_2, c1_3, c1_4, c1_5, c1_6⟩ := B1.out.all7
  go_wp2_with (first | ((with_reducible refine load_at ?_ ?_ (w3.heap.size) ?_ someB ?_ ?_); (· rfl); (· rfl); (· rfl); (· exact B0.out)))
  refine (aw_o _).mono ?_; rintro e w6 ⟨rfl, hb6⟩
  replace bel := Bx.then_below bel hb6
  replace B0 := Lib.hid (B0.out.keep hb6)
  replace B1 := Lib.hid (B1.out.keep hb6)
  clear hb6
  replace B0 := Lib.hid (B0.out.more (Obj.cells (bpl someB).toArray 26))
  replace B1 := Lib.hid (B1.out.more (Obj.cells (bpl someB).toArray 26))
  have B2 := Lib.hid (Bx.Blk.new w6 (bpl someB) 26)
  replace bel := Bx.bel_box bel (Obj.cells (bpl someB).toArray 26)
  clear c1_0 c1_1 c1_2 c1_3 c1_4 c1_5 c1_6
  obtain ⟨c1_0, c1_1, c1_2, c1_3, c1_4, c1_5, c1_6⟩ := B1.out.all7
  go_wp2_with (first | ((with_reducible refine load_at ?_ ?_ (w3.heap.size) ?_ someB ?_ ?_); (· rfl); (· rfl); (· rfl); (· exact B0.out)) | ((with_reducible refine load_at ?_ ?_ (w6.heap.size) ?_ someB ?_ ?_); (· rfl); (· rfl); (· rfl); (· exact B2.out)) | ((with_reducible refine new_at ?_ ?_ (w6.heap.size) zeroB someB ?_ ?_ w6 ?_ ?_ ?_); (· rfl); (· rfl); (· rfl); (· rfl); (· rfl); (· simp)))
  refine (aw_b2 _).mono ?_; rintro e w7 ⟨rfl, hb7⟩
  replace bel := Bx.then_below bel hb7
  replace B0 := Lib.hid (B0.out.keep hb7)
  replace B1 := Lib.hid (B1.out.keep hb7)
  replace B2 := Lib.hid (B2.out.keep hb7)
  clear hb7
  clear c1_0 c1_1 c1_2 c1_3 c1_4 c1_5 c1_6
  obtain ⟨c1_0, c1_1, c1_2, c1_3, c1_4, c1_5, c1_6⟩ := B1.out.all7
  go_wp2_with (first | ((with_reducible refine load_at ?_ ?_ (w3.heap.size) ?_ someB ?_ ?_); (· rfl); (· rfl); (· rfl); (· exact B0.out)) | ((with_reducible refine load_at ?_ ?_ (w6.heap.size) ?_ someB ?_ ?_); (· rfl); (· rfl); (· rfl); (· exact B2.out)))
  refine (aw_r2 _).mono ?_; rintro e w8 ⟨rfl, hb8⟩
  replace bel := Bx.then_below bel hb8
  replace B0 := Lib.hid (B0.out.keep hb8)
  replace B1 := Lib.hid (B1.out.keep hb8)
  replace B2 := Lib.hid (B2.out.keep hb8)
  clear hb8
  replace B0 := Lib.hid (B0.out.more (Obj.cells (bpl zeroB).toArray 26))
  replace B1 := Lib.hid (B1.out.more (Obj.cells (bpl zeroB).toArray 26))
  replace B2 := Lib.hid (B2.out.more (Obj.cells (bpl zeroB).toArray 26))
  have B3 := Lib.hid (Bx.Blk.new w8 (bpl zeroB) 26)
  replace bel := Bx.bel_box bel (Obj.cells (bpl zeroB).toArray 26)
  clear c1_0 c1_1 c1_2 c1_3 c1_4 c1_5 c1_6
  obtain ⟨c1_0, c1_1, c1_2, c1_3, c1_4, c1_5, c1_6⟩ := B1.out.all7
  go_wp2_with (first | ((with_reducible refine load_at ?_ ?_ (w3.heap.size) ?_ someB ?_ ?_); (· rfl); (· rfl); (· rfl); (· exact B0.out)) | ((with_reducible refine load_at ?_ ?_ (w6.heap.size) ?_ someB ?_ ?_); (· rfl); (· rfl); (· rfl); (· exact B2.out)) | ((with_reducible refine load_at ?_ ?_ (w8.heap.size) ?_ zeroB ?_ ?_); (· rfl); (· rfl); (· rfl); (· exact B3.out)) | ((with_reducible refine new_at ?_ ?_ (w8.heap.size) zeroB zeroB ?_ ?_ w8 ?_ ?_ ?_); (· rfl); (· rfl); (· rfl); (· rfl); (· rfl); (· simp)))
  refine (aw_o2 _).mono ?_; rintro e w9 ⟨rfl, hb9⟩
  replace bel := Bx.then_below bel hb9
  replace B0 := Lib.hid (B0.out.keep hb9)
  replace B1 := Lib.hid (B1.out.keep hb9)
  replace B2 := Lib.hid (B2.out.keep hb9)
  replace B3 := Lib.hid (B3.out.keep hb9)
  clear hb9
  replace B0 := Lib.hid (B0.out.more (Obj.cells (bpl zeroB).toArray 26))
  replace B1 := Lib.hid (B1.out.more (Obj.cells (bpl zeroB).toArray 26))
  replace B2 := Lib.hid (B2.out.more (Obj.cells (bpl zeroB).toArray 26))
  replace B3 := Lib.hid (B3.out.more (Obj.cells (bpl zeroB).toArray 26))
  have B4 := Lib.hid (Bx.Blk.new w9 (bpl zeroB) 26)
  replace bel := Bx.bel_box bel (Obj.cells (bpl zeroB).toArray 26)
  clear c1_0 c1_1 c1_2 c1_3 c1_4 c1_5 c1_6
  obtain ⟨c1_0, c1_1, c1_2, c1_3, c1_4, c1_5, c1_6⟩ := B1.out.all7
  go_wp2_with (first | ((with_reducible refine load_at ?_ ?_ (w3.heap.size) ?_ someB ?_ ?_); (· rfl); (· rfl); (· rfl); (· exact B0.out)) | ((with_reducible refine load_at ?_ ?_ (w6.heap.size) ?_ someB ?_ ?_); (· rfl); (· rfl); (· rfl); (· exact B2.out)) | ((with_reducible refine load_at ?_ ?_ (w8.heap.size) ?_ zeroB ?_ ?_); (· rfl); (· rfl); (· rfl); (· exact B3.out)) | ((with_reducible refine load_at ?_ ?_ (w9.heap.size) ?_ zeroB ?_ ?_); (· rfl); (· rfl); (· rfl); (· exact B4.out)) | ((with_reducible refine new_at ?_ ?_ (w9.heap.size) zeroB zeroB ?_ ?_ w9 ?_ ?_ ?_); (· rfl); (· rfl); (· rfl); (· rfl); (· rfl); (· simp)))
  generalize w3.heap.size = m0 at *
  generalize w5.heap.size = m1 at *
  generalize w6.heap.size = m2 at *
  generalize w8.heap.size = m3 at *
  generalize w9.heap.size = m4 at *
  generalize w9.alloc (Obj.cells (bpl zeroB).toArray 26) = W0 at *
  clear c1_0 c1_1 c1_2 c1_3 c1_4 c1_6
  refine wp_region_noPanic ?_
  refine wp_region_held_drew (S := fun w' => Bx.Blk w' m0 (bpl someB) ∧ Bx.Blk w' m2 (bpl someB) ∧ w'.cell? ⟨m1, 5, none⟩ = some (.int .i64 39)) (by kernel_rfl) (by exact ⟨B0.out, B2.out, c1_5⟩) (fun hHeld => ?_)
  replace bel := Bx.bel_drewn bel
  refine wpAnyH_take (i := 0) (oi := ?o0_1) (v := ?v0_1) ?hi0_1 (by kernel_rfl) (by kernel_rfl) (by kernel_rfl) (fun _ _ _ h => h) ?y0_1 (by assumption) ?r0_1
  case hi0_1 => (simp only [List.getElem?_toArray]; rfl)
  case y0_1 => (refine Or.inl ⟨by rfl, ?_⟩; intro w' hSw; (try dsimp only at hSw); go_simp; (try with_reducible rfl))
  try simp only [Act.put, List.setIfInBounds_toArray, List.set_cons_zero, List.set_cons_succ]
  refine wpAnyH_take (i := 1) (oi := ?o1_2) (v := ?v1_2) ?hi1_2 (by kernel_rfl) (by kernel_rfl) (by kernel_rfl) (fun _ _ _ h => h) ?y1_2 (by assumption) ?r1_2
  case hi1_2 => (simp only [List.getElem?_toArray, List.getElem?_cons_succ]; rfl)
  case y1_2 => (refine Or.inl ⟨by rfl, ?_⟩; intro w' hSw; (try dsimp only at hSw); go_simp; (try with_reducible rfl))
  try simp only [Act.put, List.setIfInBounds_toArray, List.set_cons_zero, List.set_cons_succ]
  refine wpAnyH_take (i := 2) (oi := ?o2_3) (v := ?v2_3) ?hi2_3 (by kernel_rfl) (by kernel_rfl) (by kernel_rfl) (fun _ _ _ h => h) ?y2_3 (by assumption) ?r2_3
  case hi2_3 => (simp only [List.getElem?_toArray, List.getElem?_cons_succ]; rfl)
  case y2_3 => (refine Or.inl ⟨by rfl, ?_⟩; intro w' hSw; (try dsimp only at hSw); go_simp; (try with_reducible rfl))
  try simp only [Act.put, List.setIfInBounds_toArray, List.set_cons_zero, List.set_cons_succ]
  refine wpAnyH_take (i := 3) (oi := ?o3_4) (v := ?v3_4) ?hi3_4 (by kernel_rfl) (by kernel_rfl) (by kernel_rfl) (fun _ _ _ h => h) ?y3_4 (by assumption) ?r3_4
  case hi3_4 => (simp only [List.getElem?_toArray, List.getElem?_cons_succ]; rfl)
  case y3_4 => (refine Or.inl ⟨by rfl, ?_⟩; intro w' hSw; (try dsimp only at hSw); go_simp; (try with_reducible rfl))
  try simp only [Act.put, List.setIfInBounds_toArray, List.set_cons_zero, List.set_cons_succ]
  refine wpAnyH_take (i := 4) (oi := ?o4_5) (v := ?v4_5) ?hi4_5 (by kernel_rfl) (by kernel_rfl) (by kernel_rfl) (fun _ _ _ h => h) ?y4_5 (by assumption) ?r4_5
  case hi4_5 => (simp only [List.getElem?_toArray, List.getElem?_cons_succ]; rfl)
  case y4_5 => (refine Or.inl ⟨by rfl, ?_⟩; intro w' hSw; (try dsimp only at hSw); go_simp; (try with_reducible rfl))
  try simp only [Act.put, List.setIfInBounds_toArray, List.set_cons_zero, List.set_cons_succ]
  refine wpAnyH_take (i := 5) (oi := ?o5_6) (v := ?v5_6) ?hi5_6 (by kernel_rfl) (by kernel_rfl) (by kernel_rfl) (fun _ _ _ h => h) ?y5_6 (by assumption) ?r5_6
  case hi5_6 => (simp only [List.getElem?_toArray, List.getElem?_cons_succ]; rfl)
  case y5_6 => (refine Or.inl ⟨by rfl, ?_⟩; intro w' hSw; (try dsimp only at hSw); go_simp; (try with_reducible rfl))
  try simp only [Act.put, List.setIfInBounds_toArray, List.set_cons_zero, List.set_cons_succ]
  refine wpAnyH_take (i := 6) (oi := ?o6_7) (v := ?v6_7) ?hi6_7 (by kernel_rfl) (by kernel_rfl) (by kernel_rfl) (fun _ _ _ h => h) ?y6_7 (by assumption) ?r6_7
  case hi6_7 => (simp only [List.getElem?_toArray, List.getElem?_cons_succ]; rfl)
  case y6_7 => (refine Or.inl ⟨by rfl, ?_⟩; intro w' hSw; (try dsimp only at hSw); go_simp; (try with_reducible rfl))
  try simp only [Act.put, List.setIfInBounds_toArray, List.set_cons_zero, List.set_cons_succ]
  refine wpAnyH_take (i := 7) (oi := ?o7_8) (v := ?v7_8) ?hi7_8 (by kernel_rfl) (by kernel_rfl) (by kernel_rfl) (fun _ _ _ h => h) ?y7_8 (by assumption) ?r7_8
  case hi7_8 => (simp only [List.getElem?_toArray, List.getElem?_cons_succ]; rfl)
  case y7_8 => (refine Or.inl ⟨by rfl, ?_⟩; intro w' hSw; (try dsimp only at hSw); go_simp; (try with_reducible rfl))
  try simp only [Act.put, List.setIfInBounds_toArray, List.set_cons_zero, List.set_cons_succ]
  refine wpAnyH_take (i := 8) (oi := ?o8_9) (v := ?v8_9) ?hi8_9 (by kernel_rfl) (by kernel_rfl) (by kernel_rfl) (fun _ _ _ h => h) ?y8_9 (by assumption) ?r8_9
  case hi8_9 => (simp only [List.getElem?_toArray, List.getElem?_cons_succ]; rfl)
  case y8_9 => (refine Or.inl ⟨by rfl, ?_⟩; intro w' hSw; (try dsimp only at hSw); go_simp; (try with_reducible rfl))
  try simp only [Act.put, List.setIfInBounds_toArray, List.set_cons_zero, List.set_cons_succ]
  refine wpAnyH_take (i := 9) (oi := ?o9_10) (v := ?v9_10) ?hi9_10 (by kernel_rfl) (by kernel_rfl) (by kernel_rfl) (fun _ _ _ h => h) ?y9_10 (by assumption) ?r9_10
  case hi9_10 => (simp only [List.getElem?_toArray, List.getElem?_cons_succ]; rfl)
  case y9_10 => (refine Or.inl ⟨by rfl, ?_⟩; intro w' hSw; (try dsimp only at hSw); go_simp; (try with_reducible rfl))
  try simp only [Act.put, List.setIfInBounds_toArray, List.set_cons_zero, List.set_cons_succ]
  refine wpAnyH_take (i := 10) (oi := ?o10_11) (v := ?v10_11) ?hi10_11 (by kernel_rfl) (by kernel_rfl) (by kernel_rfl) (fun _ _ _ h => h) ?y10_11 (by assumption) ?r10_11
  case hi10_11 => (simp only [List.getElem?_toArray, List.getElem?_cons_succ]; rfl)
  case y10_11 => (refine Or.inl ⟨by rfl, ?_⟩; intro w' hSw; (try dsimp only at hSw); go_simp; (try with_reducible rfl))
  try simp only [Act.put, List.setIfInBounds_toArray, List.set_cons_zero, List.set_cons_succ]
  refine wpAnyH_take (i := 11) (oi := ?o11_12) (v := ?v11_12) ?hi11_12 (by kernel_rfl) (by kernel_rfl) (by kernel_rfl) (fun _ _ _ h => h) ?y11_12 (by assumption) ?r11_12
  case hi11_12 => (simp only [List.getElem?_toArray, List.getElem?_cons_succ]; rfl)
  case y11_12 => (refine Or.inl ⟨by rfl, ?_⟩; intro w' hSw; (try dsimp only at hSw); go_simp; (try with_reducible rfl))
  try simp only [Act.put, List.setIfInBounds_toArray, List.set_cons_zero, List.set_cons_succ]
  refine wpAnyH_take (i := 12) (oi := ?o12_13) (v := bp someB) ?hi12_13 (by kernel_rfl) (by kernel_rfl) (by kernel_rfl) (fun _ _ _ h => h) ?y12_13 (by assumption) ?r12_13
  case hi12_13 => (simp only [List.getElem?_toArray, List.getElem?_cons_succ]; rfl)
  case y12_13 => (refine yields_bp rfl _ rfl (m0) rfl someB ?_; intro w' hS; exact hS.1)
  try simp only [Act.put, List.setIfInBounds_toArray, List.set_cons_zero, List.set_cons_succ]
  refine wpAnyH_ready (rs := [13]) (by kernel_rfl) (by simp) ?_
  refine AllReadyH.cons (o := ?o13_14) ?hi13_14 ?hst13_14 AllReadyH.nil
  case hi13_14 => (simp only [List.getElem?_toArray, List.getElem?_cons_succ]; rfl)
  intro K hK
  go_simp
  (go_at_call 19; (with_reducible refine (some_any _).mono ?_); rintro e w10 ⟨rfl, hb10⟩)
  go_wp2_with fail
  refine hK.out _ _ ⟨Bx.Blk.keep hHeld.1 hb10, Bx.Blk.keep hHeld.2.1 hb10, Bx.keep_cell hb10 hHeld.2.2⟩ (fun hNew => ?_)
  clear hHeld
  have hHeld := hNew
  clear hNew hK K
  replace bel := Bx.then_below bel hb10
  refine wpAnyH_take (i := 14) (oi := ?o14_15) (v := ?v14_15) ?hi14_15 (by kernel_rfl) (by kernel_rfl) (by kernel_rfl) (fun _ _ _ h => h) ?y14_15 (by assumption) ?r14_15
  case hi14_15 => (simp only [List.getElem?_toArray, List.getElem?_cons_succ]; rfl)
  case y14_15 => (refine Or.inl ⟨by rfl, ?_⟩; intro w' hSw; (try dsimp only at hSw); go_simp; (try with_reducible rfl))
  try simp only [Act.put, List.setIfInBounds_toArray, List.set_cons_zero, List.set_cons_succ]
  refine wpAnyH_take (i := 15) (oi := ?o15_16) (v := ?v15_16) ?hi15_16 (by kernel_rfl) (by kernel_rfl) (by kernel_rfl) (fun _ _ _ h => h) ?y15_16 (by assumption) ?r15_16
  case hi15_16 => (simp only [List.getElem?_toArray, List.getElem?_cons_succ]; rfl)
  case y15_16 => (refine Or.inl ⟨by rfl, ?_⟩; intro w' hSw; (try dsimp only at hSw); go_simp; (try with_reducible rfl))
  try simp only [Act.put, List.setIfInBounds_toArray, List.set_cons_zero, List.set_cons_succ]
  refine wpAnyH_take (i := 16) (oi := ?o16_17) (v := ?v16_17) ?hi16_17 (by kernel_rfl) (by kernel_rfl) (by kernel_rfl) (fun _ _ _ h => h) ?y16_17 (by assumption) ?r16_17
  case hi16_17 => (simp only [List.getElem?_toArray, List.getElem?_cons_succ]; rfl)
  case y16_17 => (refine Or.inl ⟨by rfl, ?_⟩; intro w' hSw; (try dsimp only at hSw); go_simp; (try with_reducible rfl))
  try simp only [Act.put, List.setIfInBounds_toArray, List.set_cons_zero, List.set_cons_succ]
  refine wpAnyH_take (i := 17) (oi := ?o17_18) (v := ?v17_18) ?hi17_18 (by kernel_rfl) (by kernel_rfl) (by kernel_rfl) (fun _ _ _ h => h) ?y17_18 (by assumption) ?r17_18
  case hi17_18 => (simp only [List.getElem?_toArray, List.getElem?_cons_succ]; rfl)
  case y17_18 => (refine Or.inl ⟨by rfl, ?_⟩; intro w' hSw; (try dsimp only at hSw); go_simp; (try with_reducible rfl))
  try simp only [Act.put, List.setIfInBounds_toArray, List.set_cons_zero, List.set_cons_succ]
  refine wpAnyH_take (i := 18) (oi := ?o18_19) (v := ?v18_19) ?hi18_19 (by kernel_rfl) (by kernel_rfl) (by kernel_rfl) (fun _ _ _ h => h) ?y18_19 (by assumption) ?r18_19
  case hi18_19 => (simp only [List.getElem?_toArray, List.getElem?_cons_succ]; rfl)
  case y18_19 => (refine Or.inl ⟨by rfl, ?_⟩; intro w' hSw; (try dsimp only at hSw); go_simp; (try with_reducible rfl))
  try simp only [Act.put, List.setIfInBounds_toArray, List.set_cons_zero, List.set_cons_succ]
  refine wpAnyH_take (i := 19) (oi := ?o19_20) (v := ?v19_20) ?hi19_20 (by kernel_rfl) (by kernel_rfl) (by kernel_rfl) (fun _ _ _ h => h) ?y19_20 (by assumption) ?r19_20
  case hi19_20 => (simp only [List.getElem?_toArray, List.getElem?_cons_succ]; rfl)
  case y19_20 => (refine Or.inl ⟨by rfl, ?_⟩; intro w' hSw; (try dsimp only at hSw); go_simp; (try with_reducible rfl))
  try simp only [Act.put, List.setIfInBounds_toArray, List.set_cons_zero, List.set_cons_succ]
  refine wpAnyH_take (i := 20) (oi := ?o20_21) (v := ?v20_21) ?hi20_21 (by kernel_rfl) (by kernel_rfl) (by kernel_rfl) (fun _ _ _ h => h) ?y20_21 (by assumption) ?r20_21
  case hi20_21 => (simp only [List.getElem?_toArray, List.getElem?_cons_succ]; rfl)
  case y20_21 => (refine Or.inl ⟨by rfl, ?_⟩; intro w' hSw; (try dsimp only at hSw); go_simp; (try with_reducible rfl))
  try simp only [Act.put, List.setIfInBounds_toArray, List.set_cons_zero, List.set_cons_succ]
  refine wpAnyH_take (i := 21) (oi := ?o21_22) (v := ?v21_22) ?hi21_22 (by kernel_rfl) (by kernel_rfl) (by kernel_rfl) (fun _ _ _ h => h) ?y21_22 (by assumption) ?r21_22
  case hi21_22 => (simp only [List.getElem?_toArray, List.getElem?_cons_succ]; rfl)
  case y21_22 => (refine Or.inl ⟨by rfl, ?_⟩; intro w' hSw; (try dsimp only at hSw); go_simp; (try with_reducible rfl))
  try simp only [Act.put, List.setIfInBounds_toArray, List.set_cons_zero, List.set_cons_succ]
  refine wpAnyH_take (i := 22) (oi := ?o22_23) (v := ?v22_23) ?hi22_23 (by kernel_rfl) (by kernel_rfl) (by kernel_rfl) (fun _ _ _ h => h) ?y22_23 (by assumption) ?r22_23
  case hi22_23 => (simp only [List.getElem?_toArray, List.getElem?_cons_succ]; rfl)
  case y22_23 => (refine Or.inl ⟨by rfl, ?_⟩; intro w' hSw; (try dsimp only at hSw); go_simp; (try with_reducible rfl))
  try simp only [Act.put, List.setIfInBounds_toArray, List.set_cons_zero, List.set_cons_succ]
  refine wpAnyH_take (i := 23) (oi := ?o23_24) (v := ?v23_24) ?hi23_24 (by kernel_rfl) (by kernel_rfl) (by kernel_rfl) (fun _ _ _ h => h) ?y23_24 (by assumption) ?r23_24
  case hi23_24 => (simp only [List.getElem?_toArray, List.getElem?_cons_succ]; rfl)
  case y23_24 => (refine Or.inl ⟨by rfl, ?_⟩; intro w' hSw; (try dsimp only at hSw); go_simp; (try with_reducible rfl))
  try simp only [Act.put, List.setIfInBounds_toArray, List.set_cons_zero, List.set_cons_succ]
  refine wpAnyH_take (i := 24) (oi := ?o24_25) (v := ?v24_25) ?hi24_25 (by kernel_rfl) (by kernel_rfl) (by kernel_rfl) (fun _ _ _ h => h) ?y24_25 (by assumption) ?r24_25
  case hi24_25 => (simp only [List.getElem?_toArray, List.getElem?_cons_succ]; rfl)
  case y24_25 => (refine Or.inl ⟨by rfl, ?_⟩; intro w' hSw; (try dsimp only at hSw); go_simp; (try with_reducible rfl))
  try simp only [Act.put, List.setIfInBounds_toArray, List.set_cons_zero, List.set_cons_succ]
  refine wpAnyH_take (i := 25) (oi := ?o25_26) (v := ?v25_26) ?hi25_26 (by kernel_rfl) (by kernel_rfl) (by kernel_rfl) (fun _ _ _ h => h) ?y25_26 (by assumption) ?r25_26
  case hi25_26 => (simp only [List.getElem?_toArray, List.getElem?_cons_succ]; rfl)
  case y25_26 => (refine Or.inl ⟨by rfl, ?_⟩; intro w' hSw; (try dsimp only at hSw); go_simp; (try with_reducible rfl))
  try simp only [Act.put, List.setIfInBounds_toArray, List.set_cons_zero, List.set_cons_succ]
  refine wpAnyH_take (i := 26) (oi := ?o26_27) (v := ?v26_27) ?hi26_27 (by kernel_rfl) (by kernel_rfl) (by kernel_rfl) (fun _ _ _ h => h) ?y26_27 (by assumption) ?r26_27
  case hi26_27 => (simp only [List.getElem?_toArray, List.getElem?_cons_succ]; rfl)
  case y26_27 => (refine Or.inl ⟨by rfl, ?_⟩; intro w' hSw; (try dsimp only at hSw); go_simp; (try with_reducible rfl))
  try simp only [Act.put, List.setIfInBounds_toArray, List.set_cons_zero, List.set_cons_succ]
  refine wpAnyH_take (i := 27) (oi := ?o27_28) (v := ?v27_28) ?hi27_28 (by kernel_rfl) (by kernel_rfl) (by kernel_rfl) (fun _ _ _ h => h) ?y27_28 (by assumption) ?r27_28
  case hi27_28 => (simp only [List.getElem?_toArray, List.getElem?_cons_succ]; rfl)
  case y27_28 => (refine Or.inl ⟨by rfl, ?_⟩; intro w' hSw; (try dsimp only at hSw); go_simp; (try with_reducible rfl))
  try simp only [Act.put, List.setIfInBounds_toArray, List.set_cons_zero, List.set_cons_succ]
  refine wpAnyH_take (i := 28) (oi := ?o28_29) (v := ?v28_29) ?hi28_29 (by kernel_rfl) (by kernel_rfl) (by kernel_rfl) (fun _ _ _ h => h) ?y28_29 (by assumption) ?r28_29
  case hi28_29 => (simp only [List.getElem?_toArray, List.getElem?_cons_succ]; rfl)
  case y28_29 => (refine Or.inl ⟨by rfl, ?_⟩; intro w' hSw; (try dsimp only at hSw); go_simp; (try with_reducible rfl))
  try simp only [Act.put, List.setIfInBounds_toArray, List.set_cons_zero, List.set_cons_succ]
  refine wpAnyH_take (i := 29) (oi := ?o29_30) (v := ?v29_30) ?hi29_30 (by kernel_rfl) (by kernel_rfl) (by kernel_rfl) (fun _ _ _ h => h) ?y29_30 (by assumption) ?r29_30
  case hi29_30 => (simp only [List.getElem?_toArray, List.getElem?_cons_succ]; rfl)
  case y29_30 => (refine Or.inl ⟨by rfl, ?_⟩; intro w' hSw; (try dsimp only at hSw); go_simp; (try with_reducible rfl))
  try simp only [Act.put, List.setIfInBounds_toArray, List.set_cons_zero, List.set_cons_succ]
  refine wpAnyH_take (i := 30) (oi := ?o30_31) (v := bp someB) ?hi30_31 (by kernel_rfl) (by kernel_rfl) (by kernel_rfl) (fun _ _ _ h => h) ?y30_31 (by assumption) ?r30_31
  case hi30_31 => (simp only [List.getElem?_toArray, List.getElem?_cons_succ]; rfl)
  case y30_31 => (refine yields_bp rfl _ rfl (m2) rfl someB ?_; intro w' hS; exact hS.2.1)
  try simp only [Act.put, List.setIfInBounds_toArray, List.set_cons_zero, List.set_cons_succ]
  refine wpAnyH_take (i := 31) (oi := ?o31_32) (v := bp someB) ?hi31_32 (by kernel_rfl) (by kernel_rfl) (by kernel_rfl) (fun _ _ _ h => h) ?y31_32 (by assumption) ?r31_32
  case hi31_32 => (simp only [List.getElem?_toArray, List.getElem?_cons_succ]; rfl)
  case y31_32 => (refine yields_bp rfl _ rfl (m0) rfl someB ?_; intro w' hS; exact hS.1)
  try simp only [Act.put, List.setIfInBounds_toArray, List.set_cons_zero, List.set_cons_succ]
  refine wpAnyH_take (i := 32) (oi := ?o32_33) (v := ?v32_33) ?hi32_33 (by kernel_rfl) (by kernel_rfl) (by kernel_rfl) (fun _ _ _ h => h) ?y32_33 (by assumption) ?r32_33
  case hi32_33 => (simp only [List.getElem?_toArray, List.getElem?_cons_succ]; rfl)
  case y32_33 => (refine Or.inl ⟨by rfl, ?_⟩; intro w' hSw; (try dsimp only at hSw); go_simp; (try with_reducible rfl))
  try simp only [Act.put, List.setIfInBounds_toArray, List.set_cons_zero, List.set_cons_succ]
  refine wpAnyH_take (i := 33) (oi := ?o33_34) (v := ?v33_34) ?hi33_34 (by kernel_rfl) (by kernel_rfl) (by kernel_rfl) (fun _ _ _ h => h) ?y33_34 (by assumption) ?r33_34
  case hi33_34 => (simp only [List.getElem?_toArray, List.getElem?_cons_succ]; rfl)
  case y33_34 => (refine Or.inl ⟨by rfl, ?_⟩; intro w' hSw; (try dsimp only at hSw); go_simp; (try with_reducible rfl))
  try simp only [Act.put, List.setIfInBounds_toArray, List.set_cons_zero, List.set_cons_succ]
  refine wpAnyH_take (i := 34) (oi := ?o34_35) (v := ?v34_35) ?hi34_35 (by kernel_rfl) (by kernel_rfl) (by kernel_rfl) (fun _ _ _ h => h) ?y34_35 (by assumption) ?r34_35
  case hi34_35 => (simp only [List.getElem?_toArray, List.getElem?_cons_succ]; rfl)
  case y34_35 => (refine Or.inl ⟨by rfl, ?_⟩; intro w' hSw; (try dsimp only at hSw); go_simp; (try with_reducible rfl))
  try simp only [Act.put, List.setIfInBounds_toArray, List.set_cons_zero, List.set_cons_succ]
  refine wpAnyH_take (i := 35) (oi := ?o35_36) (v := ?v35_36) ?hi35_36 (by kernel_rfl) (by kernel_rfl) (by kernel_rfl) (fun _ _ _ h => h) ?y35_36 (by assumption) ?r35_36
  case hi35_36 => (simp only [List.getElem?_toArray, List.getElem?_cons_succ]; rfl)
  case y35_36 => (refine Or.inl ⟨by rfl, ?_⟩; intro w' hSw; (try dsimp only at hSw); go_simp; (try with_reducible rfl))
  try simp only [Act.put, List.setIfInBounds_toArray, List.set_cons_zero, List.set_cons_succ]
  refine wpAnyH_take (i := 36) (oi := ?o36_37) (v := ?v36_37) ?hi36_37 (by kernel_rfl) (by kernel_rfl) (by kernel_rfl) (fun _ _ _ h => h) ?y36_37 (by assumption) ?r36_37
  case hi36_37 => (simp only [List.getElem?_toArray, List.getElem?_cons_succ]; rfl)
  case y36_37 => (refine Or.inl ⟨by rfl, ?_⟩; intro w' hSw; (try dsimp only at hSw); go_simp; (try with_reducible rfl))
  try simp only [Act.put, List.setIfInBounds_toArray, List.set_cons_zero, List.set_cons_succ]
  refine wpAnyH_take (i := 37) (oi := ?o37_38) (v := ?v37_38) ?hi37_38 (by kernel_rfl) (by kernel_rfl) (by kernel_rfl) (fun _ _ _ h => h) ?y37_38 (by assumption) ?r37_38
  case hi37_38 => (simp only [List.getElem?_toArray, List.getElem?_cons_succ]; rfl)
  case y37_38 => (refine Or.inl ⟨by rfl, ?_⟩; intro w' hSw; (try dsimp only at hSw); go_simp; (try with_reducible rfl))
  try simp only [Act.put, List.setIfInBounds_toArray, List.set_cons_zero, List.set_cons_succ]
  refine wpAnyH_take (i := 38) (oi := ?o38_39) (v := ?v38_39) ?hi38_39 (by kernel_rfl) (by kernel_rfl) (by kernel_rfl) (fun _ _ _ h => h) ?y38_39 (by assumption) ?r38_39
  case hi38_39 => (simp only [List.getElem?_toArray, List.getElem?_cons_succ]; rfl)
  case y38_39 => (refine Or.inl ⟨by rfl, ?_⟩; intro w' hSw; (try dsimp only at hSw); go_simp; (try with_reducible rfl))
  try simp only [Act.put, List.setIfInBounds_toArray, List.set_cons_zero, List.set_cons_succ]
  refine wpAnyH_take (i := 39) (oi := ?o39_40) (v := ?v39_40) ?hi39_40 (by kernel_rfl) (by kernel_rfl) (by kernel_rfl) (fun _ _ _ h => h) ?y39_40 (by assumption) ?r39_40
  case hi39_40 => (simp only [List.getElem?_toArray, List.getElem?_cons_succ]; rfl)
  case y39_40 => (refine Or.inl ⟨by rfl, ?_⟩; intro w' hSw; (try dsimp only at hSw); go_simp; (try with_reducible rfl))
  try simp only [Act.put, List.setIfInBounds_toArray, List.set_cons_zero, List.set_cons_succ]
  refine wpAnyH_take (i := 40) (oi := ?o40_41) (v := ?v40_41) ?hi40_41 (by kernel_rfl) (by kernel_rfl) (by kernel_rfl) (fun _ _ _ h => h) ?y40_41 (by assumption) ?r40_41
  case hi40_41 => (simp only [List.getElem?_toArray, List.getElem?_cons_succ]; rfl)
  case y40_41 => (refine Or.inl ⟨by rfl, ?_⟩; intro w' hSw; (try dsimp only at hSw); go_simp; (try with_reducible rfl))
  try simp only [Act.put, List.setIfInBounds_toArray, List.set_cons_zero, List.set_cons_succ]
  refine wpAnyH_take (i := 41) (oi := ?o41_42) (v := ?v41_42) ?hi41_42 (by kernel_rfl) (by kernel_rfl) (by kernel_rfl) (fun _ _ _ h => h) ?y41_42 (by assumption) ?r41_42
  case hi41_42 => (simp only [List.getElem?_toArray, List.getElem?_cons_succ]; rfl)
  case y41_42 => (refine Or.inl ⟨by rfl, ?_⟩; intro w' hSw; (try dsimp only at hSw); go_simp; (try with_reducible rfl))
  try simp only [Act.put, List.setIfInBounds_toArray, List.set_cons_zero, List.set_cons_succ]
  refine wpAnyH_take (i := 42) (oi := ?o42_43) (v := ?v42_43) ?hi42_43 (by kernel_rfl) (by kernel_rfl) (by kernel_rfl) (fun _ _ _ h => h) ?y42_43 (by assumption) ?r42_43
  case hi42_43 => (simp only [List.getElem?_toArray, List.getElem?_cons_succ]; rfl)
  case y42_43 => (refine Or.inl ⟨by rfl, ?_⟩; intro w' hSw; (try dsimp only at hSw); go_simp; (try with_reducible rfl))
  try simp only [Act.put, List.setIfInBounds_toArray, List.set_cons_zero, List.set_cons_succ]
  refine wpAnyH_take (i := 43) (oi := ?o43_44) (v := ?v43_44) ?hi43_44 (by kernel_rfl) (by kernel_rfl) (by kernel_rfl) (fun _ _ _ h => h) ?y43_44 (by assumption) ?r43_44
  case hi43_44 => (simp only [List.getElem?_toArray, List.getElem?_cons_succ]; rfl)
  case y43_44 => (refine Or.inl ⟨by rfl, ?_⟩; intro w' hSw; (try dsimp only at hSw); go_simp; (try with_reducible rfl))
  try simp only [Act.put, List.setIfInBounds_toArray, List.set_cons_zero, List.set_cons_succ]
  refine wpAnyH_take (i := 44) (oi := ?o44_45) (v := ?v44_45) ?hi44_45 (by kernel_rfl) (by kernel_rfl) (by kernel_rfl) (fun _ _ _ h => h) ?y44_45 (by assumption) ?r44_45
  case hi44_45 => (simp only [List.getElem?_toArray, List.getElem?_cons_succ]; rfl)
  case y44_45 => (refine Or.inl ⟨by rfl, ?_⟩; intro w' hSw; (try dsimp only at hSw); go_simp; (try with_reducible rfl))
  try simp only [Act.put, List.setIfInBounds_toArray, List.set_cons_zero, List.set_cons_succ]
  refine wpAnyH_take (i := 45) (oi := ?o45_46) (v := ?v45_46) ?hi45_46 (by kernel_rfl) (by kernel_rfl) (by kernel_rfl) (fun _ _ _ h => h) ?y45_46 (by assumption) ?r45_46
  case hi45_46 => (simp only [List.getElem?_toArray, List.getElem?_cons_succ]; rfl)
  case y45_46 => (refine Or.inl ⟨by rfl, ?_⟩; intro w' hSw; (try dsimp only at hSw); go_simp; (try with_reducible rfl))
  try simp only [Act.put, List.setIfInBounds_toArray, List.set_cons_zero, List.set_cons_succ]
  refine wpAnyH_take (i := 46) (oi := ?o46_47) (v := ?v46_47) ?hi46_47 (by kernel_rfl) (by kernel_rfl) (by kernel_rfl) (fun _ _ _ h => h) ?y46_47 (by assumption) ?r46_47
  case hi46_47 => (simp only [List.getElem?_toArray, List.getElem?_cons_succ]; rfl)
  case y46_47 => (refine Or.inl ⟨by rfl, ?_⟩; intro w' hSw; (try dsimp only at hSw); go_simp; (try with_reducible rfl))
  try simp only [Act.put, List.setIfInBounds_toArray, List.set_cons_zero, List.set_cons_succ]
  refine wpAnyH_take (i := 47) (oi := ?o47_48) (v := ?v47_48) ?hi47_48 (by kernel_rfl) (by kernel_rfl) (by kernel_rfl) (fun _ _ _ h => h) ?y47_48 (by assumption) ?r47_48
  case hi47_48 => (simp only [List.getElem?_toArray, List.getElem?_cons_succ]; rfl)
  case y47_48 => (refine Or.inl ⟨by rfl, ?_⟩; intro w' hSw; (try dsimp only at hSw); go_simp; (try with_reducible rfl))
  try simp only [Act.put, List.setIfInBounds_toArray, List.set_cons_zero, List.set_cons_succ]
  refine wpAnyH_take (i := 48) (oi := ?o48_49) (v := ?v48_49) ?hi48_49 (by kernel_rfl) (by kernel_rfl) (by kernel_rfl) (fun _ _ _ h => h) ?y48_49 (by assumption) ?r48_49
  case hi48_49 => (simp only [List.getElem?_toArray, List.getElem?_cons_succ]; rfl)
  case y48_49 => (refine Or.inl ⟨by rfl, ?_⟩; intro w' hSw; (try dsimp only at hSw); go_simp; (try with_reducible rfl))
  try simp only [Act.put, List.setIfInBounds_toArray, List.set_cons_zero, List.set_cons_succ]
  refine wpAnyH_take (i := 49) (oi := ?o49_50) (v := ?v49_50) ?hi49_50 (by kernel_rfl) (by kernel_rfl) (by kernel_rfl) (fun _ _ _ h => h) ?y49_50 (by assumption) ?r49_50
  case hi49_50 => (simp only [List.getElem?_toArray, List.getElem?_cons_succ]; rfl)
  case y49_50 => (refine Or.inl ⟨by rfl, ?_⟩; intro w' hSw; (try dsimp only at hSw); go_simp; (try with_reducible rfl))
  try simp only [Act.put, List.setIfInBounds_toArray, List.set_cons_zero, List.set_cons_succ]
  refine wpAnyH_take (i := 50) (oi := ?o50_51) (v := ?v50_51) ?hi50_51 (by kernel_rfl) (by kernel_rfl) (by kernel_rfl) (fun _ _ _ h => h) ?y50_51 (by assumption) ?r50_51
  case hi50_51 => (simp only [List.getElem?_toArray, List.getElem?_cons_succ]; rfl)
  case y50_51 => (refine Or.inl ⟨by rfl, ?_⟩; intro w' hSw; (try dsimp only at hSw); go_simp; (try with_reducible rfl))
  try simp only [Act.put, List.setIfInBounds_toArray, List.set_cons_zero, List.set_cons_succ]
  refine wpAnyH_ready (rs := [51]) (by kernel_rfl) (by simp) ?_
  refine AllReadyH.cons (o := ?o51_52) ?hi51_52 ?hst51_52 AllReadyH.nil
  case hi51_52 => (simp only [List.getElem?_toArray, List.getElem?_cons_succ]; rfl)
  intro K hK
  go_simp
  (go_at_call 19; (with_reducible refine (some_any _).mono ?_); rintro e w11 ⟨rfl, hb11⟩)
  go_wp2_with fail
  refine hK.out _ _ ⟨Bx.Blk.keep hHeld.1 hb11, Bx.Blk.keep hHeld.2.1 hb11, Bx.keep_cell hb11 hHeld.2.2⟩ (fun hNew => ?_)
  clear hHeld
  have hHeld := hNew
  clear hNew hK K
  replace bel := Bx.then_below bel hb11
  refine wpAnyH_ready (rs := [52]) (by kernel_rfl) (by simp) ?_
  refine AllReadyH.cons (o := ?o52_53) ?hi52_53 ?hst52_53 AllReadyH.nil
  case hi52_53 => (simp only [List.getElem?_toArray, List.getElem?_cons_succ]; rfl)
  intro K hK
  go_simp
  (go_at_call 17; (with_reducible refine (aw_f _).mono ?_); rintro e w12 ⟨rfl, hb12⟩)
  go_wp2_with fail
  refine hK.out _ _ ⟨Bx.Blk.keep hHeld.1 hb12, Bx.Blk.keep hHeld.2.1 hb12, Bx.keep_cell hb12 hHeld.2.2⟩ (fun hNew => ?_)
  clear hHeld
  have hHeld := hNew
  clear hNew hK K
  replace bel := Bx.then_below bel hb12
  refine wpAnyH_take (i := 53) (oi := ?o53_54) (v := ?v53_54) ?hi53_54 (by kernel_rfl) (by kernel_rfl) (by kernel_rfl) (fun _ _ _ h => h) ?y53_54 (by assumption) ?r53_54
  case hi53_54 => (simp only [List.getElem?_toArray, List.getElem?_cons_succ]; rfl)
  case y53_54 => (refine Or.inl ⟨by rfl, ?_⟩; intro w' hSw; (try dsimp only at hSw); go_simp; (try with_reducible rfl))
  try simp only [Act.put, List.setIfInBounds_toArray, List.set_cons_zero, List.set_cons_succ]
  refine wpAnyH_take (i := 54) (oi := ?o54_55) (v := ?v54_55) ?hi54_55 (by kernel_rfl) (by kernel_rfl) (by kernel_rfl) (fun _ _ _ h => h) ?y54_55 (by assumption) ?r54_55
  case hi54_55 => (simp only [List.getElem?_toArray, List.getElem?_cons_succ]; rfl)
  case y54_55 => (refine Or.inl ⟨by rfl, ?_⟩; intro w' hSw; (try dsimp only at hSw); go_simp; (try with_reducible rfl))
  try simp only [Act.put, List.setIfInBounds_toArray, List.set_cons_zero, List.set_cons_succ]
  refine wpAnyH_take (i := 55) (oi := ?o55_56) (v := ?v55_56) ?hi55_56 (by kernel_rfl) (by kernel_rfl) (by kernel_rfl) (fun _ _ _ h => h) ?y55_56 (by assumption) ?r55_56
  case hi55_56 => (simp only [List.getElem?_toArray, List.getElem?_cons_succ]; rfl)
  case y55_56 => (refine Or.inl ⟨by rfl, ?_⟩; intro w' hSw; (try dsimp only at hSw); go_simp; (try with_reducible rfl))
  try simp only [Act.put, List.setIfInBounds_toArray, List.set_cons_zero, List.set_cons_succ]
  refine wpAnyH_take (i := 56) (oi := ?o56_57) (v := bp someB) ?hi56_57 (by kernel_rfl) (by kernel_rfl) (by kernel_rfl) (fun _ _ _ h => h) ?y56_57 (by assumption) ?r56_57
  case hi56_57 => (simp only [List.getElem?_toArray, List.getElem?_cons_succ]; rfl)
  case y56_57 => (refine yields_bp rfl _ rfl (m0) rfl someB ?_; intro w' hS; exact hS.1)
  try simp only [Act.put, List.setIfInBounds_toArray, List.set_cons_zero, List.set_cons_succ]
  refine wpAnyH_ready (rs := [57]) (by kernel_rfl) (by simp) ?_
  refine AllReadyH.cons (o := ?o57_58) ?hi57_58 ?hst57_58 AllReadyH.nil
  case hi57_58 => (simp only [List.getElem?_toArray, List.getElem?_cons_succ]; rfl)
  intro K hK
  go_simp
  (go_at_call 15; (with_reducible refine (aw_ri _).mono ?_); rintro e w13 ⟨rfl, hb13⟩)
  go_wp2_with fail
  refine hK.out _ _ ⟨Bx.Blk.keep hHeld.1 hb13, Bx.Blk.keep hHeld.2.1 hb13, Bx.keep_cell hb13 hHeld.2.2⟩ (fun hNew => ?_)
  clear hHeld
  have hHeld := hNew
  clear hNew hK K
  replace bel := Bx.then_below bel hb13
  refine wpAnyH_take (i := 58) (oi := ?o58_59) (v := ?v58_59) ?hi58_59 (by kernel_rfl) (by kernel_rfl) (by kernel_rfl) (fun _ _ _ h => h) ?y58_59 (by assumption) ?r58_59
  case hi58_59 => (simp only [List.getElem?_toArray, List.getElem?_cons_succ]; rfl)
  case y58_59 => (refine Or.inl ⟨by rfl, ?_⟩; intro w' hSw; (try dsimp only at hSw); go_simp; (try with_reducible rfl))
  try simp only [Act.put, List.setIfInBounds_toArray, List.set_cons_zero, List.set_cons_succ]
  refine wpAnyH_take (i := 59) (oi := ?o59_60) (v := ?v59_60) ?hi59_60 (by kernel_rfl) (by kernel_rfl) (by kernel_rfl) (fun _ _ _ h => h) ?y59_60 (by assumption) ?r59_60
  case hi59_60 => (simp only [List.getElem?_toArray, List.getElem?_cons_succ]; rfl)
  case y59_60 => (refine Or.inl ⟨by rfl, ?_⟩; intro w' hSw; (try dsimp only at hSw); go_simp; (try with_reducible rfl))
  try simp only [Act.put, List.setIfInBounds_toArray, List.set_cons_zero]
  refine wpAnyH_done (by kernel_rfl) ?_ _
  refine NoPanic.normal ?_
  go_wp2_with fail
  go_ret
  exact ⟨rfl, bel⟩

end Bpd
end Go.Proofs.Ytiokkahldhmhlaa
