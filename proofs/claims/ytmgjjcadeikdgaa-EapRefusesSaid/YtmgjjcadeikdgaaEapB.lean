/-
  What eap's small functions, and the document's answers beside them, answer for every argument; and that they change nothing that was there.
-/
import Derived.Test.YtmgjjcadeikdgaaEapA
namespace Go.Proofs.Ytmgjjcadeikdgaa
open Go.RowKit
namespace Eap
open Oct Mac Eth Epl

theorem and255 (i : Int) : bits BinOp.and IntKind.i64 i 255 = i % 256 := by
  simp only [bits, BitVec.toNat_and]
  rw [show (BitVec.ofInt IntKind.i64.bits 255).toNat = 255 by decide +kernel, show (255 : Nat) = 2 ^ 8 - 1 by rfl, Nat.and_two_pow_sub_one_eq_mod, BitVec.toNat_ofInt, show IntKind.i64.bits = 64 by rfl]
  have h : ((((i % (2 ^ 64 : Nat)).toNat % 2 ^ 8 : Nat)) : Int) = i % 256 := by omega
  rw [h]
  exact IntWalk.i64_in _ (by omega)

theorem wrap_any (i : Int) (w : World) :
    Calls Try.prog 35 #[.int .i64 i] w fun e w' => e = .returned (.int .i64 (i % 256)) ∧ w = w' := by
  have h1 : IntKind.u8.wrap i = i % 256 := IntKind.wrap_u8 i
  have h2 : IntKind.i64.wrap (i % 256) = i % 256 := IntWalk.i64_in _ (by omega)
  go_enter Try.func35, Try.ntmps35
  go_wp2
  go_ret
  exact ⟨rfl, rfl⟩

theorem ident_any (i : Int) (w : World) :
    Calls Try.prog 16 #[.int .i64 i] w fun e w' => e = .returned (pk 1 (i % 256) 1 ⟨#[]⟩) ∧ Below w.heap.size w w' := by
  go_enter Try.func16, Try.ntmps16
  go_wp2_with fail
  refine (wrap_any _ _).mono ?_; rintro e w' ⟨rfl, rfl⟩
  go_wp2_with fail
  refine bodyPost_ret (v := pk 1 (i % 256) 1 ⟨#[]⟩) ?_ rfl ⟨rfl, ?_⟩
  · simp [results, Try.results16, go_sem]
  · exact Bx.box_below _ _

theorem rident_any (i : Int) (w : World) :
    Calls Try.prog 17 #[.int .i64 i] w fun e w' => e = .returned (pk 1 (i % 256) 1 ⟨#[]⟩) ∧ Below w.heap.size w w' := by
  have h1 : bits BinOp.and IntKind.i64 i 255 = i % 256 := and255 i
  go_enter Try.func17, Try.ntmps17
  go_wp2_with fail
  refine bodyPost_ret (v := pk 1 (i % 256) 1 ⟨#[]⟩) ?_ rfl ⟨rfl, ?_⟩
  · simp [results, Try.results17, go_sem]
  · exact Bx.box_below _ _

theorem end_good (i : Int) (w : World) :
    Calls Try.prog 18 #[.int .i64 i, .bool true] w fun e w' => e = .returned (pk 3 (i % 256) 0 ⟨#[]⟩) ∧ Below w.heap.size w w' := by
  go_enter Try.func18, Try.ntmps18
  go_wp2_with fail
  refine (wrap_any _ _).mono ?_; rintro e w' ⟨rfl, rfl⟩
  go_wp2_with fail
  refine bodyPost_ret (v := pk 3 (i % 256) 0 ⟨#[]⟩) ?_ rfl ⟨rfl, ?_⟩
  · simp [results, Try.results18, go_sem]
  · exact Bx.box_below _ _

theorem end_bad (i : Int) (w : World) :
    Calls Try.prog 18 #[.int .i64 i, .bool false] w fun e w' => e = .returned (pk 4 (i % 256) 0 ⟨#[]⟩) ∧ Below w.heap.size w w' := by
  go_enter Try.func18, Try.ntmps18
  go_wp2_with fail
  refine (wrap_any _ _).mono ?_; rintro e w' ⟨rfl, rfl⟩
  go_wp2_with fail
  refine bodyPost_ret (v := pk 4 (i % 256) 0 ⟨#[]⟩) ?_ rfl ⟨rfl, ?_⟩
  · simp [results, Try.results18, go_sem]
  · exact Bx.box_below _ _

theorem end_any (i : Int) (g : Bool) (w : World) :
    Calls Try.prog 18 #[.int .i64 i, .bool g] w fun e w' => e = .returned (pk (if g then 3 else 4) (i % 256) 0 ⟨#[]⟩) ∧ Below w.heap.size w w' := by
  cases g
  · exact end_bad i w
  · exact end_good i w

theorem rend_good (i : Int) (w : World) :
    Calls Try.prog 19 #[.int .i64 i, .bool true] w fun e w' => e = .returned (pk 3 (i % 256) 0 ⟨#[]⟩) ∧ Below w.heap.size w w' := by
  have h1 : bits BinOp.and IntKind.i64 i 255 = i % 256 := and255 i
  go_enter Try.func19, Try.ntmps19
  go_wp2_with fail
  refine bodyPost_ret (v := pk 3 (i % 256) 0 ⟨#[]⟩) ?_ rfl ⟨rfl, ?_⟩
  · simp [results, Try.results19, go_sem]
  · exact Bx.box_below _ _

theorem rend_bad (i : Int) (w : World) :
    Calls Try.prog 19 #[.int .i64 i, .bool false] w fun e w' => e = .returned (pk 4 (i % 256) 0 ⟨#[]⟩) ∧ Below w.heap.size w w' := by
  have h1 : bits BinOp.and IntKind.i64 i 255 = i % 256 := and255 i
  go_enter Try.func19, Try.ntmps19
  go_wp2_with fail
  refine bodyPost_ret (v := pk 4 (i % 256) 0 ⟨#[]⟩) ?_ rfl ⟨rfl, ?_⟩
  · simp [results, Try.results19, go_sem]
  · exact Bx.box_below _ _

theorem rend_any (i : Int) (g : Bool) (w : World) :
    Calls Try.prog 19 #[.int .i64 i, .bool g] w fun e w' => e = .returned (pk (if g then 3 else 4) (i % 256) 0 ⟨#[]⟩) ∧ Below w.heap.size w w' := by
  cases g
  · exact rend_bad i w
  · exact rend_good i w

/-- What a code is called. -/
def wordT (c : Int) : ByteArray := if c = 1 then ⟨#[114, 101, 113, 117, 101, 115, 116]⟩ else if c = 2 then ⟨#[114, 101, 115, 112, 111, 110, 115, 101]⟩ else if c = 3 then ⟨#[115, 117, 99, 99, 101, 115, 115]⟩ else if c = 4 then ⟨#[102, 97, 105, 108, 117, 114, 101]⟩ else ⟨#[]⟩

theorem word_any (c i t : Int) (d : ByteArray) (w : World) :
    Calls Try.prog 24 #[pk c i t d] w fun e w' => e = .returned (.string (wordT c)) ∧ Below w.heap.size w w' := by
  by_cases h1 : c = 1 ∨ c = 2 ∨ c = 3 ∨ c = 4
  · rcases h1 with rfl | rfl | rfl | rfl <;>
    · go_enter Try.func24, Try.ntmps24
      go_wp2
      go_ret
      exact ⟨rfl, Bx.box_below _ _⟩
  · have e0 : wordT c = ⟨#[]⟩ := by unfold wordT; rw [if_neg (by omega), if_neg (by omega), if_neg (by omega), if_neg (by omega)]
    rw [e0]
    have e1 : (c == 1) = false := by simp; omega
    have e2 : (c == 2) = false := by simp; omega
    have e3 : (c == 3) = false := by simp; omega
    have e4 : (c == 4) = false := by simp; omega
    clear h1 e0
    go_enter Try.func24, Try.ntmps24
    go_wp2
    go_ret
    exact ⟨rfl, Bx.box_below _ _⟩

theorem rword_any (c i t : Int) (d : ByteArray) (w : World) :
    Calls Try.prog 25 #[pk c i t d] w fun e w' => e = .returned (.string (wordT c)) ∧ Below w.heap.size w w' := by
  by_cases h1 : c = 1 ∨ c = 2 ∨ c = 3 ∨ c = 4
  · rcases h1 with rfl | rfl | rfl | rfl <;>
    · go_enter Try.func25, Try.ntmps25
      go_wp2
      go_ret
      exact ⟨rfl, Bx.box_below _ _⟩
  · have e0 : wordT c = ⟨#[]⟩ := by unfold wordT; rw [if_neg (by omega), if_neg (by omega), if_neg (by omega), if_neg (by omega)]
    rw [e0]
    have e1 : (c == 1) = false := by simp; omega
    have e2 : (c == 2) = false := by simp; omega
    have e3 : (c == 3) = false := by simp; omega
    have e4 : (c == 4) = false := by simp; omega
    clear h1 e0
    go_enter Try.func25, Try.ntmps25
    go_wp2
    go_ret
    exact ⟨rfl, Bx.box_below _ _⟩

theorem fits_typed (c n : Int) (hc : c = 1 ∨ c = 2) (w : World) :
    Calls Try.prog 31 #[.int .i64 c, .int .i64 n] w fun e w' => e = .returned (.bool (decide (5 ≤ n))) ∧ w = w' := by
  go_enter Try.func31, Try.ntmps31
  go_wp2_with fail
  refine (typed_yes _ hc _).mono ?_; rintro e w' ⟨rfl, rfl⟩
  go_wp2_with fail
  go_ret
  exact ⟨rfl, rfl⟩

theorem fits_bare (c n : Int) (e1 : (c == 1) = false) (e2 : (c == 2) = false) (w : World) :
    Calls Try.prog 31 #[.int .i64 c, .int .i64 n] w fun e w' => e = .returned (.bool (decide (n = 4))) ∧ w = w' := by
  go_enter Try.func31, Try.ntmps31
  go_wp2_with fail
  refine (typed_no _ e1 e2 _).mono ?_; rintro e w' ⟨rfl, rfl⟩
  go_wp2_with fail
  go_ret
  exact ⟨ret_bool (by rw [Bool.eq_iff_iff]; simp), rfl⟩

/-- Whether the second answers the first. -/
def ansB (c i C I : Int) : Bool := decide (c = 1 ∧ C = 2 ∧ i = I)

set_option maxHeartbeats 1000000 in
theorem answer_code (c i t C I T : Int) (d D : ByteArray) (w : World) (h1 : (c == 1) = false) :
    Calls Try.prog 14 #[pk c i t d, pk C I T D] w fun e w' => e = .returned (.bool false) ∧ Below w.heap.size w w' := by
  have HB := Lib.hid (fun w => bare_any c i t d w)
  go_enter Try.func14, Try.ntmps14
  go_wp2_with fail
  have bel := Bx.bel_refl w
  have B0 := Lib.hid (Bx.Blk.new w [.int .i64 c, .int .i64 i, .int .i64 t, .string d] 23)
  replace bel := Bx.bel_box bel (Obj.cells #[.int .i64 c, .int .i64 i, .int .i64 t, .string d] 23)
  have c0_0 := B0.out.at 0 rfl
  have c0_1 := B0.out.at 1 rfl
  have c0_2 := B0.out.at 2 rfl
  have c0_3 := B0.out.at 3 rfl
  replace B0 := Lib.hid (B0.out.more (Obj.cells #[.int .i64 C, .int .i64 I, .int .i64 T, .string D] 23))
  have B1 := Lib.hid (Bx.Blk.new_at (W := (w.alloc (Obj.cells #[.int .i64 c, .int .i64 i, .int .i64 t, .string d] 23))) (k := w.heap.size + 1) [.int .i64 C, .int .i64 I, .int .i64 T, .string D] 23 (by simp))
  replace bel := Bx.bel_box bel (Obj.cells #[.int .i64 C, .int .i64 I, .int .i64 T, .string D] 23)
  clear c0_0 c0_1 c0_2 c0_3
  have c0_0 := B0.out.at 0 rfl
  have c0_1 := B0.out.at 1 rfl
  have c0_2 := B0.out.at 2 rfl
  have c0_3 := B0.out.at 3 rfl
  have c1_0 := B1.out.at 0 rfl
  have c1_1 := B1.out.at 1 rfl
  have c1_2 := B1.out.at 2 rfl
  have c1_3 := B1.out.at 3 rfl
  refine wp_region_noPanic ?_
  refine wp_region_held_drew (S := fun w' => w'.cell? ⟨w.heap.size, 0, none⟩ = some (.int .i64 c) ∧ w'.cell? ⟨w.heap.size, 1, none⟩ = some (.int .i64 i) ∧ w'.cell? ⟨w.heap.size, 2, none⟩ = some (.int .i64 t) ∧ w'.cell? ⟨w.heap.size, 3, none⟩ = some (.string d) ∧ w'.cell? ⟨w.heap.size + 1, 0, none⟩ = some (.int .i64 C) ∧ w'.cell? ⟨w.heap.size + 1, 1, none⟩ = some (.int .i64 I) ∧ w'.cell? ⟨w.heap.size + 1, 2, none⟩ = some (.int .i64 T) ∧ w'.cell? ⟨w.heap.size + 1, 3, none⟩ = some (.string D)) (by kernel_rfl) (by exact ⟨c0_0, c0_1, c0_2, c0_3, c1_0, c1_1, c1_2, c1_3⟩) (fun hHeld => ?_)
  refine wpAnyH_take (i := 0) (oi := ?o0) (v := ?v0) ?hi0 (by kernel_rfl) (by kernel_rfl) (by kernel_rfl) (fun _ _ _ h => h) ?y0 (by assumption) ?r0
  case hi0 => (simp only [List.getElem?_toArray, List.getElem?_cons_zero]; rfl)
  case y0 => (refine Or.inl ⟨by rfl, ?_⟩; intro w' hSw; (try dsimp only at hSw); go_simp; (try with_reducible rfl))
  try simp only [Act.put, List.setIfInBounds_toArray, List.set_cons_zero, List.set_cons_succ]
  refine wpAnyH_take (i := 2) (oi := ?o2) (v := ?v2) ?hi2 (by kernel_rfl) (by kernel_rfl) (by kernel_rfl) (fun _ _ _ h => h) ?y2 (by assumption) ?r2
  case hi2 => (simp only [List.getElem?_toArray, List.getElem?_cons_succ, List.getElem?_cons_zero]; rfl)
  case y2 => (refine Or.inl ⟨by rfl, ?_⟩; intro w' hSw; (try dsimp only at hSw); go_simp; (try with_reducible rfl))
  try simp only [Act.put, List.setIfInBounds_toArray, List.set_cons_zero, List.set_cons_succ]
  refine wpAnyH_take (i := 3) (oi := ?o3) (v := ?v3) ?hi3 (by kernel_rfl) (by kernel_rfl) (by kernel_rfl) (fun _ _ _ h => h) ?y3 (by assumption) ?r3
  case hi3 => (simp only [List.getElem?_toArray, List.getElem?_cons_succ, List.getElem?_cons_zero]; rfl)
  case y3 => (refine Or.inl ⟨by rfl, ?_⟩; intro w' hSw; (try dsimp only at hSw); go_simp; (try with_reducible rfl))
  try simp only [Act.put, List.setIfInBounds_toArray, List.set_cons_zero, List.set_cons_succ]
  refine wpAnyH_take (i := 4) (oi := ?o4) (v := ?v4) ?hi4 (by kernel_rfl) (by kernel_rfl) (by kernel_rfl) (fun _ _ _ h => h) ?y4 (by assumption) ?r4
  case hi4 => (simp only [List.getElem?_toArray, List.getElem?_cons_succ, List.getElem?_cons_zero]; rfl)
  case y4 => (refine Or.inl ⟨by rfl, ?_⟩; intro w' hSw; (try dsimp only at hSw); go_simp; (try with_reducible rfl))
  try simp only [Act.put, List.setIfInBounds_toArray, List.set_cons_zero, List.set_cons_succ]
  refine wpAnyH_ready (rs := [1]) (by kernel_rfl) (by simp) ?_
  refine AllReadyH.cons (o := ?o1) ?hi1 ?hst1 AllReadyH.nil
  case hi1 => (simp only [List.getElem?_toArray, List.getElem?_cons_succ, List.getElem?_cons_zero]; rfl)
  intro K hK
  go_simp
  (go_at_call 34; with_reducible refine (HB.out _).mono ?_; rintro e w2 ⟨rfl, hb2⟩)
  go_wp2_with fail
  refine hK.out _ _ ⟨Bx.keep_cell hb2 hHeld.1, Bx.keep_cell hb2 hHeld.2.1, Bx.keep_cell hb2 hHeld.2.2.1, Bx.keep_cell hb2 hHeld.2.2.2.1, Bx.keep_cell hb2 hHeld.2.2.2.2.1, Bx.keep_cell hb2 hHeld.2.2.2.2.2.1, Bx.keep_cell hb2 hHeld.2.2.2.2.2.2.1, Bx.keep_cell hb2 hHeld.2.2.2.2.2.2.2⟩ (fun hNew => ?_)
  clear hHeld
  have hHeld := hNew
  clear hNew
  refine wpAnyH_take (i := 5) (oi := ?o5) (v := ?v5) ?hi5 (by kernel_rfl) (by kernel_rfl) (by kernel_rfl) (fun _ _ _ h => h) ?y5 (by assumption) ?r5
  case hi5 => (simp only [List.getElem?_toArray, List.getElem?_cons_succ, List.getElem?_cons_zero]; rfl)
  case y5 => (refine Or.inl ⟨by rfl, ?_⟩; intro w' hSw; (try dsimp only at hSw); go_simp; (try with_reducible rfl))
  try simp only [Act.put, List.setIfInBounds_toArray, List.set_cons_zero, List.set_cons_succ]
  refine wpAnyH_take (i := 6) (oi := ?o6) (v := ?v6) ?hi6 (by kernel_rfl) (by kernel_rfl) (by kernel_rfl) (fun _ _ _ h => h) ?y6 (by assumption) ?r6
  case hi6 => (simp only [List.getElem?_toArray, List.getElem?_cons_succ, List.getElem?_cons_zero]; rfl)
  case y6 => (refine Or.inl ⟨by rfl, ?_⟩; intro w' hSw; (try dsimp only at hSw); go_simp; (try with_reducible rfl))
  try simp only [Act.put, List.setIfInBounds_toArray, List.set_cons_zero, List.set_cons_succ]
  refine wpAnyH_take (i := 7) (oi := ?o7) (v := undef) ?hi7 (by kernel_rfl) (by kernel_rfl) (by kernel_rfl) (fun _ _ _ h => h) ?y7 (by assumption) ?r7
  case hi7 => (simp only [List.getElem?_toArray, List.getElem?_cons_succ, List.getElem?_cons_zero]; rfl)
  case y7 => exact Or.inr ⟨by rfl, rfl⟩
  try simp only [Act.put, List.setIfInBounds_toArray, List.set_cons_zero, List.set_cons_succ]
  refine wpAnyH_take (i := 8) (oi := ?o8) (v := undef) ?hi8 (by kernel_rfl) (by kernel_rfl) (by kernel_rfl) (fun _ _ _ h => h) ?y8 (by assumption) ?r8
  case hi8 => (simp only [List.getElem?_toArray, List.getElem?_cons_succ, List.getElem?_cons_zero]; rfl)
  case y8 => exact Or.inr ⟨by rfl, rfl⟩
  try simp only [Act.put, List.setIfInBounds_toArray, List.set_cons_zero, List.set_cons_succ]
  refine wpAnyH_take (i := 9) (oi := ?o9) (v := undef) ?hi9 (by kernel_rfl) (by kernel_rfl) (by kernel_rfl) (fun _ _ _ h => h) ?y9 (by assumption) ?r9
  case hi9 => (simp only [List.getElem?_toArray, List.getElem?_cons_succ, List.getElem?_cons_zero]; rfl)
  case y9 => exact Or.inr ⟨by rfl, rfl⟩
  try simp only [Act.put, List.setIfInBounds_toArray, List.set_cons_zero, List.set_cons_succ]
  refine wpAnyH_take (i := 10) (oi := ?o10) (v := ?v10) ?hi10 (by kernel_rfl) (by kernel_rfl) (by kernel_rfl) (fun _ _ _ h => h) ?y10 (by assumption) ?r10
  case hi10 => (simp only [List.getElem?_toArray, List.getElem?_cons_succ, List.getElem?_cons_zero]; rfl)
  case y10 => (refine Or.inl ⟨by rfl, ?_⟩; intro w' hSw; (try dsimp only at hSw); go_simp; (try with_reducible rfl))
  try simp only [Act.put, List.setIfInBounds_toArray, List.set_cons_zero, List.set_cons_succ]
  refine wpAnyH_take (i := 11) (oi := ?o11) (v := ?v11) ?hi11 (by kernel_rfl) (by kernel_rfl) (by kernel_rfl) (fun _ _ _ h => h) ?y11 (by assumption) ?r11
  case hi11 => (simp only [List.getElem?_toArray, List.getElem?_cons_succ, List.getElem?_cons_zero]; rfl)
  case y11 => (refine Or.inl ⟨by rfl, ?_⟩; intro w' hSw; (try dsimp only at hSw); go_simp; (try with_reducible rfl))
  try simp only [Act.put, List.setIfInBounds_toArray, List.set_cons_zero, List.set_cons_succ]
  refine wpAnyH_done (by kernel_rfl) ?_ _
  refine NoPanic.normal ?_
  replace bel := Bx.bel_drew bel hb2
  go_wp2
  go_ret
  exact ⟨rfl, bel⟩

set_option maxHeartbeats 1000000 in
theorem answer_id (c i t C I T : Int) (d D : ByteArray) (w : World) (h1 : (c == 1) = true) (h2 : (i == I) = false) :
    Calls Try.prog 14 #[pk c i t d, pk C I T D] w fun e w' => e = .returned (.bool false) ∧ Below w.heap.size w w' := by
  have HB := Lib.hid (fun w => bare_any c i t d w)
  go_enter Try.func14, Try.ntmps14
  go_wp2_with fail
  have bel := Bx.bel_refl w
  have B0 := Lib.hid (Bx.Blk.new w [.int .i64 c, .int .i64 i, .int .i64 t, .string d] 23)
  replace bel := Bx.bel_box bel (Obj.cells #[.int .i64 c, .int .i64 i, .int .i64 t, .string d] 23)
  have c0_0 := B0.out.at 0 rfl
  have c0_1 := B0.out.at 1 rfl
  have c0_2 := B0.out.at 2 rfl
  have c0_3 := B0.out.at 3 rfl
  replace B0 := Lib.hid (B0.out.more (Obj.cells #[.int .i64 C, .int .i64 I, .int .i64 T, .string D] 23))
  have B1 := Lib.hid (Bx.Blk.new_at (W := (w.alloc (Obj.cells #[.int .i64 c, .int .i64 i, .int .i64 t, .string d] 23))) (k := w.heap.size + 1) [.int .i64 C, .int .i64 I, .int .i64 T, .string D] 23 (by simp))
  replace bel := Bx.bel_box bel (Obj.cells #[.int .i64 C, .int .i64 I, .int .i64 T, .string D] 23)
  clear c0_0 c0_1 c0_2 c0_3
  have c0_0 := B0.out.at 0 rfl
  have c0_1 := B0.out.at 1 rfl
  have c0_2 := B0.out.at 2 rfl
  have c0_3 := B0.out.at 3 rfl
  have c1_0 := B1.out.at 0 rfl
  have c1_1 := B1.out.at 1 rfl
  have c1_2 := B1.out.at 2 rfl
  have c1_3 := B1.out.at 3 rfl
  refine wp_region_noPanic ?_
  refine wp_region_held_drew (S := fun w' => w'.cell? ⟨w.heap.size, 0, none⟩ = some (.int .i64 c) ∧ w'.cell? ⟨w.heap.size, 1, none⟩ = some (.int .i64 i) ∧ w'.cell? ⟨w.heap.size, 2, none⟩ = some (.int .i64 t) ∧ w'.cell? ⟨w.heap.size, 3, none⟩ = some (.string d) ∧ w'.cell? ⟨w.heap.size + 1, 0, none⟩ = some (.int .i64 C) ∧ w'.cell? ⟨w.heap.size + 1, 1, none⟩ = some (.int .i64 I) ∧ w'.cell? ⟨w.heap.size + 1, 2, none⟩ = some (.int .i64 T) ∧ w'.cell? ⟨w.heap.size + 1, 3, none⟩ = some (.string D)) (by kernel_rfl) (by exact ⟨c0_0, c0_1, c0_2, c0_3, c1_0, c1_1, c1_2, c1_3⟩) (fun hHeld => ?_)
  refine wpAnyH_take (i := 0) (oi := ?o0) (v := ?v0) ?hi0 (by kernel_rfl) (by kernel_rfl) (by kernel_rfl) (fun _ _ _ h => h) ?y0 (by assumption) ?r0
  case hi0 => (simp only [List.getElem?_toArray, List.getElem?_cons_zero]; rfl)
  case y0 => (refine Or.inl ⟨by rfl, ?_⟩; intro w' hSw; (try dsimp only at hSw); go_simp; (try with_reducible rfl))
  try simp only [Act.put, List.setIfInBounds_toArray, List.set_cons_zero, List.set_cons_succ]
  refine wpAnyH_take (i := 2) (oi := ?o2) (v := ?v2) ?hi2 (by kernel_rfl) (by kernel_rfl) (by kernel_rfl) (fun _ _ _ h => h) ?y2 (by assumption) ?r2
  case hi2 => (simp only [List.getElem?_toArray, List.getElem?_cons_succ, List.getElem?_cons_zero]; rfl)
  case y2 => (refine Or.inl ⟨by rfl, ?_⟩; intro w' hSw; (try dsimp only at hSw); go_simp; (try with_reducible rfl))
  try simp only [Act.put, List.setIfInBounds_toArray, List.set_cons_zero, List.set_cons_succ]
  refine wpAnyH_take (i := 3) (oi := ?o3) (v := ?v3) ?hi3 (by kernel_rfl) (by kernel_rfl) (by kernel_rfl) (fun _ _ _ h => h) ?y3 (by assumption) ?r3
  case hi3 => (simp only [List.getElem?_toArray, List.getElem?_cons_succ, List.getElem?_cons_zero]; rfl)
  case y3 => (refine Or.inl ⟨by rfl, ?_⟩; intro w' hSw; (try dsimp only at hSw); go_simp; (try with_reducible rfl))
  try simp only [Act.put, List.setIfInBounds_toArray, List.set_cons_zero, List.set_cons_succ]
  refine wpAnyH_take (i := 4) (oi := ?o4) (v := ?v4) ?hi4 (by kernel_rfl) (by kernel_rfl) (by kernel_rfl) (fun _ _ _ h => h) ?y4 (by assumption) ?r4
  case hi4 => (simp only [List.getElem?_toArray, List.getElem?_cons_succ, List.getElem?_cons_zero]; rfl)
  case y4 => (refine Or.inl ⟨by rfl, ?_⟩; intro w' hSw; (try dsimp only at hSw); go_simp; (try with_reducible rfl))
  try simp only [Act.put, List.setIfInBounds_toArray, List.set_cons_zero, List.set_cons_succ]
  refine wpAnyH_ready (rs := [1]) (by kernel_rfl) (by simp) ?_
  refine AllReadyH.cons (o := ?o1) ?hi1 ?hst1 AllReadyH.nil
  case hi1 => (simp only [List.getElem?_toArray, List.getElem?_cons_succ, List.getElem?_cons_zero]; rfl)
  intro K hK
  go_simp
  (go_at_call 34; with_reducible refine (HB.out _).mono ?_; rintro e w2 ⟨rfl, hb2⟩)
  go_wp2_with fail
  refine hK.out _ _ ⟨Bx.keep_cell hb2 hHeld.1, Bx.keep_cell hb2 hHeld.2.1, Bx.keep_cell hb2 hHeld.2.2.1, Bx.keep_cell hb2 hHeld.2.2.2.1, Bx.keep_cell hb2 hHeld.2.2.2.2.1, Bx.keep_cell hb2 hHeld.2.2.2.2.2.1, Bx.keep_cell hb2 hHeld.2.2.2.2.2.2.1, Bx.keep_cell hb2 hHeld.2.2.2.2.2.2.2⟩ (fun hNew => ?_)
  clear hHeld
  have hHeld := hNew
  clear hNew
  refine wpAnyH_take (i := 5) (oi := ?o5) (v := ?v5) ?hi5 (by kernel_rfl) (by kernel_rfl) (by kernel_rfl) (fun _ _ _ h => h) ?y5 (by assumption) ?r5
  case hi5 => (simp only [List.getElem?_toArray, List.getElem?_cons_succ, List.getElem?_cons_zero]; rfl)
  case y5 => (refine Or.inl ⟨by rfl, ?_⟩; intro w' hSw; (try dsimp only at hSw); go_simp; (try with_reducible rfl))
  try simp only [Act.put, List.setIfInBounds_toArray, List.set_cons_zero, List.set_cons_succ]
  refine wpAnyH_take (i := 6) (oi := ?o6) (v := ?v6) ?hi6 (by kernel_rfl) (by kernel_rfl) (by kernel_rfl) (fun _ _ _ h => h) ?y6 (by assumption) ?r6
  case hi6 => (simp only [List.getElem?_toArray, List.getElem?_cons_succ, List.getElem?_cons_zero]; rfl)
  case y6 => (refine Or.inl ⟨by rfl, ?_⟩; intro w' hSw; (try dsimp only at hSw); go_simp; (try with_reducible rfl))
  try simp only [Act.put, List.setIfInBounds_toArray, List.set_cons_zero, List.set_cons_succ]
  refine wpAnyH_take (i := 7) (oi := ?o7) (v := undef) ?hi7 (by kernel_rfl) (by kernel_rfl) (by kernel_rfl) (fun _ _ _ h => h) ?y7 (by assumption) ?r7
  case hi7 => (simp only [List.getElem?_toArray, List.getElem?_cons_succ, List.getElem?_cons_zero]; rfl)
  case y7 => exact Or.inr ⟨by rfl, rfl⟩
  try simp only [Act.put, List.setIfInBounds_toArray, List.set_cons_zero, List.set_cons_succ]
  refine wpAnyH_take (i := 8) (oi := ?o8) (v := undef) ?hi8 (by kernel_rfl) (by kernel_rfl) (by kernel_rfl) (fun _ _ _ h => h) ?y8 (by assumption) ?r8
  case hi8 => (simp only [List.getElem?_toArray, List.getElem?_cons_succ, List.getElem?_cons_zero]; rfl)
  case y8 => exact Or.inr ⟨by rfl, rfl⟩
  try simp only [Act.put, List.setIfInBounds_toArray, List.set_cons_zero, List.set_cons_succ]
  refine wpAnyH_take (i := 9) (oi := ?o9) (v := undef) ?hi9 (by kernel_rfl) (by kernel_rfl) (by kernel_rfl) (fun _ _ _ h => h) ?y9 (by assumption) ?r9
  case hi9 => (simp only [List.getElem?_toArray, List.getElem?_cons_succ, List.getElem?_cons_zero]; rfl)
  case y9 => exact Or.inr ⟨by rfl, rfl⟩
  try simp only [Act.put, List.setIfInBounds_toArray, List.set_cons_zero, List.set_cons_succ]
  refine wpAnyH_take (i := 10) (oi := ?o10) (v := ?v10) ?hi10 (by kernel_rfl) (by kernel_rfl) (by kernel_rfl) (fun _ _ _ h => h) ?y10 (by assumption) ?r10
  case hi10 => (simp only [List.getElem?_toArray, List.getElem?_cons_succ, List.getElem?_cons_zero]; rfl)
  case y10 => (refine Or.inl ⟨by rfl, ?_⟩; intro w' hSw; (try dsimp only at hSw); go_simp; (try with_reducible rfl))
  try simp only [Act.put, List.setIfInBounds_toArray, List.set_cons_zero, List.set_cons_succ]
  refine wpAnyH_take (i := 11) (oi := ?o11) (v := ?v11) ?hi11 (by kernel_rfl) (by kernel_rfl) (by kernel_rfl) (fun _ _ _ h => h) ?y11 (by assumption) ?r11
  case hi11 => (simp only [List.getElem?_toArray, List.getElem?_cons_succ, List.getElem?_cons_zero]; rfl)
  case y11 => (refine Or.inl ⟨by rfl, ?_⟩; intro w' hSw; (try dsimp only at hSw); go_simp; (try with_reducible rfl))
  try simp only [Act.put, List.setIfInBounds_toArray, List.set_cons_zero, List.set_cons_succ]
  refine wpAnyH_done (by kernel_rfl) ?_ _
  refine NoPanic.normal ?_
  replace bel := Bx.bel_drew bel hb2
  go_wp2
  go_ret
  exact ⟨rfl, bel⟩

set_option maxHeartbeats 1000000 in
theorem answer_yes (c i t C I T : Int) (d D : ByteArray) (w : World) (h1 : (c == 1) = true) (h2 : (i == I) = true) (h3 : (C == 2) = true) :
    Calls Try.prog 14 #[pk c i t d, pk C I T D] w fun e w' => e = .returned (.bool true) ∧ Below w.heap.size w w' := by
  have HB := Lib.hid (fun w => bare_any c i t d w)
  go_enter Try.func14, Try.ntmps14
  go_wp2_with fail
  have bel := Bx.bel_refl w
  have B0 := Lib.hid (Bx.Blk.new w [.int .i64 c, .int .i64 i, .int .i64 t, .string d] 23)
  replace bel := Bx.bel_box bel (Obj.cells #[.int .i64 c, .int .i64 i, .int .i64 t, .string d] 23)
  have c0_0 := B0.out.at 0 rfl
  have c0_1 := B0.out.at 1 rfl
  have c0_2 := B0.out.at 2 rfl
  have c0_3 := B0.out.at 3 rfl
  replace B0 := Lib.hid (B0.out.more (Obj.cells #[.int .i64 C, .int .i64 I, .int .i64 T, .string D] 23))
  have B1 := Lib.hid (Bx.Blk.new_at (W := (w.alloc (Obj.cells #[.int .i64 c, .int .i64 i, .int .i64 t, .string d] 23))) (k := w.heap.size + 1) [.int .i64 C, .int .i64 I, .int .i64 T, .string D] 23 (by simp))
  replace bel := Bx.bel_box bel (Obj.cells #[.int .i64 C, .int .i64 I, .int .i64 T, .string D] 23)
  clear c0_0 c0_1 c0_2 c0_3
  have c0_0 := B0.out.at 0 rfl
  have c0_1 := B0.out.at 1 rfl
  have c0_2 := B0.out.at 2 rfl
  have c0_3 := B0.out.at 3 rfl
  have c1_0 := B1.out.at 0 rfl
  have c1_1 := B1.out.at 1 rfl
  have c1_2 := B1.out.at 2 rfl
  have c1_3 := B1.out.at 3 rfl
  go_region_held3 (fun w' => w'.cell? ⟨w.heap.size, 0, none⟩ = some (.int .i64 c) ∧ w'.cell? ⟨w.heap.size, 1, none⟩ = some (.int .i64 i) ∧ w'.cell? ⟨w.heap.size, 2, none⟩ = some (.int .i64 t) ∧ w'.cell? ⟨w.heap.size, 3, none⟩ = some (.string d) ∧ w'.cell? ⟨w.heap.size + 1, 0, none⟩ = some (.int .i64 C) ∧ w'.cell? ⟨w.heap.size + 1, 1, none⟩ = some (.int .i64 I) ∧ w'.cell? ⟨w.heap.size + 1, 2, none⟩ = some (.int .i64 T) ∧ w'.cell? ⟨w.heap.size + 1, 3, none⟩ = some (.string D))
    (first | go_keep | (go_split_ands; exact ⟨Bx.keep_cell (by assumption) (by assumption), Bx.keep_cell (by assumption) (by assumption), Bx.keep_cell (by assumption) (by assumption), Bx.keep_cell (by assumption) (by assumption), Bx.keep_cell (by assumption) (by assumption), Bx.keep_cell (by assumption) (by assumption), Bx.keep_cell (by assumption) (by assumption), Bx.keep_cell (by assumption) (by assumption)⟩))
    (first | (go_at_call 34; with_reducible refine (HB.out _).mono ?_; rintro e w2 ⟨rfl, hb2⟩))
  replace bel := Bx.bel_drew bel hb2
  clear hb2
  go_wp2
  go_ret
  exact ⟨rfl, bel⟩

set_option maxHeartbeats 1000000 in
theorem answer_no (c i t C I T : Int) (d D : ByteArray) (w : World) (h1 : (c == 1) = true) (h2 : (i == I) = true) (h3 : (C == 2) = false) :
    Calls Try.prog 14 #[pk c i t d, pk C I T D] w fun e w' => e = .returned (.bool false) ∧ Below w.heap.size w w' := by
  have HB := Lib.hid (fun w => bare_any c i t d w)
  go_enter Try.func14, Try.ntmps14
  go_wp2_with fail
  have bel := Bx.bel_refl w
  have B0 := Lib.hid (Bx.Blk.new w [.int .i64 c, .int .i64 i, .int .i64 t, .string d] 23)
  replace bel := Bx.bel_box bel (Obj.cells #[.int .i64 c, .int .i64 i, .int .i64 t, .string d] 23)
  have c0_0 := B0.out.at 0 rfl
  have c0_1 := B0.out.at 1 rfl
  have c0_2 := B0.out.at 2 rfl
  have c0_3 := B0.out.at 3 rfl
  replace B0 := Lib.hid (B0.out.more (Obj.cells #[.int .i64 C, .int .i64 I, .int .i64 T, .string D] 23))
  have B1 := Lib.hid (Bx.Blk.new_at (W := (w.alloc (Obj.cells #[.int .i64 c, .int .i64 i, .int .i64 t, .string d] 23))) (k := w.heap.size + 1) [.int .i64 C, .int .i64 I, .int .i64 T, .string D] 23 (by simp))
  replace bel := Bx.bel_box bel (Obj.cells #[.int .i64 C, .int .i64 I, .int .i64 T, .string D] 23)
  clear c0_0 c0_1 c0_2 c0_3
  have c0_0 := B0.out.at 0 rfl
  have c0_1 := B0.out.at 1 rfl
  have c0_2 := B0.out.at 2 rfl
  have c0_3 := B0.out.at 3 rfl
  have c1_0 := B1.out.at 0 rfl
  have c1_1 := B1.out.at 1 rfl
  have c1_2 := B1.out.at 2 rfl
  have c1_3 := B1.out.at 3 rfl
  go_region_held3 (fun w' => w'.cell? ⟨w.heap.size, 0, none⟩ = some (.int .i64 c) ∧ w'.cell? ⟨w.heap.size, 1, none⟩ = some (.int .i64 i) ∧ w'.cell? ⟨w.heap.size, 2, none⟩ = some (.int .i64 t) ∧ w'.cell? ⟨w.heap.size, 3, none⟩ = some (.string d) ∧ w'.cell? ⟨w.heap.size + 1, 0, none⟩ = some (.int .i64 C) ∧ w'.cell? ⟨w.heap.size + 1, 1, none⟩ = some (.int .i64 I) ∧ w'.cell? ⟨w.heap.size + 1, 2, none⟩ = some (.int .i64 T) ∧ w'.cell? ⟨w.heap.size + 1, 3, none⟩ = some (.string D))
    (first | go_keep | (go_split_ands; exact ⟨Bx.keep_cell (by assumption) (by assumption), Bx.keep_cell (by assumption) (by assumption), Bx.keep_cell (by assumption) (by assumption), Bx.keep_cell (by assumption) (by assumption), Bx.keep_cell (by assumption) (by assumption), Bx.keep_cell (by assumption) (by assumption), Bx.keep_cell (by assumption) (by assumption), Bx.keep_cell (by assumption) (by assumption)⟩))
    (first | (go_at_call 34; with_reducible refine (HB.out _).mono ?_; rintro e w2 ⟨rfl, hb2⟩))
  replace bel := Bx.bel_drew bel hb2
  clear hb2
  go_wp2
  go_ret
  exact ⟨rfl, bel⟩

theorem answer_any (c i t C I T : Int) (d D : ByteArray) (w : World) :
    Calls Try.prog 14 #[pk c i t d, pk C I T D] w fun e w' => e = .returned (.bool (ansB c i C I)) ∧ Below w.heap.size w w' := by
  unfold ansB
  by_cases h1 : c = 1
  case neg =>
    rw [decide_eq_false (fun h => h1 h.1)]
    exact answer_code c i t C I T d D w (by simpa using h1)
  by_cases h2 : i = I
  case neg =>
    rw [decide_eq_false (fun h => h2 h.2.2)]
    exact answer_id c i t C I T d D w (by simpa using h1) (by simpa using h2)
  by_cases h3 : C = 2
  · rw [decide_eq_true ⟨h1, h3, h2⟩]
    exact answer_yes c i t C I T d D w (by simpa using h1) (by simpa using h2) (by simpa using h3)
  · rw [decide_eq_false (fun h => h3 h.2.1)]
    exact answer_no c i t C I T d D w (by simpa using h1) (by simpa using h2) (by simpa using h3)

set_option maxHeartbeats 1000000 in
theorem ranswer_code (c i t C I T : Int) (d D : ByteArray) (w : World) (h1 : (c == 1) = false) :
    Calls Try.prog 15 #[pk c i t d, pk C I T D] w fun e w' => e = .returned (.bool false) ∧ Below w.heap.size w w' := by
  go_enter Try.func15, Try.ntmps15
  have bel := Bx.bel_refl w
  have B0 := Lib.hid (Bx.Blk.new w [.int .i64 c, .int .i64 i, .int .i64 t, .string d] 23)
  replace bel := Bx.bel_box bel (Obj.cells #[.int .i64 c, .int .i64 i, .int .i64 t, .string d] 23)
  have c0_0 := B0.out.at 0 rfl
  have c0_1 := B0.out.at 1 rfl
  have c0_2 := B0.out.at 2 rfl
  have c0_3 := B0.out.at 3 rfl
  replace B0 := Lib.hid (B0.out.more (Obj.cells #[.int .i64 C, .int .i64 I, .int .i64 T, .string D] 23))
  have B1 := Lib.hid (Bx.Blk.new_at (W := (w.alloc (Obj.cells #[.int .i64 c, .int .i64 i, .int .i64 t, .string d] 23))) (k := w.heap.size + 1) [.int .i64 C, .int .i64 I, .int .i64 T, .string D] 23 (by simp))
  replace bel := Bx.bel_box bel (Obj.cells #[.int .i64 C, .int .i64 I, .int .i64 T, .string D] 23)
  clear c0_0 c0_1 c0_2 c0_3
  have c0_0 := B0.out.at 0 rfl
  have c0_1 := B0.out.at 1 rfl
  have c0_2 := B0.out.at 2 rfl
  have c0_3 := B0.out.at 3 rfl
  have c1_0 := B1.out.at 0 rfl
  have c1_1 := B1.out.at 1 rfl
  have c1_2 := B1.out.at 2 rfl
  have c1_3 := B1.out.at 3 rfl
  go_wp2_with fail
  go_ret
  exact ⟨rfl, bel⟩

set_option maxHeartbeats 1000000 in
theorem ranswer_no (c i t C I T : Int) (d D : ByteArray) (w : World) (h1 : (c == 1) = true) (h3 : (C == 2) = false) :
    Calls Try.prog 15 #[pk c i t d, pk C I T D] w fun e w' => e = .returned (.bool false) ∧ Below w.heap.size w w' := by
  go_enter Try.func15, Try.ntmps15
  have bel := Bx.bel_refl w
  have B0 := Lib.hid (Bx.Blk.new w [.int .i64 c, .int .i64 i, .int .i64 t, .string d] 23)
  replace bel := Bx.bel_box bel (Obj.cells #[.int .i64 c, .int .i64 i, .int .i64 t, .string d] 23)
  have c0_0 := B0.out.at 0 rfl
  have c0_1 := B0.out.at 1 rfl
  have c0_2 := B0.out.at 2 rfl
  have c0_3 := B0.out.at 3 rfl
  replace B0 := Lib.hid (B0.out.more (Obj.cells #[.int .i64 C, .int .i64 I, .int .i64 T, .string D] 23))
  have B1 := Lib.hid (Bx.Blk.new_at (W := (w.alloc (Obj.cells #[.int .i64 c, .int .i64 i, .int .i64 t, .string d] 23))) (k := w.heap.size + 1) [.int .i64 C, .int .i64 I, .int .i64 T, .string D] 23 (by simp))
  replace bel := Bx.bel_box bel (Obj.cells #[.int .i64 C, .int .i64 I, .int .i64 T, .string D] 23)
  clear c0_0 c0_1 c0_2 c0_3
  have c0_0 := B0.out.at 0 rfl
  have c0_1 := B0.out.at 1 rfl
  have c0_2 := B0.out.at 2 rfl
  have c0_3 := B0.out.at 3 rfl
  have c1_0 := B1.out.at 0 rfl
  have c1_1 := B1.out.at 1 rfl
  have c1_2 := B1.out.at 2 rfl
  have c1_3 := B1.out.at 3 rfl
  go_wp2_with fail
  go_ret
  exact ⟨rfl, bel⟩

set_option maxHeartbeats 1000000 in
theorem ranswer_id (c i t C I T : Int) (d D : ByteArray) (w : World) (h1 : (c == 1) = true) (h3 : (C == 2) = true) (Q : Bool) (h2 : (i == I) = Q) :
    Calls Try.prog 15 #[pk c i t d, pk C I T D] w fun e w' => e = .returned (.bool Q) ∧ Below w.heap.size w w' := by
  go_enter Try.func15, Try.ntmps15
  have bel := Bx.bel_refl w
  have B0 := Lib.hid (Bx.Blk.new w [.int .i64 c, .int .i64 i, .int .i64 t, .string d] 23)
  replace bel := Bx.bel_box bel (Obj.cells #[.int .i64 c, .int .i64 i, .int .i64 t, .string d] 23)
  have c0_0 := B0.out.at 0 rfl
  have c0_1 := B0.out.at 1 rfl
  have c0_2 := B0.out.at 2 rfl
  have c0_3 := B0.out.at 3 rfl
  replace B0 := Lib.hid (B0.out.more (Obj.cells #[.int .i64 C, .int .i64 I, .int .i64 T, .string D] 23))
  have B1 := Lib.hid (Bx.Blk.new_at (W := (w.alloc (Obj.cells #[.int .i64 c, .int .i64 i, .int .i64 t, .string d] 23))) (k := w.heap.size + 1) [.int .i64 C, .int .i64 I, .int .i64 T, .string D] 23 (by simp))
  replace bel := Bx.bel_box bel (Obj.cells #[.int .i64 C, .int .i64 I, .int .i64 T, .string D] 23)
  clear c0_0 c0_1 c0_2 c0_3
  have c0_0 := B0.out.at 0 rfl
  have c0_1 := B0.out.at 1 rfl
  have c0_2 := B0.out.at 2 rfl
  have c0_3 := B0.out.at 3 rfl
  have c1_0 := B1.out.at 0 rfl
  have c1_1 := B1.out.at 1 rfl
  have c1_2 := B1.out.at 2 rfl
  have c1_3 := B1.out.at 3 rfl
  go_wp2_with fail
  go_ret
  exact ⟨rfl, bel⟩

theorem ranswer_any (c i t C I T : Int) (d D : ByteArray) (w : World) :
    Calls Try.prog 15 #[pk c i t d, pk C I T D] w fun e w' => e = .returned (.bool (ansB c i C I)) ∧ Below w.heap.size w w' := by
  unfold ansB
  by_cases h1 : c = 1
  case neg =>
    rw [decide_eq_false (fun h => h1 h.1)]
    exact ranswer_code c i t C I T d D w (by simpa using h1)
  by_cases h3 : C = 2
  case neg =>
    rw [decide_eq_false (fun h => h3 h.2.1)]
    exact ranswer_no c i t C I T d D w (by simpa using h1) (by simpa using h3)
  refine ranswer_id c i t C I T d D w (by simpa using h1) (by simpa using h3) _ ?_
  by_cases h2 : i = I
  · rw [decide_eq_true ⟨h1, h3, h2⟩]; simpa using h2
  · rw [decide_eq_false (fun h => h2 h.2.2)]; simpa using h2

end Eap
end Go.Proofs.Ytmgjjcadeikdgaa
