/-
  What bpdu.Bytes writes of anything; and that it changes nothing that was there.
-/
import Derived.Test.YtiokkahldhmhlaaBpC
import Derived.Test.YtiokkahldhmhlaaOctRef
import Derived.Test.YtiokkahldhmhlaaWhole
namespace Go.Proofs.Ytiokkahldhmhlaa
open Go.RowKit
namespace Bpd
open Oct Mac Eth Epl

theorem conv_pair (x y : Int) (hx : 0 ≤ x) (hx' : x < 256) (hy : 0 ≤ y) (hy' : y < 256) {W : World} {k : Nat} (hB : Bx.Blk W k [.int .u8 x, .int .u8 y]) :
    (convert 46 9 (.slice (some ⟨k, 0, none⟩) 2 2)).run Try.prog W = .ok (.string ⟨#[UInt8.ofNat x.toNat, UInt8.ofNat y.toNat]⟩) W := by
  refine run_convert_bytes_back _ 46 9 5 ⟨k, 0, none⟩ 2 [UInt8.ofNat x.toNat, UInt8.ofNat y.toNat] Try.underlying46 Try.underlying5 Try.underlying9 fun j hj => ?_
  match j, hj with
  | 0, _ => have h0 := hB.at 0 rfl; simp [Addr.add, h0]; omega
  | 1, _ => have h0 := hB.at 1 rfl; simp [Addr.add, h0]; omega

theorem conv_one (x : Int) (hx : 0 ≤ x) (hx' : x < 256) {W : World} {k : Nat} (hB : Bx.Blk W k [.int .u8 x]) :
    (convert 46 9 (.slice (some ⟨k, 0, none⟩) 1 1)).run Try.prog W = .ok (.string ⟨#[UInt8.ofNat x.toNat]⟩) W := by
  refine run_convert_bytes_back _ 46 9 5 ⟨k, 0, none⟩ 1 [UInt8.ofNat x.toNat] Try.underlying46 Try.underlying5 Try.underlying9 fun j hj => ?_
  match j, hj with
  | 0, _ => have h0 := hB.at 0 rfl; simp [Addr.add, h0]; omega

theorem conv_zero (x : Int) (hx : 0 ≤ x) (hx' : x < 256) (W : World) :
    (convert 46 9 (.slice (some ⟨W.heap.size, 0, none⟩) 2 2)).run Try.prog (W.alloc (Obj.cells #[Value.int IntKind.u8 x, Value.int IntKind.u8 0] 5)) = .ok (.string ⟨#[UInt8.ofNat x.toNat, 0]⟩) (W.alloc (Obj.cells #[Value.int IntKind.u8 x, Value.int IntKind.u8 0] 5)) :=
  conv_pair x 0 hx hx' (by omega) (by omega) (Bx.Blk.new W [.int .u8 x, .int .u8 0] 5)

set_option maxHeartbeats 1000000 in
theorem version_two (k : Int) (h : (k == 2) = true) (w : World) :
    Calls Try.prog 20 #[.int .i64 k] w fun e w' => e = .returned (.int .u8 2) ∧ Below w.heap.size w w' := by
  go_enter Try.func20, Try.ntmps20
  go_wp2
  go_ret
  exact ⟨rfl, Bx.bel_refl w⟩

set_option maxHeartbeats 1000000 in
theorem version_else (k : Int) (h : (k == 2) = false) (w : World) :
    Calls Try.prog 20 #[.int .i64 k] w fun e w' => e = .returned (.int .u8 0) ∧ Below w.heap.size w w' := by
  go_enter Try.func20, Try.ntmps20
  go_wp2
  go_ret
  exact ⟨rfl, Bx.bel_refl w⟩

set_option maxHeartbeats 1000000 in
theorem long_two (k : Int) (h : (k == 2) = true) (w : World) :
    Calls Try.prog 23 #[.int .i64 k] w fun e w' => e = .returned (.int .i64 36) ∧ Below w.heap.size w w' := by
  go_enter Try.func23, Try.ntmps23
  go_wp2
  go_ret
  exact ⟨rfl, Bx.bel_refl w⟩

set_option maxHeartbeats 1000000 in
theorem long_else (k : Int) (h : (k == 2) = false) (w : World) :
    Calls Try.prog 23 #[.int .i64 k] w fun e w' => e = .returned (.int .i64 35) ∧ Below w.heap.size w w' := by
  go_enter Try.func23, Try.ntmps23
  go_wp2
  go_ret
  exact ⟨rfl, Bx.bel_refl w⟩

set_option maxHeartbeats 1000000 in
theorem vector_walk (r c g p : Nat) (R C G P : ByteArray) (w : World) (hp : p < 65536) (zR : R.size = 8) (zC : C.size = 4) (zG : G.size = 8) (zP : P.size = 2)
    (HR : Hid (∀ w, Calls Try.prog 35 #[.int .u64 r, .int .i64 8] w fun e w' => e = .returned (.string R) ∧ Below w.heap.size w w'))
    (HC : Hid (∀ w, Calls Try.prog 35 #[.int .u64 c, .int .i64 4] w fun e w' => e = .returned (.string C) ∧ Below w.heap.size w w'))
    (HG : Hid (∀ w, Calls Try.prog 35 #[.int .u64 g, .int .i64 8] w fun e w' => e = .returned (.string G) ∧ Below w.heap.size w w'))
    (HP : Hid (∀ w, Calls Try.prog 35 #[.int .u64 p, .int .i64 2] w fun e w' => e = .returned (.string P) ∧ Below w.heap.size w w')) :
    Calls Try.prog 21 #[.agg #[.int .u64 r, .int .u64 c, .int .u64 g, .int .i64 p]] w fun e w' => e = .returned (.string (R ++ C ++ G ++ P)) ∧ Below w.heap.size w w' := by
  have q1 : IntKind.u64.wrap (p : Int) = p := by rw [IntKind.wrap_u64]; omega
  go_enter Try.func21, Try.ntmps21
  go_wp2_with fail
  have bel := Bx.bel_refl w
  have B0 := Lib.hid (Bx.Blk.new w [.int .u64 r, .int .u64 c, .int .u64 g, .int .i64 p] 24)
  replace bel := Bx.bel_box bel (Obj.cells #[.int .u64 r, .int .u64 c, .int .u64 g, .int .i64 p] 24)
  obtain ⟨c0_0, c0_1, c0_2, c0_3⟩ := B0.out.all4
  go_region_held3 (fun w' => w'.cell? ⟨w.heap.size, 0, none⟩ = some (.int .u64 r) ∧ w'.cell? ⟨w.heap.size, 1, none⟩ = some (.int .u64 c) ∧ w'.cell? ⟨w.heap.size, 2, none⟩ = some (.int .u64 g) ∧ w'.cell? ⟨w.heap.size, 3, none⟩ = some (.int .i64 p))
    (first | go_keep | (go_split_ands; exact ⟨Bx.keep_cell (by assumption) (by assumption), Bx.keep_cell (by assumption) (by assumption), Bx.keep_cell (by assumption) (by assumption), Bx.keep_cell (by assumption) (by assumption)⟩))
    (first | (go_at_call 35; with_reducible refine (HR.out _).mono ?_; rintro e w1 ⟨rfl, hb1⟩) | (go_at_call 35; with_reducible refine (HC.out _).mono ?_; rintro e w2 ⟨rfl, hb2⟩) | (go_at_call 35; with_reducible refine (HG.out _).mono ?_; rintro e w3 ⟨rfl, hb3⟩) | (go_at_call 35; with_reducible refine (HP.out _).mono ?_; rintro e w4 ⟨rfl, hb4⟩))
  replace bel := Bx.bel_drew bel hb1
  replace bel := Bx.then_below bel hb2
  replace bel := Bx.then_below bel hb3
  replace bel := Bx.then_below bel hb4
  clear hb1 hb2 hb3 hb4
  go_wp2
  go_ret
  exact ⟨rfl, bel⟩

theorem vector_any (r c g p : Nat) (hr : r < 18446744073709551616) (hc : c < 18446744073709551616) (hg : g < 18446744073709551616) (hp : p < 65536) (w : World) :
    Calls Try.prog 21 #[.agg #[.int .u64 r, .int .u64 c, .int .u64 g, .int .i64 p]] w fun e w' => e = .returned (.string (ofL (putL r 8) ++ ofL (putL c 4) ++ ofL (putL g 8) ++ ofL (putL p 2))) ∧ Below w.heap.size w w' :=
  vector_walk r c g p _ _ _ _ w hp (by rw [ofL_size, putL_length]) (by rw [ofL_size, putL_length]) (by rw [ofL_size, putL_length]) (by rw [ofL_size, putL_length]) (Lib.hid fun w => put_any r hr 8 w) (Lib.hid fun w => put_any c hc 4 w) (Lib.hid fun w => put_any g hg 8 w) (Lib.hid fun w => put_any p (by omega) 2 w)

set_option maxHeartbeats 1000000 in
theorem bytes_wrong (b : Bp) (w : World)
    (HR : Hid (∀ w, Calls Try.prog 15 #[bp b] w fun e w' => e = .returned (.bool false) ∧ Below w.heap.size w w')) :
    Calls Try.prog 7 #[bp b] w fun e w' => e = .returned (.tuple #[.string ⟨#[]⟩, .int .i64 1]) ∧ Below w.heap.size w w' := by
  have bel := Bx.bel_refl w
  have B0 := Lib.hid (Bx.Blk.new w (bpl b) 26)
  replace bel := Bx.bel_box bel (Obj.cells (bpl b).toArray 26)
  go_enter Try.func7, Try.ntmps7
  go_wp2_with (first | ((with_reducible refine load_at ?_ ?_ (w.heap.size) ?_ b ?_ ?_); (· rfl); (· rfl); (· rfl); (· exact B0.out)))
  refine (HR.out _).mono ?_; rintro e w1 ⟨rfl, hb1⟩
  replace bel := Bx.then_below bel hb1
  replace B0 := Lib.hid (B0.out.keep hb1)
  clear hb1
  go_wp2_with (first | ((with_reducible refine load_at ?_ ?_ (w.heap.size) ?_ b ?_ ?_); (· rfl); (· rfl); (· rfl); (· exact B0.out)))
  go_ret2
  exact ⟨rfl, bel⟩

set_option maxHeartbeats 1000000 in
theorem bytes_change (b : Bp) (V : Int) (w : World) (h : (b.k == 128) = true) (hk : 0 ≤ b.k) (hk' : b.k < 256) (hv : 0 ≤ V) (hv' : V < 256)
    (HR : Hid (∀ w, Calls Try.prog 15 #[bp b] w fun e w' => e = .returned (.bool true) ∧ Below w.heap.size w w'))
    (HV : Hid (∀ w, Calls Try.prog 20 #[.int .i64 b.k] w fun e w' => e = .returned (.int .u8 V) ∧ Below w.heap.size w w')) :
    Calls Try.prog 7 #[bp b] w fun e w' => e = .returned (.tuple #[.string (⟨#[0, 0]⟩ ++ ⟨#[UInt8.ofNat V.toNat, UInt8.ofNat b.k.toNat]⟩), .int .i64 0]) ∧ Below w.heap.size w w' := by
  have q0 : IntKind.u8.wrap b.k = b.k := by rw [IntKind.wrap_u8]; omega
  have z0 : ¬ (2 + 2 > 9223372036854775807) := by omega
  have bel := Bx.bel_refl w
  have B0 := Lib.hid (Bx.Blk.new w (bpl b) 26)
  replace bel := Bx.bel_box bel (Obj.cells (bpl b).toArray 26)
  have c0_0 := B0.out.at 0 rfl
  go_enter Try.func7, Try.ntmps7
  go_wp2_with (first | ((with_reducible refine load_at ?_ ?_ (w.heap.size) ?_ b ?_ ?_); (· rfl); (· rfl); (· rfl); (· exact B0.out)))
  refine (HR.out _).mono ?_; rintro e w1 ⟨rfl, hb1⟩
  replace bel := Bx.then_below bel hb1
  replace B0 := Lib.hid (B0.out.keep hb1)
  clear hb1
  clear c0_0
  have c0_0 := B0.out.at 0 rfl
  go_wp2_with (first | ((with_reducible refine load_at ?_ ?_ (w.heap.size) ?_ b ?_ ?_); (· rfl); (· rfl); (· rfl); (· exact B0.out)))
  refine wp_region_noPanic ?_
  refine wp_region_held_drew (S := fun w' => w'.cell? ⟨w.heap.size, 0, none⟩ = some (.int .i64 b.k) ∧ Bx.Blk w' w.heap.size (bpl b)) (by kernel_rfl) (by exact ⟨c0_0, B0.out⟩) (fun hHeld => ?_)
  replace bel := Bx.bel_drewn bel
  refine wpAnyH_take (i := 0) (oi := ?o0_1) (v := ?v0_1) ?hi0_1 (by kernel_rfl) (by kernel_rfl) (by kernel_rfl) (fun _ _ _ h => h) ?y0_1 (by assumption) ?r0_1
  case hi0_1 => (simp only [List.getElem?_toArray, List.getElem?_cons_zero]; rfl)
  case y0_1 => (refine Or.inl ⟨by rfl, ?_⟩; intro w' hSw; (try dsimp only at hSw); go_simp; (try with_reducible rfl))
  try simp only [Act.put, List.setIfInBounds_toArray, List.set_cons_zero, List.set_cons_succ]
  refine wpAnyH_take (i := 1) (oi := ?o1_2) (v := ?v1_2) ?hi1_2 (by kernel_rfl) (by kernel_rfl) (by kernel_rfl) (fun _ _ _ h => h) ?y1_2 (by assumption) ?r1_2
  case hi1_2 => (simp only [List.getElem?_toArray, List.getElem?_cons_succ, List.getElem?_cons_zero]; rfl)
  case y1_2 => (refine Or.inl ⟨by rfl, ?_⟩; intro w' hSw; (try dsimp only at hSw); go_simp; (try with_reducible rfl))
  try simp only [Act.put, List.setIfInBounds_toArray, List.set_cons_zero, List.set_cons_succ]
  refine wpAnyH_take (i := 3) (oi := ?o3_3) (v := ?v3_3) ?hi3_3 (by kernel_rfl) (by kernel_rfl) (by kernel_rfl) (fun _ _ _ h => h) ?y3_3 (by assumption) ?r3_3
  case hi3_3 => (simp only [List.getElem?_toArray, List.getElem?_cons_succ, List.getElem?_cons_zero]; rfl)
  case y3_3 => (refine Or.inl ⟨by rfl, ?_⟩; intro w' hSw; (try dsimp only at hSw); go_simp; (try with_reducible rfl))
  try simp only [Act.put, List.setIfInBounds_toArray, List.set_cons_zero, List.set_cons_succ]
  refine wpAnyH_take (i := 4) (oi := ?o4_4) (v := ?v4_4) ?hi4_4 (by kernel_rfl) (by kernel_rfl) (by kernel_rfl) (fun _ _ _ h => h) ?y4_4 (by assumption) ?r4_4
  case hi4_4 => (simp only [List.getElem?_toArray, List.getElem?_cons_succ, List.getElem?_cons_zero]; rfl)
  case y4_4 => (refine Or.inl ⟨by rfl, ?_⟩; intro w' hSw; (try dsimp only at hSw); go_simp; (try with_reducible rfl))
  try simp only [Act.put, List.setIfInBounds_toArray, List.set_cons_zero, List.set_cons_succ]
  refine wpAnyH_take (i := 5) (oi := ?o5_5) (v := ?v5_5) ?hi5_5 (by kernel_rfl) (by kernel_rfl) (by kernel_rfl) (fun _ _ _ h => h) ?y5_5 (by assumption) ?r5_5
  case hi5_5 => (simp only [List.getElem?_toArray, List.getElem?_cons_succ, List.getElem?_cons_zero]; rfl)
  case y5_5 => (refine Or.inl ⟨by rfl, ?_⟩; intro w' hSw; (try dsimp only at hSw); go_simp; (try with_reducible rfl))
  try simp only [Act.put, List.setIfInBounds_toArray, List.set_cons_zero, List.set_cons_succ]
  refine wpAnyH_ready (rs := [2]) (by kernel_rfl) (by simp) ?_
  refine AllReadyH.cons (o := ?o2_6) ?hi2_6 ?hst2_6 AllReadyH.nil
  case hi2_6 => (simp only [List.getElem?_toArray, List.getElem?_cons_succ, List.getElem?_cons_zero]; rfl)
  intro K hK
  go_simp
  (go_at_call 20; (with_reducible refine (HV.out _).mono ?_); rintro e w2 ⟨rfl, hb2⟩)
  go_wp2_with fail
  refine hK.out _ _ ⟨Bx.keep_cell hb2 hHeld.1, Bx.Blk.keep hHeld.2 hb2⟩ (fun hNew => ?_)
  clear hHeld
  have hHeld := hNew
  clear hNew hK K
  replace bel := Bx.then_below bel hb2
  refine wpAnyH_ready (rs := [6]) (by kernel_rfl) (by simp) ?_
  refine AllReadyH.cons (o := ?o6_7) ?hi6_7 ?hst6_7 AllReadyH.nil
  case hi6_7 => (simp only [List.getElem?_toArray, List.getElem?_cons_succ, List.getElem?_cons_zero]; rfl)
  intro K hK
  go_simp
  refine hK.out _ _ ⟨Bx.kept_new hHeld.1, Bx.Blk.more hHeld.2 _⟩ (fun hNew => ?_)
  clear hHeld
  have hHeld := hNew
  clear hNew hK K
  have N6 := Lib.hid (Bx.Blk.new w2 [.int .u8 V, .int .u8 b.k] 5)
  replace bel := Bx.bel_box bel (Obj.cells #[.int .u8 V, .int .u8 b.k] 5)
  refine wpAnyH_ready (rs := [7]) (by kernel_rfl) (by simp) ?_
  refine AllReadyH.cons (o := ?o7_8) ?hi7_8 ?hst7_8 AllReadyH.nil
  case hi7_8 => (simp only [List.getElem?_toArray, List.getElem?_cons_succ, List.getElem?_cons_zero]; rfl)
  intro K hK
  have hrun := conv_pair V b.k hv hv' hk hk' N6.out
  go_simp
  refine hK.out _ _ ⟨hHeld.1, hHeld.2⟩ (fun hNew => ?_)
  clear hHeld
  have hHeld := hNew
  clear hNew hK K
  clear hrun
  refine wpAnyH_take (i := 8) (oi := ?o8_9) (v := ?v8_9) ?hi8_9 (by kernel_rfl) (by kernel_rfl) (by kernel_rfl) (fun _ _ _ h => h) ?y8_9 (by assumption) ?r8_9
  case hi8_9 => (simp only [List.getElem?_toArray, List.getElem?_cons_succ, List.getElem?_cons_zero]; rfl)
  case y8_9 => (refine Or.inl ⟨by rfl, ?_⟩; intro w' hSw; (try dsimp only at hSw); go_simp; (try with_reducible rfl))
  try simp only [Act.put, List.setIfInBounds_toArray, List.set_cons_zero, List.set_cons_succ]
  refine wpAnyH_take (i := 9) (oi := ?o9_10) (v := ?v9_10) ?hi9_10 (by kernel_rfl) (by kernel_rfl) (by kernel_rfl) (fun _ _ _ h => h) ?y9_10 (by assumption) ?r9_10
  case hi9_10 => (simp only [List.getElem?_toArray, List.getElem?_cons_succ, List.getElem?_cons_zero]; rfl)
  case y9_10 => (refine Or.inl ⟨by rfl, ?_⟩; intro w' hSw; (try dsimp only at hSw); go_simp; (try with_reducible rfl))
  try simp only [Act.put, List.setIfInBounds_toArray, List.set_cons_zero, List.set_cons_succ]
  refine wpAnyH_done (by kernel_rfl) ?_ _
  refine NoPanic.normal ?_
  replace B0 := Lib.hid hHeld.2
  clear hHeld
  clear c0_0
  have c0_0 := B0.out.at 0 rfl
  go_wp2_with (first | ((with_reducible refine load_at ?_ ?_ (w.heap.size) ?_ b ?_ ?_); (· rfl); (· rfl); (· rfl); (· exact B0.out)))
  go_ret2
  exact ⟨by rfl, bel⟩

set_option maxRecDepth 100000 in
set_option maxHeartbeats 4000000 in
theorem bytes_full (b : Bp) (V F L : Int) (X Y : ByteArray) (w : World) (h : (b.k == 128) = false) (hk : 0 ≤ b.k) (hk' : b.k < 256) (hv : 0 ≤ V) (hv' : V < 256) (hf : 0 ≤ F) (hf' : F < 256) (ha : 0 ≤ b.a) (ha' : b.a < 256) (hm : 0 ≤ b.m) (hm' : b.m < 256) (hh : 0 ≤ b.h) (hh' : b.h < 256) (hd : 0 ≤ b.d) (hd' : b.d < 256) (zX : X.size = 22)
    (HR : Hid (∀ w, Calls Try.prog 15 #[bp b] w fun e w' => e = .returned (.bool true) ∧ Below w.heap.size w w'))
    (HV : Hid (∀ w, Calls Try.prog 20 #[.int .i64 b.k] w fun e w' => e = .returned (.int .u8 V) ∧ Below w.heap.size w w'))
    (HF : Hid (∀ w, Calls Try.prog 17 #[bp b] w fun e w' => e = .returned (.int .i64 F) ∧ Below w.heap.size w w'))
    (HX : Hid (∀ w, Calls Try.prog 21 #[.agg #[.int .u64 b.r, .int .u64 b.c, .int .u64 b.g, .int .i64 b.p]] w fun e w' => e = .returned (.string X) ∧ Below w.heap.size w w'))
    (HL : Hid (∀ w, Calls Try.prog 23 #[.int .i64 b.k] w fun e w' => e = .returned (.int .i64 L) ∧ Below w.heap.size w w'))
    (HP : Hid (∀ w, Calls Try.prog 22 #[.string (((⟨#[0, 0]⟩ : ByteArray) ++ ⟨#[UInt8.ofNat V.toNat, UInt8.ofNat b.k.toNat]⟩) ++ ((⟨#[UInt8.ofNat F.toNat]⟩ : ByteArray) ++ X) ++ ⟨#[UInt8.ofNat b.a.toNat, 0]⟩ ++ ⟨#[UInt8.ofNat b.m.toNat, 0]⟩ ++ ⟨#[UInt8.ofNat b.h.toNat, 0]⟩ ++ ⟨#[UInt8.ofNat b.d.toNat, 0]⟩), .int .i64 L] w fun e w' => e = .returned (.string Y) ∧ Below w.heap.size w w')) :
    Calls Try.prog 7 #[bp b] w fun e w' => e = .returned (.tuple #[.string Y, .int .i64 0]) ∧ Below w.heap.size w w' := by
  have q0 : IntKind.u8.wrap b.k = b.k := by rw [IntKind.wrap_u8]; omega
  have z0 : ¬ (2 + 2 > 9223372036854775807) := by omega
  have zE : ((⟨#[0, 0]⟩ : ByteArray) ++ ⟨#[UInt8.ofNat V.toNat, UInt8.ofNat b.k.toNat]⟩).size = 4 := rfl
  have q1 : IntKind.u8.wrap F = F := by rw [IntKind.wrap_u8]; omega
  have q2 : IntKind.u8.wrap b.a = b.a := by rw [IntKind.wrap_u8]; omega
  have q3 : IntKind.u8.wrap b.m = b.m := by rw [IntKind.wrap_u8]; omega
  have q4 : IntKind.u8.wrap b.h = b.h := by rw [IntKind.wrap_u8]; omega
  have q5 : IntKind.u8.wrap b.d = b.d := by rw [IntKind.wrap_u8]; omega
  have v1 := conv_zero b.a ha ha'
  have v2 := conv_zero b.m hm hm'
  have v3 := conv_zero b.h hh hh'
  have v4 := conv_zero b.d hd hd'
  have bel := Bx.bel_refl w
  have B0 := Lib.hid (Bx.Blk.new w (bpl b) 26)
  replace bel := Bx.bel_box bel (Obj.cells (bpl b).toArray 26)
  have c0_0 := B0.out.at 0 rfl
  have c0_8 := B0.out.at 8 rfl
  have c0_9 := B0.out.at 9 rfl
  have c0_10 := B0.out.at 10 rfl
  have c0_11 := B0.out.at 11 rfl
  have c0_12 := B0.out.at 12 rfl
  have c0_13 := B0.out.at 13 rfl
  have c0_14 := B0.out.at 14 rfl
  have c0_15 := B0.out.at 15 rfl
  go_enter Try.func7, Try.ntmps7
  go_wp2_with (first | ((with_reducible refine load_at ?_ ?_ (w.heap.size) ?_ b ?_ ?_); (· rfl); (· rfl); (· rfl); (· exact B0.out)))
  refine (HR.out _).mono ?_; rintro e w1 ⟨rfl, hb1⟩
  replace bel := Bx.then_below bel hb1
  replace B0 := Lib.hid (B0.out.keep hb1)
  clear hb1
  clear c0_0 c0_8 c0_9 c0_10 c0_11 c0_12 c0_13 c0_14 c0_15
  have c0_0 := B0.out.at 0 rfl
  have c0_8 := B0.out.at 8 rfl
  have c0_9 := B0.out.at 9 rfl
  have c0_10 := B0.out.at 10 rfl
  have c0_11 := B0.out.at 11 rfl
  have c0_12 := B0.out.at 12 rfl
  have c0_13 := B0.out.at 13 rfl
  have c0_14 := B0.out.at 14 rfl
  have c0_15 := B0.out.at 15 rfl
  go_wp2_with (first | ((with_reducible refine load_at ?_ ?_ (w.heap.size) ?_ b ?_ ?_); (· rfl); (· rfl); (· rfl); (· exact B0.out)))
  refine wp_region_noPanic ?_
  refine wp_region_held_drew (S := fun w' => w'.cell? ⟨w.heap.size, 0, none⟩ = some (.int .i64 b.k) ∧ Bx.Blk w' w.heap.size (bpl b)) (by kernel_rfl) (by exact ⟨c0_0, B0.out⟩) (fun hHeld => ?_)
  replace bel := Bx.bel_drewn bel
  refine wpAnyH_take (i := 0) (oi := ?o0_11) (v := ?v0_11) ?hi0_11 (by kernel_rfl) (by kernel_rfl) (by kernel_rfl) (fun _ _ _ h => h) ?y0_11 (by assumption) ?r0_11
  case hi0_11 => (simp only [List.getElem?_toArray, List.getElem?_cons_zero]; rfl)
  case y0_11 => (refine Or.inl ⟨by rfl, ?_⟩; intro w' hSw; (try dsimp only at hSw); go_simp; (try with_reducible rfl))
  try simp only [Act.put, List.setIfInBounds_toArray, List.set_cons_zero, List.set_cons_succ]
  refine wpAnyH_take (i := 1) (oi := ?o1_12) (v := ?v1_12) ?hi1_12 (by kernel_rfl) (by kernel_rfl) (by kernel_rfl) (fun _ _ _ h => h) ?y1_12 (by assumption) ?r1_12
  case hi1_12 => (simp only [List.getElem?_toArray, List.getElem?_cons_succ, List.getElem?_cons_zero]; rfl)
  case y1_12 => (refine Or.inl ⟨by rfl, ?_⟩; intro w' hSw; (try dsimp only at hSw); go_simp; (try with_reducible rfl))
  try simp only [Act.put, List.setIfInBounds_toArray, List.set_cons_zero, List.set_cons_succ]
  refine wpAnyH_take (i := 3) (oi := ?o3_13) (v := ?v3_13) ?hi3_13 (by kernel_rfl) (by kernel_rfl) (by kernel_rfl) (fun _ _ _ h => h) ?y3_13 (by assumption) ?r3_13
  case hi3_13 => (simp only [List.getElem?_toArray, List.getElem?_cons_succ, List.getElem?_cons_zero]; rfl)
  case y3_13 => (refine Or.inl ⟨by rfl, ?_⟩; intro w' hSw; (try dsimp only at hSw); go_simp; (try with_reducible rfl))
  try simp only [Act.put, List.setIfInBounds_toArray, List.set_cons_zero, List.set_cons_succ]
  refine wpAnyH_take (i := 4) (oi := ?o4_14) (v := ?v4_14) ?hi4_14 (by kernel_rfl) (by kernel_rfl) (by kernel_rfl) (fun _ _ _ h => h) ?y4_14 (by assumption) ?r4_14
  case hi4_14 => (simp only [List.getElem?_toArray, List.getElem?_cons_succ, List.getElem?_cons_zero]; rfl)
  case y4_14 => (refine Or.inl ⟨by rfl, ?_⟩; intro w' hSw; (try dsimp only at hSw); go_simp; (try with_reducible rfl))
  try simp only [Act.put, List.setIfInBounds_toArray, List.set_cons_zero, List.set_cons_succ]
  refine wpAnyH_take (i := 5) (oi := ?o5_15) (v := ?v5_15) ?hi5_15 (by kernel_rfl) (by kernel_rfl) (by kernel_rfl) (fun _ _ _ h => h) ?y5_15 (by assumption) ?r5_15
  case hi5_15 => (simp only [List.getElem?_toArray, List.getElem?_cons_succ, List.getElem?_cons_zero]; rfl)
  case y5_15 => (refine Or.inl ⟨by rfl, ?_⟩; intro w' hSw; (try dsimp only at hSw); go_simp; (try with_reducible rfl))
  try simp only [Act.put, List.setIfInBounds_toArray, List.set_cons_zero, List.set_cons_succ]
  refine wpAnyH_ready (rs := [2]) (by kernel_rfl) (by simp) ?_
  refine AllReadyH.cons (o := ?o2_16) ?hi2_16 ?hst2_16 AllReadyH.nil
  case hi2_16 => (simp only [List.getElem?_toArray, List.getElem?_cons_succ, List.getElem?_cons_zero]; rfl)
  intro K hK
  go_simp
  (go_at_call 20; (with_reducible refine (HV.out _).mono ?_); rintro e w2 ⟨rfl, hb2⟩)
  go_wp2_with fail
  refine hK.out _ _ ⟨Bx.keep_cell hb2 hHeld.1, Bx.Blk.keep hHeld.2 hb2⟩ (fun hNew => ?_)
  clear hHeld
  have hHeld := hNew
  clear hNew hK K
  replace bel := Bx.then_below bel hb2
  refine wpAnyH_ready (rs := [6]) (by kernel_rfl) (by simp) ?_
  refine AllReadyH.cons (o := ?o6_17) ?hi6_17 ?hst6_17 AllReadyH.nil
  case hi6_17 => (simp only [List.getElem?_toArray, List.getElem?_cons_succ, List.getElem?_cons_zero]; rfl)
  intro K hK
  go_simp
  refine hK.out _ _ ⟨Bx.kept_new hHeld.1, Bx.Blk.more hHeld.2 _⟩ (fun hNew => ?_)
  clear hHeld
  have hHeld := hNew
  clear hNew hK K
  have N6 := Lib.hid (Bx.Blk.new w2 [.int .u8 V, .int .u8 b.k] 5)
  replace bel := Bx.bel_box bel (Obj.cells #[.int .u8 V, .int .u8 b.k] 5)
  refine wpAnyH_ready (rs := [7]) (by kernel_rfl) (by simp) ?_
  refine AllReadyH.cons (o := ?o7_18) ?hi7_18 ?hst7_18 AllReadyH.nil
  case hi7_18 => (simp only [List.getElem?_toArray, List.getElem?_cons_succ, List.getElem?_cons_zero]; rfl)
  intro K hK
  have hrun := conv_pair V b.k hv hv' hk hk' N6.out
  go_simp
  refine hK.out _ _ ⟨hHeld.1, hHeld.2⟩ (fun hNew => ?_)
  clear hHeld
  have hHeld := hNew
  clear hNew hK K
  clear hrun
  refine wpAnyH_take (i := 8) (oi := ?o8_19) (v := ?v8_19) ?hi8_19 (by kernel_rfl) (by kernel_rfl) (by kernel_rfl) (fun _ _ _ h => h) ?y8_19 (by assumption) ?r8_19
  case hi8_19 => (simp only [List.getElem?_toArray, List.getElem?_cons_succ, List.getElem?_cons_zero]; rfl)
  case y8_19 => (refine Or.inl ⟨by rfl, ?_⟩; intro w' hSw; (try dsimp only at hSw); go_simp; (try with_reducible rfl))
  try simp only [Act.put, List.setIfInBounds_toArray, List.set_cons_zero, List.set_cons_succ]
  refine wpAnyH_take (i := 9) (oi := ?o9_20) (v := ?v9_20) ?hi9_20 (by kernel_rfl) (by kernel_rfl) (by kernel_rfl) (fun _ _ _ h => h) ?y9_20 (by assumption) ?r9_20
  case hi9_20 => (simp only [List.getElem?_toArray, List.getElem?_cons_succ, List.getElem?_cons_zero]; rfl)
  case y9_20 => (refine Or.inl ⟨by rfl, ?_⟩; intro w' hSw; (try dsimp only at hSw); go_simp; (try with_reducible rfl))
  try simp only [Act.put, List.setIfInBounds_toArray, List.set_cons_zero, List.set_cons_succ]
  refine wpAnyH_done (by kernel_rfl) ?_ _
  refine NoPanic.normal ?_
  replace B0 := Lib.hid hHeld.2
  clear hHeld c0_0 N6 c0_8 c0_9 c0_10 c0_11 c0_12 c0_13 c0_14 c0_15
  generalize w2.alloc (Obj.cells #[.int .u8 V, .int .u8 b.k] 5) = W0 at *
  generalize ((⟨#[0, 0]⟩ : ByteArray) ++ ⟨#[UInt8.ofNat V.toNat, UInt8.ofNat b.k.toNat]⟩) = O4 at *
  have c0_0 := B0.out.at 0 rfl
  have c0_8 := B0.out.at 8 rfl
  have c0_9 := B0.out.at 9 rfl
  have c0_10 := B0.out.at 10 rfl
  have c0_11 := B0.out.at 11 rfl
  have c0_12 := B0.out.at 12 rfl
  have c0_13 := B0.out.at 13 rfl
  have c0_14 := B0.out.at 14 rfl
  have c0_15 := B0.out.at 15 rfl
  go_wp2_with (first | ((with_reducible refine load_at ?_ ?_ (w.heap.size) ?_ b ?_ ?_); (· rfl); (· rfl); (· rfl); (· exact B0.out)))
  go_cut [4] (fun s4 wx => s4 = .string (O4 ++ ((⟨#[UInt8.ofNat F.toNat]⟩ : ByteArray) ++ X)) ∧ Below w.heap.size w wx ∧ Bx.Blk wx w.heap.size (bpl b))
  case first =>
    clear c0_0 c0_12 c0_13 c0_14 c0_15 v1 v2 v3 v4 q2 q3 q4 q5
    have hz1 : ¬ (1 + X.size > 9223372036854775807) := by omega
    refine wp_region_noPanic ?_
    refine wp_region_held_drew (S := fun w' => Bx.Blk w' w.heap.size (bpl b) ∧ w'.cell? ⟨w.heap.size, 8, none⟩ = some (.int .u64 b.r) ∧ w'.cell? ⟨w.heap.size, 9, none⟩ = some (.int .u64 b.c) ∧ w'.cell? ⟨w.heap.size, 10, none⟩ = some (.int .u64 b.g) ∧ w'.cell? ⟨w.heap.size, 11, none⟩ = some (.int .i64 b.p)) (by kernel_rfl) (by exact ⟨B0.out, c0_8, c0_9, c0_10, c0_11⟩) (fun hHeld => ?_)
    replace bel := Bx.bel_drewn bel
    refine wpAnyH_take (i := 0) (oi := ?o0_21) (v := ?v0_21) ?hi0_21 (by kernel_rfl) (by kernel_rfl) (by kernel_rfl) (fun _ _ _ h => h) ?y0_21 (by assumption) ?r0_21
    case hi0_21 => (simp only [List.getElem?_toArray, List.getElem?_cons_zero]; rfl)
    case y0_21 => (refine Or.inl ⟨by rfl, ?_⟩; intro w' hSw; (try dsimp only at hSw); go_simp; (try with_reducible rfl))
    try simp only [Act.put, List.setIfInBounds_toArray, List.set_cons_zero, List.set_cons_succ]
    refine wpAnyH_take (i := 1) (oi := ?o1_22) (v := bp b) ?hi1_22 (by kernel_rfl) (by kernel_rfl) (by kernel_rfl) (fun _ _ _ h => h) ?y1_22 (by assumption) ?r1_22
    case hi1_22 => (simp only [List.getElem?_toArray, List.getElem?_cons_succ, List.getElem?_cons_zero]; rfl)
    case y1_22 => (refine yields_bp rfl _ rfl w.heap.size rfl b ?_; intro w' hS; exact hS.1)
    try simp only [Act.put, List.setIfInBounds_toArray, List.set_cons_zero, List.set_cons_succ]
    refine wpAnyH_take (i := 6) (oi := ?o6_23) (v := ?v6_23) ?hi6_23 (by kernel_rfl) (by kernel_rfl) (by kernel_rfl) (fun _ _ _ h => h) ?y6_23 (by assumption) ?r6_23
    case hi6_23 => (simp only [List.getElem?_toArray, List.getElem?_cons_succ, List.getElem?_cons_zero]; rfl)
    case y6_23 => (refine Or.inl ⟨by rfl, ?_⟩; intro w' hSw; (try dsimp only at hSw); go_simp; (try with_reducible rfl))
    try simp only [Act.put, List.setIfInBounds_toArray, List.set_cons_zero, List.set_cons_succ]
    refine wpAnyH_take (i := 7) (oi := ?o7_24) (v := ?v7_24) ?hi7_24 (by kernel_rfl) (by kernel_rfl) (by kernel_rfl) (fun _ _ _ h => h) ?y7_24 (by assumption) ?r7_24
    case hi7_24 => (simp only [List.getElem?_toArray, List.getElem?_cons_succ, List.getElem?_cons_zero]; rfl)
    case y7_24 => (refine Or.inl ⟨by rfl, ?_⟩; intro w' hSw; (try dsimp only at hSw); go_simp; (try with_reducible rfl))
    try simp only [Act.put, List.setIfInBounds_toArray, List.set_cons_zero, List.set_cons_succ]
    refine wpAnyH_ready (rs := [2]) (by kernel_rfl) (by simp) ?_
    refine AllReadyH.cons (o := ?o2_25) ?hi2_25 ?hst2_25 AllReadyH.nil
    case hi2_25 => (simp only [List.getElem?_toArray, List.getElem?_cons_succ, List.getElem?_cons_zero]; rfl)
    intro K hK
    go_simp
    (go_at_call 17; (with_reducible refine (HF.out _).mono ?_); rintro e w3 ⟨rfl, hb3⟩)
    go_wp2_with fail
    refine hK.out _ _ ⟨Bx.Blk.keep hHeld.1 hb3, Bx.keep_cell hb3 hHeld.2.1, Bx.keep_cell hb3 hHeld.2.2.1, Bx.keep_cell hb3 hHeld.2.2.2.1, Bx.keep_cell hb3 hHeld.2.2.2.2⟩ (fun hNew => ?_)
    clear hHeld
    have hHeld := hNew
    clear hNew hK K
    replace bel := Bx.then_below bel hb3
    refine wpAnyH_take (i := 3) (oi := ?o3_26) (v := ?v3_26) ?hi3_26 (by kernel_rfl) (by kernel_rfl) (by kernel_rfl) (fun _ _ _ h => h) ?y3_26 (by assumption) ?r3_26
    case hi3_26 => (simp only [List.getElem?_toArray, List.getElem?_cons_succ, List.getElem?_cons_zero]; rfl)
    case y3_26 => (refine Or.inl ⟨by rfl, ?_⟩; intro w' hSw; (try dsimp only at hSw); go_simp; (try with_reducible rfl))
    try simp only [Act.put, List.setIfInBounds_toArray, List.set_cons_zero, List.set_cons_succ]
    refine wpAnyH_ready (rs := [4, 8]) (by kernel_rfl) (by simp) ?_
    refine AllReadyH.cons (o := ?o4_27) ?hi4_27 ?hst4_27 (AllReadyH.cons (o := ?o8_28) ?hi8_28 ?hst8_28 AllReadyH.nil)
    case hi4_27 => (simp only [List.getElem?_toArray, List.getElem?_cons_succ, List.getElem?_cons_zero]; rfl)
    case hi8_28 => (simp only [List.getElem?_toArray, List.getElem?_cons_succ, List.getElem?_cons_zero]; rfl)
    case hst4_27 =>
      intro K hK
      go_simp
      refine hK.out _ _ ⟨Bx.Blk.more hHeld.1 _, Bx.kept_new hHeld.2.1, Bx.kept_new hHeld.2.2.1, Bx.kept_new hHeld.2.2.2.1, Bx.kept_new hHeld.2.2.2.2⟩ (fun hNew => ?_)
      clear hHeld
      have hHeld := hNew
      clear hNew hK K
      have N4 := Lib.hid (Bx.Blk.new w3 [.int .u8 F] 5)
      replace bel := Bx.bel_box bel (Obj.cells #[.int .u8 F] 5)
      refine wpAnyH_ready (rs := [5, 8]) (by kernel_rfl) (by simp) ?_
      refine AllReadyH.cons (o := ?o5_29) ?hi5_29 ?hst5_29 (AllReadyH.cons (o := ?o8_30) ?hi8_30 ?hst8_30 AllReadyH.nil)
      case hi5_29 => (simp only [List.getElem?_toArray, List.getElem?_cons_succ, List.getElem?_cons_zero]; rfl)
      case hi8_30 => (simp only [List.getElem?_toArray, List.getElem?_cons_succ, List.getElem?_cons_zero]; rfl)
      case hst5_29 =>
        intro K hK
        have hrun := conv_one F hf hf' N4.out
        go_simp
        refine hK.out _ _ ⟨hHeld.1, hHeld.2.1, hHeld.2.2.1, hHeld.2.2.2.1, hHeld.2.2.2.2⟩ (fun hNew => ?_)
        clear hHeld
        have hHeld := hNew
        clear hNew hK K
        clear hrun
        refine wpAnyH_ready (rs := [8]) (by kernel_rfl) (by simp) ?_
        refine AllReadyH.cons (o := ?o8_31) ?hi8_31 ?hst8_31 AllReadyH.nil
        case hi8_31 => (simp only [List.getElem?_toArray, List.getElem?_cons_succ, List.getElem?_cons_zero]; rfl)
        intro K hK
        go_simp
        (go_at_call 21; (with_reducible refine (HX.out _).mono ?_); rintro e w4 ⟨rfl, hb4⟩)
        go_wp2_with fail
        refine hK.out _ _ ⟨Bx.Blk.keep hHeld.1 hb4, Bx.keep_cell hb4 hHeld.2.1, Bx.keep_cell hb4 hHeld.2.2.1, Bx.keep_cell hb4 hHeld.2.2.2.1, Bx.keep_cell hb4 hHeld.2.2.2.2⟩ (fun hNew => ?_)
        clear hHeld
        have hHeld := hNew
        clear hNew hK K
        replace bel := Bx.then_below bel hb4
        replace N4 := Lib.hid (N4.out.keep hb4)
        refine wpAnyH_take (i := 9) (oi := ?o9_32) (v := ?v9_32) ?hi9_32 (by kernel_rfl) (by kernel_rfl) (by kernel_rfl) (fun _ _ _ h => h) ?y9_32 (by assumption) ?r9_32
        case hi9_32 => (simp only [List.getElem?_toArray, List.getElem?_cons_succ, List.getElem?_cons_zero]; rfl)
        case y9_32 => (refine Or.inl ⟨by rfl, ?_⟩; intro w' hSw; (try dsimp only at hSw); go_simp; (try with_reducible rfl))
        try simp only [Act.put, List.setIfInBounds_toArray, List.set_cons_zero, List.set_cons_succ]
        refine wpAnyH_take (i := 10) (oi := ?o10_33) (v := ?v10_33) ?hi10_33 (by kernel_rfl) (by kernel_rfl) (by kernel_rfl) (fun _ _ _ h => h) ?y10_33 (by assumption) ?r10_33
        case hi10_33 => (simp only [List.getElem?_toArray, List.getElem?_cons_succ, List.getElem?_cons_zero]; rfl)
        case y10_33 => (refine Or.inl ⟨by rfl, ?_⟩; intro w' hSw; (try dsimp only at hSw); go_simp; (try with_reducible rfl))
        try simp only [Act.put, List.setIfInBounds_toArray, List.set_cons_zero, List.set_cons_succ]
        refine wpAnyH_take (i := 11) (oi := ?o11_34) (v := ?v11_34) ?hi11_34 (by kernel_rfl) (by kernel_rfl) (by kernel_rfl) (fun _ _ _ h => h) ?y11_34 (by assumption) ?r11_34
        case hi11_34 => (simp only [List.getElem?_toArray, List.getElem?_cons_succ, List.getElem?_cons_zero]; rfl)
        case y11_34 => (refine Or.inl ⟨by rfl, ?_⟩; intro w' hSw; (try dsimp only at hSw); go_simp; (try with_reducible rfl))
        try simp only [Act.put, List.setIfInBounds_toArray, List.set_cons_zero, List.set_cons_succ]
        refine wpAnyH_done (by kernel_rfl) ?_ _
        refine NoPanic.normal ?_
        go_wp2_with fail
        go_meet
        exact ⟨rfl, bel, hHeld.1⟩
      case hst8_30 =>
        intro K hK
        go_simp
        (go_at_call 21; (with_reducible refine (HX.out _).mono ?_); rintro e w5 ⟨rfl, hb5⟩)
        go_wp2_with fail
        refine hK.out _ _ ⟨Bx.Blk.keep hHeld.1 hb5, Bx.keep_cell hb5 hHeld.2.1, Bx.keep_cell hb5 hHeld.2.2.1, Bx.keep_cell hb5 hHeld.2.2.2.1, Bx.keep_cell hb5 hHeld.2.2.2.2⟩ (fun hNew => ?_)
        clear hHeld
        have hHeld := hNew
        clear hNew hK K
        replace bel := Bx.then_below bel hb5
        replace N4 := Lib.hid (N4.out.keep hb5)
        refine wpAnyH_ready (rs := [5]) (by kernel_rfl) (by simp) ?_
        refine AllReadyH.cons (o := ?o5_35) ?hi5_35 ?hst5_35 AllReadyH.nil
        case hi5_35 => (simp only [List.getElem?_toArray, List.getElem?_cons_succ, List.getElem?_cons_zero]; rfl)
        intro K hK
        have hrun := conv_one F hf hf' N4.out
        go_simp
        refine hK.out _ _ ⟨hHeld.1, hHeld.2.1, hHeld.2.2.1, hHeld.2.2.2.1, hHeld.2.2.2.2⟩ (fun hNew => ?_)
        clear hHeld
        have hHeld := hNew
        clear hNew hK K
        clear hrun
        refine wpAnyH_take (i := 9) (oi := ?o9_36) (v := ?v9_36) ?hi9_36 (by kernel_rfl) (by kernel_rfl) (by kernel_rfl) (fun _ _ _ h => h) ?y9_36 (by assumption) ?r9_36
        case hi9_36 => (simp only [List.getElem?_toArray, List.getElem?_cons_succ, List.getElem?_cons_zero]; rfl)
        case y9_36 => (refine Or.inl ⟨by rfl, ?_⟩; intro w' hSw; (try dsimp only at hSw); go_simp; (try with_reducible rfl))
        try simp only [Act.put, List.setIfInBounds_toArray, List.set_cons_zero, List.set_cons_succ]
        refine wpAnyH_take (i := 10) (oi := ?o10_37) (v := ?v10_37) ?hi10_37 (by kernel_rfl) (by kernel_rfl) (by kernel_rfl) (fun _ _ _ h => h) ?y10_37 (by assumption) ?r10_37
        case hi10_37 => (simp only [List.getElem?_toArray, List.getElem?_cons_succ, List.getElem?_cons_zero]; rfl)
        case y10_37 => (refine Or.inl ⟨by rfl, ?_⟩; intro w' hSw; (try dsimp only at hSw); go_simp; (try with_reducible rfl))
        try simp only [Act.put, List.setIfInBounds_toArray, List.set_cons_zero, List.set_cons_succ]
        refine wpAnyH_take (i := 11) (oi := ?o11_38) (v := ?v11_38) ?hi11_38 (by kernel_rfl) (by kernel_rfl) (by kernel_rfl) (fun _ _ _ h => h) ?y11_38 (by assumption) ?r11_38
        case hi11_38 => (simp only [List.getElem?_toArray, List.getElem?_cons_succ, List.getElem?_cons_zero]; rfl)
        case y11_38 => (refine Or.inl ⟨by rfl, ?_⟩; intro w' hSw; (try dsimp only at hSw); go_simp; (try with_reducible rfl))
        try simp only [Act.put, List.setIfInBounds_toArray, List.set_cons_zero, List.set_cons_succ]
        refine wpAnyH_done (by kernel_rfl) ?_ _
        refine NoPanic.normal ?_
        go_wp2_with fail
        go_meet
        exact ⟨rfl, bel, hHeld.1⟩
    case hst8_28 =>
      intro K hK
      go_simp
      (go_at_call 21; (with_reducible refine (HX.out _).mono ?_); rintro e w6 ⟨rfl, hb6⟩)
      go_wp2_with fail
      refine hK.out _ _ ⟨Bx.Blk.keep hHeld.1 hb6, Bx.keep_cell hb6 hHeld.2.1, Bx.keep_cell hb6 hHeld.2.2.1, Bx.keep_cell hb6 hHeld.2.2.2.1, Bx.keep_cell hb6 hHeld.2.2.2.2⟩ (fun hNew => ?_)
      clear hHeld
      have hHeld := hNew
      clear hNew hK K
      replace bel := Bx.then_below bel hb6
      refine wpAnyH_ready (rs := [4]) (by kernel_rfl) (by simp) ?_
      refine AllReadyH.cons (o := ?o4_39) ?hi4_39 ?hst4_39 AllReadyH.nil
      case hi4_39 => (simp only [List.getElem?_toArray, List.getElem?_cons_succ, List.getElem?_cons_zero]; rfl)
      intro K hK
      go_simp
      refine hK.out _ _ ⟨Bx.Blk.more hHeld.1 _, Bx.kept_new hHeld.2.1, Bx.kept_new hHeld.2.2.1, Bx.kept_new hHeld.2.2.2.1, Bx.kept_new hHeld.2.2.2.2⟩ (fun hNew => ?_)
      clear hHeld
      have hHeld := hNew
      clear hNew hK K
      have N4 := Lib.hid (Bx.Blk.new w6 [.int .u8 F] 5)
      replace bel := Bx.bel_box bel (Obj.cells #[.int .u8 F] 5)
      refine wpAnyH_ready (rs := [5]) (by kernel_rfl) (by simp) ?_
      refine AllReadyH.cons (o := ?o5_40) ?hi5_40 ?hst5_40 AllReadyH.nil
      case hi5_40 => (simp only [List.getElem?_toArray, List.getElem?_cons_succ, List.getElem?_cons_zero]; rfl)
      intro K hK
      have hrun := conv_one F hf hf' N4.out
      go_simp
      refine hK.out _ _ ⟨hHeld.1, hHeld.2.1, hHeld.2.2.1, hHeld.2.2.2.1, hHeld.2.2.2.2⟩ (fun hNew => ?_)
      clear hHeld
      have hHeld := hNew
      clear hNew hK K
      clear hrun
      refine wpAnyH_take (i := 9) (oi := ?o9_41) (v := ?v9_41) ?hi9_41 (by kernel_rfl) (by kernel_rfl) (by kernel_rfl) (fun _ _ _ h => h) ?y9_41 (by assumption) ?r9_41
      case hi9_41 => (simp only [List.getElem?_toArray, List.getElem?_cons_succ, List.getElem?_cons_zero]; rfl)
      case y9_41 => (refine Or.inl ⟨by rfl, ?_⟩; intro w' hSw; (try dsimp only at hSw); go_simp; (try with_reducible rfl))
      try simp only [Act.put, List.setIfInBounds_toArray, List.set_cons_zero, List.set_cons_succ]
      refine wpAnyH_take (i := 10) (oi := ?o10_42) (v := ?v10_42) ?hi10_42 (by kernel_rfl) (by kernel_rfl) (by kernel_rfl) (fun _ _ _ h => h) ?y10_42 (by assumption) ?r10_42
      case hi10_42 => (simp only [List.getElem?_toArray, List.getElem?_cons_succ, List.getElem?_cons_zero]; rfl)
      case y10_42 => (refine Or.inl ⟨by rfl, ?_⟩; intro w' hSw; (try dsimp only at hSw); go_simp; (try with_reducible rfl))
      try simp only [Act.put, List.setIfInBounds_toArray, List.set_cons_zero, List.set_cons_succ]
      refine wpAnyH_take (i := 11) (oi := ?o11_43) (v := ?v11_43) ?hi11_43 (by kernel_rfl) (by kernel_rfl) (by kernel_rfl) (fun _ _ _ h => h) ?y11_43 (by assumption) ?r11_43
      case hi11_43 => (simp only [List.getElem?_toArray, List.getElem?_cons_succ, List.getElem?_cons_zero]; rfl)
      case y11_43 => (refine Or.inl ⟨by rfl, ?_⟩; intro w' hSw; (try dsimp only at hSw); go_simp; (try with_reducible rfl))
      try simp only [Act.put, List.setIfInBounds_toArray, List.set_cons_zero, List.set_cons_succ]
      refine wpAnyH_done (by kernel_rfl) ?_ _
      refine NoPanic.normal ?_
      go_wp2_with fail
      go_meet
      exact ⟨rfl, bel, hHeld.1⟩
  case rest =>
  clear c0_0 c0_8 c0_9 c0_10 c0_11 c0_12 c0_13 c0_14 c0_15 bel B0
  obtain ⟨rfl, bel, B0⟩ := hcut
  replace B0 := Lib.hid B0
  have zO : (O4 ++ ((⟨#[UInt8.ofNat F.toNat]⟩ : ByteArray) ++ X)).size = 27 := by simp [ByteArray.size_append, zE, zX]; rfl
  generalize O4 ++ ((⟨#[UInt8.ofNat F.toNat]⟩ : ByteArray) ++ X) = O at *
  have c0_0 := B0.out.at 0 rfl
  have c0_8 := B0.out.at 8 rfl
  have c0_9 := B0.out.at 9 rfl
  have c0_10 := B0.out.at 10 rfl
  have c0_11 := B0.out.at 11 rfl
  have c0_12 := B0.out.at 12 rfl
  have c0_13 := B0.out.at 13 rfl
  have c0_14 := B0.out.at 14 rfl
  have c0_15 := B0.out.at 15 rfl
  go_wp2_with (first | ((with_reducible refine load_at ?_ ?_ (w.heap.size) ?_ b ?_ ?_); (· rfl); (· rfl); (· rfl); (· exact B0.out)))
  replace B0 := Lib.hid (B0.out.more (Obj.cells #[.int .i64 b.a, .int .i64 b.m, .int .i64 b.h, .int .i64 b.d] 3))
  have B1 := Lib.hid (Bx.Blk.new wc [.int .i64 b.a, .int .i64 b.m, .int .i64 b.h, .int .i64 b.d] 3)
  replace bel := Bx.bel_box bel (Obj.cells #[.int .i64 b.a, .int .i64 b.m, .int .i64 b.h, .int .i64 b.d] 3)
  clear c0_0 c0_8 c0_9 c0_10 c0_11 c0_12 c0_13 c0_14 c0_15
  have c0_0 := B0.out.at 0 rfl
  have c0_8 := B0.out.at 8 rfl
  have c0_9 := B0.out.at 9 rfl
  have c0_10 := B0.out.at 10 rfl
  have c0_11 := B0.out.at 11 rfl
  have c0_12 := B0.out.at 12 rfl
  have c0_13 := B0.out.at 13 rfl
  have c0_14 := B0.out.at 14 rfl
  have c0_15 := B0.out.at 15 rfl
  obtain ⟨c1_0, c1_1, c1_2, c1_3⟩ := B1.out.all4
  generalize wc.heap.size = m1 at *
  generalize wc.alloc (Obj.cells #[.int .i64 b.a, .int .i64 b.m, .int .i64 b.h, .int .i64 b.d] 3) = W0 at *
  refine wp_loop_rounds 5 ?_
  rw [rounds_succ]
  go_wp2_with (first | ((with_reducible refine load_at ?_ ?_ (w.heap.size) ?_ b ?_ ?_); (· rfl); (· rfl); (· rfl); (· exact B0.out)))
  have z1' : (O ++ ⟨#[UInt8.ofNat b.a.toNat, 0]⟩).size = 29 := by rw [ByteArray.size_append, zO]; rfl
  generalize O ++ ⟨#[UInt8.ofNat b.a.toNat, 0]⟩ = O5 at *
  replace B0 := Lib.hid (B0.out.more (Obj.cells #[.int .u8 b.a, .int .u8 0] 5))
  replace B1 := Lib.hid (B1.out.more (Obj.cells #[.int .u8 b.a, .int .u8 0] 5))
  have B2 := Lib.hid (Bx.Blk.new W0 [.int .u8 b.a, .int .u8 0] 5)
  replace bel := Bx.bel_box bel (Obj.cells #[.int .u8 b.a, .int .u8 0] 5)
  clear B2
  clear c0_0 c0_8 c0_9 c0_10 c0_11 c0_12 c0_13 c0_14 c0_15 c1_0 c1_1 c1_2 c1_3
  have c0_0 := B0.out.at 0 rfl
  have c0_8 := B0.out.at 8 rfl
  have c0_9 := B0.out.at 9 rfl
  have c0_10 := B0.out.at 10 rfl
  have c0_11 := B0.out.at 11 rfl
  have c0_12 := B0.out.at 12 rfl
  have c0_13 := B0.out.at 13 rfl
  have c0_14 := B0.out.at 14 rfl
  have c0_15 := B0.out.at 15 rfl
  obtain ⟨c1_0, c1_1, c1_2, c1_3⟩ := B1.out.all4
  generalize m1 = m1 at *
  generalize W0.alloc (Obj.cells #[.int .u8 b.a, .int .u8 0] 5) = W0 at *
  rw [rounds_succ]
  go_wp2_with (first | ((with_reducible refine load_at ?_ ?_ (w.heap.size) ?_ b ?_ ?_); (· rfl); (· rfl); (· rfl); (· exact B0.out)))
  have z2' : (O5 ++ ⟨#[UInt8.ofNat b.m.toNat, 0]⟩).size = 31 := by rw [ByteArray.size_append, z1']; rfl
  generalize O5 ++ ⟨#[UInt8.ofNat b.m.toNat, 0]⟩ = O6 at *
  replace B0 := Lib.hid (B0.out.more (Obj.cells #[.int .u8 b.m, .int .u8 0] 5))
  replace B1 := Lib.hid (B1.out.more (Obj.cells #[.int .u8 b.m, .int .u8 0] 5))
  have B2 := Lib.hid (Bx.Blk.new W0 [.int .u8 b.m, .int .u8 0] 5)
  replace bel := Bx.bel_box bel (Obj.cells #[.int .u8 b.m, .int .u8 0] 5)
  clear B2
  clear c0_0 c0_8 c0_9 c0_10 c0_11 c0_12 c0_13 c0_14 c0_15 c1_0 c1_1 c1_2 c1_3
  have c0_0 := B0.out.at 0 rfl
  have c0_8 := B0.out.at 8 rfl
  have c0_9 := B0.out.at 9 rfl
  have c0_10 := B0.out.at 10 rfl
  have c0_11 := B0.out.at 11 rfl
  have c0_12 := B0.out.at 12 rfl
  have c0_13 := B0.out.at 13 rfl
  have c0_14 := B0.out.at 14 rfl
  have c0_15 := B0.out.at 15 rfl
  obtain ⟨c1_0, c1_1, c1_2, c1_3⟩ := B1.out.all4
  generalize m1 = m1 at *
  generalize W0.alloc (Obj.cells #[.int .u8 b.m, .int .u8 0] 5) = W0 at *
  rw [rounds_succ]
  go_wp2_with (first | ((with_reducible refine load_at ?_ ?_ (w.heap.size) ?_ b ?_ ?_); (· rfl); (· rfl); (· rfl); (· exact B0.out)))
  have z3' : (O6 ++ ⟨#[UInt8.ofNat b.h.toNat, 0]⟩).size = 33 := by rw [ByteArray.size_append, z2']; rfl
  generalize O6 ++ ⟨#[UInt8.ofNat b.h.toNat, 0]⟩ = O7 at *
  replace B0 := Lib.hid (B0.out.more (Obj.cells #[.int .u8 b.h, .int .u8 0] 5))
  replace B1 := Lib.hid (B1.out.more (Obj.cells #[.int .u8 b.h, .int .u8 0] 5))
  have B2 := Lib.hid (Bx.Blk.new W0 [.int .u8 b.h, .int .u8 0] 5)
  replace bel := Bx.bel_box bel (Obj.cells #[.int .u8 b.h, .int .u8 0] 5)
  clear B2
  clear c0_0 c0_8 c0_9 c0_10 c0_11 c0_12 c0_13 c0_14 c0_15 c1_0 c1_1 c1_2 c1_3
  have c0_0 := B0.out.at 0 rfl
  have c0_8 := B0.out.at 8 rfl
  have c0_9 := B0.out.at 9 rfl
  have c0_10 := B0.out.at 10 rfl
  have c0_11 := B0.out.at 11 rfl
  have c0_12 := B0.out.at 12 rfl
  have c0_13 := B0.out.at 13 rfl
  have c0_14 := B0.out.at 14 rfl
  have c0_15 := B0.out.at 15 rfl
  obtain ⟨c1_0, c1_1, c1_2, c1_3⟩ := B1.out.all4
  generalize m1 = m1 at *
  generalize W0.alloc (Obj.cells #[.int .u8 b.h, .int .u8 0] 5) = W0 at *
  rw [rounds_succ]
  go_wp2_with (first | ((with_reducible refine load_at ?_ ?_ (w.heap.size) ?_ b ?_ ?_); (· rfl); (· rfl); (· rfl); (· exact B0.out)))
  have z4' : (O7 ++ ⟨#[UInt8.ofNat b.d.toNat, 0]⟩).size = 35 := by rw [ByteArray.size_append, z3']; rfl
  generalize O7 ++ ⟨#[UInt8.ofNat b.d.toNat, 0]⟩ = O8 at *
  replace B0 := Lib.hid (B0.out.more (Obj.cells #[.int .u8 b.d, .int .u8 0] 5))
  replace B1 := Lib.hid (B1.out.more (Obj.cells #[.int .u8 b.d, .int .u8 0] 5))
  have B2 := Lib.hid (Bx.Blk.new W0 [.int .u8 b.d, .int .u8 0] 5)
  replace bel := Bx.bel_box bel (Obj.cells #[.int .u8 b.d, .int .u8 0] 5)
  clear B2
  clear c0_0 c0_8 c0_9 c0_10 c0_11 c0_12 c0_13 c0_14 c0_15 c1_0 c1_1 c1_2 c1_3
  have c0_0 := B0.out.at 0 rfl
  have c0_8 := B0.out.at 8 rfl
  have c0_9 := B0.out.at 9 rfl
  have c0_10 := B0.out.at 10 rfl
  have c0_11 := B0.out.at 11 rfl
  have c0_12 := B0.out.at 12 rfl
  have c0_13 := B0.out.at 13 rfl
  have c0_14 := B0.out.at 14 rfl
  have c0_15 := B0.out.at 15 rfl
  obtain ⟨c1_0, c1_1, c1_2, c1_3⟩ := B1.out.all4
  generalize m1 = m1 at *
  generalize W0.alloc (Obj.cells #[.int .u8 b.d, .int .u8 0] 5) = W0 at *
  rw [rounds_succ]
  go_wp2_with (first | ((with_reducible refine load_at ?_ ?_ (w.heap.size) ?_ b ?_ ?_); (· rfl); (· rfl); (· rfl); (· exact B0.out)))
  refine (HL.out _).mono ?_; rintro e w7 ⟨rfl, hb7⟩
  replace bel := Bx.then_below bel hb7
  replace B0 := Lib.hid (B0.out.keep hb7)
  replace B1 := Lib.hid (B1.out.keep hb7)
  clear hb7
  clear c0_0 c0_8 c0_9 c0_10 c0_11 c0_12 c0_13 c0_14 c0_15 c1_0 c1_1 c1_2 c1_3
  have c0_0 := B0.out.at 0 rfl
  have c0_8 := B0.out.at 8 rfl
  have c0_9 := B0.out.at 9 rfl
  have c0_10 := B0.out.at 10 rfl
  have c0_11 := B0.out.at 11 rfl
  have c0_12 := B0.out.at 12 rfl
  have c0_13 := B0.out.at 13 rfl
  have c0_14 := B0.out.at 14 rfl
  have c0_15 := B0.out.at 15 rfl
  obtain ⟨c1_0, c1_1, c1_2, c1_3⟩ := B1.out.all4
  go_wp2_with (first | ((with_reducible refine load_at ?_ ?_ (w.heap.size) ?_ b ?_ ?_); (· rfl); (· rfl); (· rfl); (· exact B0.out)))
  refine (HP.out _).mono ?_; rintro e w8 ⟨rfl, hb8⟩
  replace bel := Bx.then_below bel hb8
  replace B0 := Lib.hid (B0.out.keep hb8)
  replace B1 := Lib.hid (B1.out.keep hb8)
  clear hb8
  go_wp2_with (first | ((with_reducible refine load_at ?_ ?_ (w.heap.size) ?_ b ?_ ?_); (· rfl); (· rfl); (· rfl); (· exact B0.out)))
  go_ret2
  exact ⟨rfl, bel⟩

def frontL (b : Bp) : List UInt8 := [0, 0, UInt8.ofNat (if b.k = 2 then 2 else 0), UInt8.ofNat b.k.toNat] ++ ([UInt8.ofNat (flagN b)] ++ putL b.r 8 ++ putL b.c 4 ++ putL b.g 8 ++ putL b.p.toNat 2 ++ [UInt8.ofNat b.a.toNat, 0, UInt8.ofNat b.m.toNat, 0, UInt8.ofNat b.h.toNat, 0, UInt8.ofNat b.d.toNat, 0])

theorem front_len (b : Bp) : (frontL b).length = 35 := by simp [frontL, putL_length]

theorem front_wire (b : Bp) (h : b.k ≠ 128) : wireL b = frontL b ++ (if b.k = 2 then [0] else []) := by
  unfold wireL frontL
  rw [if_neg h]
  simp only [List.append_assoc]

theorem out_front (b : Bp) : (((⟨#[0, 0]⟩ : ByteArray) ++ ⟨#[UInt8.ofNat (if b.k = 2 then 2 else 0 : Int).toNat, UInt8.ofNat b.k.toNat]⟩) ++ ((⟨#[UInt8.ofNat (flagN b : Int).toNat]⟩ : ByteArray) ++ (ofL (putL b.r 8) ++ ofL (putL b.c 4) ++ ofL (putL b.g 8) ++ ofL (putL b.p.toNat 2))) ++ ⟨#[UInt8.ofNat b.a.toNat, 0]⟩ ++ ⟨#[UInt8.ofNat b.m.toNat, 0]⟩ ++ ⟨#[UInt8.ofNat b.h.toNat, 0]⟩ ++ ⟨#[UInt8.ofNat b.d.toNat, 0]⟩) = ofL (frontL b) := by
  have e0 : (if b.k = 2 then 2 else 0 : Int).toNat = (if b.k = 2 then 2 else 0 : Nat) := by split <;> rfl
  rw [e0, Int.toNat_natCast]
  show ofL [0, 0] ++ ofL [_, _] ++ (ofL [_] ++ (ofL (putL b.r 8) ++ ofL (putL b.c 4) ++ ofL (putL b.g 8) ++ ofL (putL b.p.toNat 2))) ++ ofL [_, _] ++ ofL [_, _] ++ ofL [_, _] ++ ofL [_, _] = _
  unfold frontL
  simp only [ofL_append, List.append_assoc, List.cons_append, List.nil_append]

theorem pad_front (b : Bp) (h : b.k ≠ 128) : padS (ofL (frontL b)) (if b.k = 2 then 36 else 35) = ofL (wireL b) := by
  have hz : (ofL (frontL b)).size = 35 := by rw [ofL_size, front_len]
  rw [front_wire b h]
  by_cases h2 : b.k = 2
  · rw [if_pos h2, if_pos h2]
    unfold padS
    rw [hz]
    exact ofL_append _ _
  · rw [if_neg h2, if_neg h2, padS_none _ _ (by rw [hz]; decide), List.append_nil]

theorem bytes_any (b : Bp) (w : World) (hr : b.r < 18446744073709551616) (hg : b.g < 18446744073709551616) :
    Calls Try.prog 7 #[bp b] w fun e w' => e = .returned (.tuple #[.string (bTxt b), .int .i64 (bErr b)]) ∧ Below w.heap.size w w' := by
  have HR := fun w => right_any b w
  cases hR : rightB b
  · unfold bTxt bErr
    rw [hR] at HR ⊢
    exact bytes_wrong b w (Lib.hid HR)
  rw [hR] at HR
  by_cases h128 : b.k = 128
  · obtain rfl := right_change_eq b hR h128
    exact bytes_change changeB 0 w rfl (by decide) (by decide) (by decide) (by decide) (Lib.hid HR) (Lib.hid fun w => version_else _ rfl w)
  obtain ⟨hk, hro, hc, hp, ha, hm, hh, hd⟩ := right_facts b hR h128
  have hF := flagN_lt b
  have hk' : (b.k == 128) = false := by simpa using h128
  have HX := fun w => vector_any b.r b.c b.g b.p.toNat hr (by omega) hg (by omega) w
  rw [show ((b.p.toNat : Nat) : Int) = b.p by omega] at HX
  have HV : ∀ w, Calls Try.prog 20 #[.int .i64 b.k] w fun e w' => e = .returned (.int .u8 (if b.k = 2 then 2 else 0)) ∧ Below w.heap.size w w' := fun w => by
    by_cases h2 : b.k = 2
    · rw [if_pos h2]; exact version_two _ (by simpa using h2) w
    · rw [if_neg h2]; exact version_else _ (by simpa using h2) w
  have HL : ∀ w, Calls Try.prog 23 #[.int .i64 b.k] w fun e w' => e = .returned (.int .i64 (if b.k = 2 then 36 else 35)) ∧ Below w.heap.size w w' := fun w => by
    by_cases h2 : b.k = 2
    · rw [if_pos h2]; exact long_two _ (by simpa using h2) w
    · rw [if_neg h2]; exact long_else _ (by simpa using h2) w
  have hz : (ofL (frontL b)).size = 35 := by rw [ofL_size, front_len]
  have HP := fun w => pad_any (ofL (frontL b)) (if b.k = 2 then 36 else 35) w (by omega)
  rw [pad_front b h128, ← out_front b] at HP
  unfold bTxt bErr
  rw [hR]
  simp only [if_true]
  exact bytes_full b _ _ _ _ _ w hk' (by omega) (by omega) (by split <;> omega) (by split <;> omega) (by omega) (by omega) (by omega) (by omega) (by omega) (by omega) (by omega) (by omega) (by omega) (by omega)
    (by simp [ByteArray.size_append, ofL_size, putL_length]) (Lib.hid HR) (Lib.hid HV) (Lib.hid fun w => flags_any b w) (Lib.hid HX) (Lib.hid HL) (Lib.hid HP)

end Bpd
end Go.Proofs.Ytiokkahldhmhlaa
