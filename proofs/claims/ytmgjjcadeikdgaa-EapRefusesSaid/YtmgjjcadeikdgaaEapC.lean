/-
  What eap.Bytes, and the document's answer beside it, write of any packet; and that they change nothing that was there.
-/
import Derived.Test.YtmgjjcadeikdgaaEapB
namespace Go.Proofs.Ytmgjjcadeikdgaa
open Go.RowKit
namespace Eap
open Oct Mac Eth Epl

theorem conv_two (W : World) (x y : Nat) (hx : x < 256) (hy : y < 256) :
    (convert 47 9 (.slice (some ⟨W.heap.size, 0, none⟩) 2 2)).run Try.prog (W.alloc (Obj.cells #[Value.int IntKind.u8 x, Value.int IntKind.u8 y] 5)) = .ok (.string ⟨#[UInt8.ofNat x, UInt8.ofNat y]⟩) (W.alloc (Obj.cells #[Value.int IntKind.u8 x, Value.int IntKind.u8 y] 5)) := by
  refine run_convert_bytes_back _ 47 9 5 ⟨W.heap.size, 0, none⟩ 2 [UInt8.ofNat x, UInt8.ofNat y] Try.underlying47 Try.underlying5 Try.underlying9 fun j hj => ?_
  match j, hj with
  | 0, _ => simp [Addr.add]; omega
  | 1, _ => simp [Addr.add]; omega

set_option maxHeartbeats 1000000 in
theorem bytes_wrong (c i t : Int) (d : ByteArray) (w : World)
    (HR : Hid (∀ w, Calls Try.prog 12 #[pk c i t d] w fun e w' => e = .returned (.bool false) ∧ Below w.heap.size w w')) :
    Calls Try.prog 8 #[pk c i t d] w fun e w' => e = .returned (.tuple #[.string ⟨#[]⟩, .int .i64 1]) ∧ Below w.heap.size w w' := by
  go_enter Try.func8, Try.ntmps8
  go_wp2_with fail
  have bel := Bx.bel_refl w
  have B0 := Lib.hid (Bx.Blk.new w [.int .i64 c, .int .i64 i, .int .i64 t, .string d] 23)
  replace bel := Bx.bel_box bel (Obj.cells #[.int .i64 c, .int .i64 i, .int .i64 t, .string d] 23)
  have c0_0 := B0.out.at 0 rfl
  have c0_1 := B0.out.at 1 rfl
  have c0_2 := B0.out.at 2 rfl
  have c0_3 := B0.out.at 3 rfl
  refine (HR.out _).mono ?_; rintro e w1 ⟨rfl, hb1⟩
  replace bel := Bx.then_below bel hb1
  replace B0 := Lib.hid (B0.out.keep hb1)
  clear hb1
  clear c0_0 c0_1 c0_2 c0_3
  have c0_0 := B0.out.at 0 rfl
  have c0_1 := B0.out.at 1 rfl
  have c0_2 := B0.out.at 2 rfl
  have c0_3 := B0.out.at 3 rfl
  go_wp2_with fail
  go_ret2
  exact ⟨rfl, bel⟩

set_option maxHeartbeats 1000000 in
theorem rbytes_wrong (c i t : Int) (d : ByteArray) (w : World)
    (HR : Hid (∀ w, Calls Try.prog 13 #[pk c i t d] w fun e w' => e = .returned (.bool false) ∧ Below w.heap.size w w')) :
    Calls Try.prog 9 #[pk c i t d] w fun e w' => e = .returned (.tuple #[.string ⟨#[]⟩, .int .i64 1]) ∧ Below w.heap.size w w' := by
  go_enter Try.func9, Try.ntmps9
  go_wp2_with fail
  have bel := Bx.bel_refl w
  have B0 := Lib.hid (Bx.Blk.new w [.int .i64 c, .int .i64 i, .int .i64 t, .string d] 23)
  replace bel := Bx.bel_box bel (Obj.cells #[.int .i64 c, .int .i64 i, .int .i64 t, .string d] 23)
  have c0_0 := B0.out.at 0 rfl
  have c0_1 := B0.out.at 1 rfl
  have c0_2 := B0.out.at 2 rfl
  have c0_3 := B0.out.at 3 rfl
  refine (HR.out _).mono ?_; rintro e w1 ⟨rfl, hb1⟩
  replace bel := Bx.then_below bel hb1
  replace B0 := Lib.hid (B0.out.keep hb1)
  clear hb1
  clear c0_0 c0_1 c0_2 c0_3
  have c0_0 := B0.out.at 0 rfl
  have c0_1 := B0.out.at 1 rfl
  have c0_2 := B0.out.at 2 rfl
  have c0_3 := B0.out.at 3 rfl
  go_wp2_with fail
  go_ret2
  exact ⟨rfl, bel⟩

set_option maxHeartbeats 1000000 in
theorem bytes_typed (c i t : Nat) (d K P : ByteArray) (w : World) (hc : (c : Int) = 1 ∨ (c : Int) = 2) (hi : i < 256) (ht : t < 256) (hd : d.size ≤ 1019) (zK : K.size = 1) (zP : P.size = 2)
    (HR : Hid (∀ w, Calls Try.prog 12 #[pk c i t d] w fun e w' => e = .returned (.bool true) ∧ Below w.heap.size w w'))
    (HK : Hid (∀ w, Calls Try.prog 27 #[.int .u64 t, .int .i64 1] w fun e w' => e = .returned (.string K) ∧ Below w.heap.size w w'))
    (HP : Hid (∀ w, Calls Try.prog 27 #[.int .u64 (4 + (1 + (d.size : Int))), .int .i64 2] w fun e w' => e = .returned (.string P) ∧ Below w.heap.size w w')) :
    Calls Try.prog 8 #[pk c i t d] w fun e w' => e = .returned (.tuple #[.string (⟨#[UInt8.ofNat c, UInt8.ofNat i]⟩ ++ P ++ (K ++ d)), .int .i64 0]) ∧ Below w.heap.size w w' := by
  have q1 : IntKind.u64.wrap (t : Int) = t := by rw [IntKind.wrap_u64]; omega
  have q2 : IntKind.u64.wrap (4 + (1 + (d.size : Int))) = 4 + (1 + (d.size : Int)) := by rw [IntKind.wrap_u64]; omega
  have z0 : ¬ (1 + d.size > 9223372036854775807) := by omega
  go_enter Try.func8, Try.ntmps8
  go_wp2_with fail
  have bel := Bx.bel_refl w
  have B0 := Lib.hid (Bx.Blk.new w [.int .i64 c, .int .i64 i, .int .i64 t, .string d] 23)
  replace bel := Bx.bel_box bel (Obj.cells #[.int .i64 c, .int .i64 i, .int .i64 t, .string d] 23)
  have c0_0 := B0.out.at 0 rfl
  have c0_1 := B0.out.at 1 rfl
  have c0_2 := B0.out.at 2 rfl
  have c0_3 := B0.out.at 3 rfl
  refine (HR.out _).mono ?_; rintro e w1 ⟨rfl, hb1⟩
  replace bel := Bx.then_below bel hb1
  replace B0 := Lib.hid (B0.out.keep hb1)
  clear hb1
  clear c0_0 c0_1 c0_2 c0_3
  have c0_0 := B0.out.at 0 rfl
  have c0_1 := B0.out.at 1 rfl
  have c0_2 := B0.out.at 2 rfl
  have c0_3 := B0.out.at 3 rfl
  go_wp2_with fail
  refine (typed_yes _ hc _).mono ?_; rintro e w' ⟨rfl, rfl⟩
  clear c0_0 c0_1 c0_2 c0_3
  have c0_0 := B0.out.at 0 rfl
  have c0_1 := B0.out.at 1 rfl
  have c0_2 := B0.out.at 2 rfl
  have c0_3 := B0.out.at 3 rfl
  go_wp2_with fail
  go_region_held3 (fun w' => w'.cell? ⟨w.heap.size, 0, none⟩ = some (.int .i64 c) ∧ w'.cell? ⟨w.heap.size, 1, none⟩ = some (.int .i64 i) ∧ w'.cell? ⟨w.heap.size, 2, none⟩ = some (.int .i64 t) ∧ w'.cell? ⟨w.heap.size, 3, none⟩ = some (.string d))
    (first | go_keep | (go_split_ands; exact ⟨Bx.keep_cell (by assumption) (by assumption), Bx.keep_cell (by assumption) (by assumption), Bx.keep_cell (by assumption) (by assumption), Bx.keep_cell (by assumption) (by assumption)⟩))
    (first | (go_at_call 27; with_reducible refine (HK.out _).mono ?_; rintro e w3 ⟨rfl, hb3⟩))
  replace bel := Bx.bel_drew bel hb3
  clear hb3
  clear c0_0 c0_1 c0_2 c0_3 B0
  obtain ⟨c0_0, c0_1, c0_2, c0_3⟩ : w3.cell? ⟨w.heap.size, 0, none⟩ = some (.int .i64 c) ∧ w3.cell? ⟨w.heap.size, 1, none⟩ = some (.int .i64 i) ∧ w3.cell? ⟨w.heap.size, 2, none⟩ = some (.int .i64 t) ∧ w3.cell? ⟨w.heap.size, 3, none⟩ = some (.string d) := by with_reducible assumption
  go_wp2_with fail
  refine (HP.out _).mono ?_; rintro e w9 ⟨rfl, hb9⟩
  replace bel := Bx.then_below bel hb9
  replace c0_0 := Bx.keep_cell hb9 c0_0
  replace c0_1 := Bx.keep_cell hb9 c0_1
  replace c0_2 := Bx.keep_cell hb9 c0_2
  replace c0_3 := Bx.keep_cell hb9 c0_3
  clear hb9
  have hcv := conv_two w9 c i (by omega) hi
  have z1 : ¬ (2 + P.size > 9223372036854775807) := by omega
  have z2 : ¬ (4 + (1 + d.size) > 9223372036854775807) := by omega
  go_wp2_with fail
  go_ret2
  exact ⟨rfl, bel.alloc bel.size _⟩

set_option maxHeartbeats 1000000 in
theorem bytes_bare (c i t : Nat) (d P : ByteArray) (w : World) (h1 : ((c : Int) == 1) = false) (h2 : ((c : Int) == 2) = false) (hc : c < 256) (hi : i < 256) (zP : P.size = 2)
    (HR : Hid (∀ w, Calls Try.prog 12 #[pk c i t d] w fun e w' => e = .returned (.bool true) ∧ Below w.heap.size w w'))
    (HP : Hid (∀ w, Calls Try.prog 27 #[.int .u64 4, .int .i64 2] w fun e w' => e = .returned (.string P) ∧ Below w.heap.size w w')) :
    Calls Try.prog 8 #[pk c i t d] w fun e w' => e = .returned (.tuple #[.string (⟨#[UInt8.ofNat c, UInt8.ofNat i]⟩ ++ P ++ ⟨#[]⟩), .int .i64 0]) ∧ Below w.heap.size w w' := by
  go_enter Try.func8, Try.ntmps8
  go_wp2_with fail
  have bel := Bx.bel_refl w
  have B0 := Lib.hid (Bx.Blk.new w [.int .i64 c, .int .i64 i, .int .i64 t, .string d] 23)
  replace bel := Bx.bel_box bel (Obj.cells #[.int .i64 c, .int .i64 i, .int .i64 t, .string d] 23)
  have c0_0 := B0.out.at 0 rfl
  have c0_1 := B0.out.at 1 rfl
  have c0_2 := B0.out.at 2 rfl
  have c0_3 := B0.out.at 3 rfl
  refine (HR.out _).mono ?_; rintro e w1 ⟨rfl, hb1⟩
  replace bel := Bx.then_below bel hb1
  replace B0 := Lib.hid (B0.out.keep hb1)
  clear hb1
  clear c0_0 c0_1 c0_2 c0_3
  have c0_0 := B0.out.at 0 rfl
  have c0_1 := B0.out.at 1 rfl
  have c0_2 := B0.out.at 2 rfl
  have c0_3 := B0.out.at 3 rfl
  go_wp2_with fail
  refine (typed_no _ h1 h2 _).mono ?_; rintro e w' ⟨rfl, rfl⟩
  clear c0_0 c0_1 c0_2 c0_3
  have c0_0 := B0.out.at 0 rfl
  have c0_1 := B0.out.at 1 rfl
  have c0_2 := B0.out.at 2 rfl
  have c0_3 := B0.out.at 3 rfl
  go_wp2_with fail
  refine (HP.out _).mono ?_; rintro e w3 ⟨rfl, hb3⟩
  replace bel := Bx.then_below bel hb3
  replace B0 := Lib.hid (B0.out.keep hb3)
  clear hb3
  clear c0_0 c0_1 c0_2 c0_3
  have c0_0 := B0.out.at 0 rfl
  have c0_1 := B0.out.at 1 rfl
  have c0_2 := B0.out.at 2 rfl
  have c0_3 := B0.out.at 3 rfl
  have hcv := conv_two w3 c i hc hi
  have z1 : ¬ (2 + P.size > 9223372036854775807) := by omega
  go_wp2_with fail
  go_ret2
  exact ⟨rfl, bel.alloc bel.size _⟩

set_option maxHeartbeats 1000000 in
theorem rbytes_bare (c i t : Nat) (d C I P : ByteArray) (w : World) (h1 : ((c : Int) == 1) = false) (h2 : ((c : Int) == 2) = false) (hc : c < 256) (hi : i < 256) (zC : C.size = 1) (zI : I.size = 1) (zP : P.size = 2)
    (HR : Hid (∀ w, Calls Try.prog 13 #[pk c i t d] w fun e w' => e = .returned (.bool true) ∧ Below w.heap.size w w'))
    (HC : Hid (∀ w, Calls Try.prog 28 #[.int .u64 c, .int .i64 1] w fun e w' => e = .returned (.string C) ∧ Below w.heap.size w w'))
    (HI : Hid (∀ w, Calls Try.prog 28 #[.int .u64 i, .int .i64 1] w fun e w' => e = .returned (.string I) ∧ Below w.heap.size w w'))
    (HP : Hid (∀ w, Calls Try.prog 28 #[.int .u64 4, .int .i64 2] w fun e w' => e = .returned (.string P) ∧ Below w.heap.size w w')) :
    Calls Try.prog 9 #[pk c i t d] w fun e w' => e = .returned (.tuple #[.string (C ++ I ++ P), .int .i64 0]) ∧ Below w.heap.size w w' := by
  have q0 : IntKind.u64.wrap (c : Int) = c := by rw [IntKind.wrap_u64]; omega
  have q1 : IntKind.u64.wrap (i : Int) = i := by rw [IntKind.wrap_u64]; omega
  go_enter Try.func9, Try.ntmps9
  go_wp2_with fail
  have bel := Bx.bel_refl w
  have B0 := Lib.hid (Bx.Blk.new w [.int .i64 c, .int .i64 i, .int .i64 t, .string d] 23)
  replace bel := Bx.bel_box bel (Obj.cells #[.int .i64 c, .int .i64 i, .int .i64 t, .string d] 23)
  have c0_0 := B0.out.at 0 rfl
  have c0_1 := B0.out.at 1 rfl
  have c0_2 := B0.out.at 2 rfl
  have c0_3 := B0.out.at 3 rfl
  refine (HR.out _).mono ?_; rintro e w1 ⟨rfl, hb1⟩
  replace bel := Bx.then_below bel hb1
  replace B0 := Lib.hid (B0.out.keep hb1)
  clear hb1
  clear c0_0 c0_1 c0_2 c0_3
  have c0_0 := B0.out.at 0 rfl
  have c0_1 := B0.out.at 1 rfl
  have c0_2 := B0.out.at 2 rfl
  have c0_3 := B0.out.at 3 rfl
  go_wp2_with fail
  go_region_held3 (fun w' => w'.cell? ⟨w.heap.size, 0, none⟩ = some (.int .i64 c) ∧ w'.cell? ⟨w.heap.size, 1, none⟩ = some (.int .i64 i) ∧ w'.cell? ⟨w.heap.size, 2, none⟩ = some (.int .i64 t) ∧ w'.cell? ⟨w.heap.size, 3, none⟩ = some (.string d))
    (first | go_keep | (go_split_ands; exact ⟨Bx.keep_cell (by assumption) (by assumption), Bx.keep_cell (by assumption) (by assumption), Bx.keep_cell (by assumption) (by assumption), Bx.keep_cell (by assumption) (by assumption)⟩))
    (first | (go_at_call 28; with_reducible refine (HC.out _).mono ?_; rintro e w2 ⟨rfl, hb2⟩) | (go_at_call 28; with_reducible refine (HI.out _).mono ?_; rintro e w3 ⟨rfl, hb3⟩))
  replace bel := Bx.bel_drew bel hb2
  replace bel := Bx.then_below bel hb3
  clear hb2 hb3
  clear c0_0 c0_1 c0_2 c0_3 B0
  obtain ⟨c0_0, c0_1, c0_2, c0_3⟩ : w3.cell? ⟨w.heap.size, 0, none⟩ = some (.int .i64 c) ∧ w3.cell? ⟨w.heap.size, 1, none⟩ = some (.int .i64 i) ∧ w3.cell? ⟨w.heap.size, 2, none⟩ = some (.int .i64 t) ∧ w3.cell? ⟨w.heap.size, 3, none⟩ = some (.string d) := by with_reducible assumption
  go_wp2_with fail
  refine (rtyped_no _ h1 h2 _).mono ?_; rintro e w' ⟨rfl, rfl⟩
  go_wp2_with fail
  refine (HP.out _).mono ?_; rintro e w9 ⟨rfl, hb9⟩
  go_wp2_with fail
  go_ret2
  exact ⟨rfl, Bx.then_below bel hb9⟩

set_option maxHeartbeats 1000000 in
theorem rbytes_typed (c i t : Nat) (d C I P K : ByteArray) (w : World) (hk : (c : Int) = 1 ∨ (c : Int) = 2) (hc : c < 256) (hi : i < 256) (ht : t < 256) (hd : d.size ≤ 1019) (zC : C.size = 1) (zI : I.size = 1) (zP : P.size = 2) (zK : K.size = 1)
    (HR : Hid (∀ w, Calls Try.prog 13 #[pk c i t d] w fun e w' => e = .returned (.bool true) ∧ Below w.heap.size w w'))
    (HC : Hid (∀ w, Calls Try.prog 28 #[.int .u64 c, .int .i64 1] w fun e w' => e = .returned (.string C) ∧ Below w.heap.size w w'))
    (HI : Hid (∀ w, Calls Try.prog 28 #[.int .u64 i, .int .i64 1] w fun e w' => e = .returned (.string I) ∧ Below w.heap.size w w'))
    (HP : Hid (∀ w, Calls Try.prog 28 #[.int .u64 (5 + (d.size : Int)), .int .i64 2] w fun e w' => e = .returned (.string P) ∧ Below w.heap.size w w'))
    (HK : Hid (∀ w, Calls Try.prog 28 #[.int .u64 t, .int .i64 1] w fun e w' => e = .returned (.string K) ∧ Below w.heap.size w w')) :
    Calls Try.prog 9 #[pk c i t d] w fun e w' => e = .returned (.tuple #[.string (C ++ I ++ P ++ K ++ d), .int .i64 0]) ∧ Below w.heap.size w w' := by
  have q0 : IntKind.u64.wrap (c : Int) = c := by rw [IntKind.wrap_u64]; omega
  have q1 : IntKind.u64.wrap (i : Int) = i := by rw [IntKind.wrap_u64]; omega
  have q2 : IntKind.u64.wrap (t : Int) = t := by rw [IntKind.wrap_u64]; omega
  have q3 : IntKind.u64.wrap (5 + (d.size : Int)) = 5 + (d.size : Int) := by rw [IntKind.wrap_u64]; omega
  have q4 : IntKind.i64.wrap (5 + (d.size : Int)) = 5 + (d.size : Int) := IntWalk.i64_in _ (by omega)
  have z0 : ¬ (5 + d.size > 9223372036854775807) := by omega
  go_enter Try.func9, Try.ntmps9
  go_wp2_with fail
  have bel := Bx.bel_refl w
  have B0 := Lib.hid (Bx.Blk.new w [.int .i64 c, .int .i64 i, .int .i64 t, .string d] 23)
  replace bel := Bx.bel_box bel (Obj.cells #[.int .i64 c, .int .i64 i, .int .i64 t, .string d] 23)
  have c0_0 := B0.out.at 0 rfl
  have c0_1 := B0.out.at 1 rfl
  have c0_2 := B0.out.at 2 rfl
  have c0_3 := B0.out.at 3 rfl
  refine (HR.out _).mono ?_; rintro e w1 ⟨rfl, hb1⟩
  replace bel := Bx.then_below bel hb1
  replace B0 := Lib.hid (B0.out.keep hb1)
  clear hb1
  clear c0_0 c0_1 c0_2 c0_3
  have c0_0 := B0.out.at 0 rfl
  have c0_1 := B0.out.at 1 rfl
  have c0_2 := B0.out.at 2 rfl
  have c0_3 := B0.out.at 3 rfl
  go_wp2_with fail
  go_region_held3 (fun w' => w'.cell? ⟨w.heap.size, 0, none⟩ = some (.int .i64 c) ∧ w'.cell? ⟨w.heap.size, 1, none⟩ = some (.int .i64 i) ∧ w'.cell? ⟨w.heap.size, 2, none⟩ = some (.int .i64 t) ∧ w'.cell? ⟨w.heap.size, 3, none⟩ = some (.string d))
    (first | go_keep | (go_split_ands; exact ⟨Bx.keep_cell (by assumption) (by assumption), Bx.keep_cell (by assumption) (by assumption), Bx.keep_cell (by assumption) (by assumption), Bx.keep_cell (by assumption) (by assumption)⟩))
    (first | (go_at_call 28; with_reducible refine (HC.out _).mono ?_; rintro e w2 ⟨rfl, hb2⟩) | (go_at_call 28; with_reducible refine (HI.out _).mono ?_; rintro e w3 ⟨rfl, hb3⟩))
  replace bel := Bx.bel_drew bel hb2
  replace bel := Bx.then_below bel hb3
  clear hb2 hb3
  clear c0_0 c0_1 c0_2 c0_3 B0
  obtain ⟨c0_0, c0_1, c0_2, c0_3⟩ : w3.cell? ⟨w.heap.size, 0, none⟩ = some (.int .i64 c) ∧ w3.cell? ⟨w.heap.size, 1, none⟩ = some (.int .i64 i) ∧ w3.cell? ⟨w.heap.size, 2, none⟩ = some (.int .i64 t) ∧ w3.cell? ⟨w.heap.size, 3, none⟩ = some (.string d) := by with_reducible assumption
  go_wp2_with fail
  refine (rtyped_yes _ hk _).mono ?_; rintro e w' ⟨rfl, rfl⟩
  go_wp2_with fail
  go_region_held3 (fun w' => w'.cell? ⟨w.heap.size, 0, none⟩ = some (.int .i64 c) ∧ w'.cell? ⟨w.heap.size, 1, none⟩ = some (.int .i64 i) ∧ w'.cell? ⟨w.heap.size, 2, none⟩ = some (.int .i64 t) ∧ w'.cell? ⟨w.heap.size, 3, none⟩ = some (.string d))
    (first | go_keep | (go_split_ands; exact ⟨Bx.keep_cell (by assumption) (by assumption), Bx.keep_cell (by assumption) (by assumption), Bx.keep_cell (by assumption) (by assumption), Bx.keep_cell (by assumption) (by assumption)⟩))
    (first | (go_at_call 28; with_reducible refine (HP.out _).mono ?_; rintro e w8 ⟨rfl, hb8⟩) | (go_at_call 28; with_reducible refine (HK.out _).mono ?_; rintro e w9 ⟨rfl, hb9⟩))
  go_wp2
  go_ret2
  exact ⟨rfl, Bx.then_below (Bx.bel_drew bel hb8) hb9⟩

/-- What Bytes answers. -/
def bErr (c i t : Int) (d : ByteArray) : Int := if rightP c i t d then 0 else 1
def bTxt (c i t : Int) (d : ByteArray) : ByteArray := if rightP c i t d then wireP c.toNat i.toNat t.toNat d else ⟨#[]⟩

theorem put_size (n k : Nat) : (⟨(putL n k).toArray⟩ : ByteArray).size = k := by show (putL n k).toArray.size = k; simp [putL_length]

theorem bytes_any (c i t : Int) (d : ByteArray) (w : World) (hd : d.size ≤ 9223372036854775807) :
    Calls Try.prog 8 #[pk c i t d] w fun e w' => e = .returned (.tuple #[.string (bTxt c i t d), .int .i64 (bErr c i t d)]) ∧ Below w.heap.size w w' := by
  have HR := fun w => right_any c i t d w hd
  cases hr : rightP c i t d
  · unfold bTxt bErr
    rw [hr] at HR ⊢
    exact bytes_wrong c i t d w (Lib.hid HR)
  · obtain ⟨x, y, z, rfl, rfl, rfl, hx, hy, hz, hs, hc⟩ := nats c i t d hr
    unfold bTxt bErr
    rw [hr] at HR ⊢
    simp only [if_true, Int.toNat_natCast]
    rcases hc with ⟨hc, _⟩ | ⟨hc, _, hl⟩
    · have e : wireP x y z d = ⟨#[UInt8.ofNat x, UInt8.ofNat y]⟩ ++ ofL (putL (4 + (1 + d.size)) 2) ++ (ofL (putL z 1) ++ d) := by
        unfold wireP
        rw [restP_size, if_pos hc]
        unfold restP
        rw [if_pos hc]
      rw [e]
      exact bytes_typed x y z d _ _ w (by omega) hy hz hs (put_size _ _) (put_size _ _) (Lib.hid HR) (Lib.hid fun w => put_any z (by omega) 1 w) (Lib.hid fun w => put_any (4 + (1 + d.size)) (by omega) 2 w)
    · have e : wireP x y z d = ⟨#[UInt8.ofNat x, UInt8.ofNat y]⟩ ++ ofL (putL 4 2) ++ ⟨#[]⟩ := by
        unfold wireP
        rw [restP_size, if_neg (by omega)]
        unfold restP
        rw [if_neg (by omega)]
      rw [e]
      exact bytes_bare x y z d _ w (by simp; omega) (by simp; omega) hx hy (put_size _ _) (Lib.hid HR) (Lib.hid fun w => put_any 4 (by omega) 2 w)

theorem rbytes_any (c i t : Int) (d : ByteArray) (w : World) (hd : d.size ≤ 9223372036854775807) :
    Calls Try.prog 9 #[pk c i t d] w fun e w' => e = .returned (.tuple #[.string (bTxt c i t d), .int .i64 (bErr c i t d)]) ∧ Below w.heap.size w w' := by
  have HR := fun w => rright_any c i t d w hd
  cases hr : rightP c i t d
  · unfold bTxt bErr
    rw [hr] at HR ⊢
    exact rbytes_wrong c i t d w (Lib.hid HR)
  · obtain ⟨x, y, z, rfl, rfl, rfl, hx, hy, hz, hs, hc⟩ := nats c i t d hr
    unfold bTxt bErr
    rw [hr] at HR ⊢
    simp only [if_true, Int.toNat_natCast]
    have e0 : ofL [UInt8.ofNat x, UInt8.ofNat y] = ofL (putL x 1) ++ ofL (putL y 1) := by rw [ofL_append]; rfl
    rcases hc with ⟨hc, _⟩ | ⟨hc, _, hl⟩
    · have e : wireP x y z d = ofL (putL x 1) ++ ofL (putL y 1) ++ ofL (putL (5 + d.size) 2) ++ ofL (putL z 1) ++ d := by
        unfold wireP
        rw [restP_size, if_pos hc, e0, show 4 + (1 + d.size) = 5 + d.size by omega]
        unfold restP
        rw [if_pos hc, ByteArray.append_assoc, ByteArray.append_assoc, ByteArray.append_assoc, ByteArray.append_assoc, ByteArray.append_assoc]
      rw [e]
      exact rbytes_typed x y z d _ _ _ _ w (by omega) hx hy hz hs (put_size _ _) (put_size _ _) (put_size _ _) (put_size _ _) (Lib.hid HR) (Lib.hid fun w => rput_any x (by omega) 1 w) (Lib.hid fun w => rput_any y (by omega) 1 w) (Lib.hid fun w => rput_any (5 + d.size) (by omega) 2 w) (Lib.hid fun w => rput_any z (by omega) 1 w)
    · have e : wireP x y z d = ofL (putL x 1) ++ ofL (putL y 1) ++ ofL (putL 4 2) := by
        unfold wireP
        rw [restP_size, if_neg (by omega), e0]
        unfold restP
        rw [if_neg (by omega)]
        exact ByteArray.append_empty
      rw [e]
      exact rbytes_bare x y z d _ _ _ w (by simp; omega) (by simp; omega) hx hy (put_size _ _) (put_size _ _) (put_size _ _) (Lib.hid HR) (Lib.hid fun w => rput_any x (by omega) 1 w) (Lib.hid fun w => rput_any y (by omega) 1 w) (Lib.hid fun w => rput_any 4 (by omega) 2 w)

end Eap
end Go.Proofs.Ytmgjjcadeikdgaa
