/-
  What eap.Read reads of any text, way by way; and that it changes nothing that was there.
-/
import Derived.Test.YtmgjjcadeikdgaaEapC
namespace Go.Proofs.Ytmgjjcadeikdgaa
open Go.RowKit
namespace Eap
open Oct Mac Eth Epl

theorem box_below2 (w : World) (o o' : Obj) : Below w.heap.size w ((w.alloc o).alloc o') := ((Below.refl _ _).alloc (Nat.le_refl _) _).alloc (by simp) _

set_option maxHeartbeats 1000000 in
theorem read_short (s : ByteArray) (w : World) (hs : s.size < 4) :
    Calls Try.prog 10 #[.string s] w fun e w' => e = .returned (.tuple #[pk 0 0 0 ⟨#[]⟩, .int .i64 2]) ∧ Below w.heap.size w w' := by
  go_enter Try.func10, Try.ntmps10
  go_wp2_with fail
  refine bodyPost_ret (v := .tuple #[pk 0 0 0 ⟨#[]⟩, .int .i64 2]) ?_ rfl ⟨rfl, ?_⟩
  · simp [results, Try.results10, go_sem]
  · exact Bx.box_below _ _

set_option maxHeartbeats 1000000 in
theorem read_long (s : ByteArray) (N : Nat) (F : Int) (w : World) (hs : 4 ≤ s.size) (hz : s.size ≤ 9223372036854775807) (hN : 1024 < N)
    (HG : Hid (∀ w, Calls Try.prog 30 #[.string s, .int .i64 2, .int .i64 2] w fun e w' => e = .returned (.tuple #[.int .u64 N, .int .i64 F]) ∧ w = w')) :
    Calls Try.prog 10 #[.string s] w fun e w' => e = .returned (.tuple #[pk 0 0 0 ⟨#[]⟩, .int .i64 4]) ∧ Below w.heap.size w w' := by
  have q0 : IntKind.u64.wrap (s.size : Int) = s.size := by rw [IntKind.wrap_u64]; omega
  go_enter Try.func10, Try.ntmps10
  go_wp2_with fail
  refine (HG.out _).mono ?_; rintro e w' ⟨rfl, rfl⟩
  go_wp2_with fail
  refine bodyPost_ret (v := .tuple #[pk 0 0 0 ⟨#[]⟩, .int .i64 4]) ?_ rfl ⟨rfl, ?_⟩
  · simp [results, Try.results10, go_sem]
  · exact Bx.box_below _ _

set_option maxHeartbeats 1000000 in
theorem read_few (s : ByteArray) (N : Nat) (F : Int) (w : World) (hs : 4 ≤ s.size) (hz : s.size ≤ 9223372036854775807) (hN : N ≤ 1024) (hf : s.size < N)
    (HG : Hid (∀ w, Calls Try.prog 30 #[.string s, .int .i64 2, .int .i64 2] w fun e w' => e = .returned (.tuple #[.int .u64 N, .int .i64 F]) ∧ w = w')) :
    Calls Try.prog 10 #[.string s] w fun e w' => e = .returned (.tuple #[pk 0 0 0 ⟨#[]⟩, .int .i64 2]) ∧ Below w.heap.size w w' := by
  have q0 : IntKind.u64.wrap (s.size : Int) = s.size := by rw [IntKind.wrap_u64]; omega
  go_enter Try.func10, Try.ntmps10
  go_wp2_with fail
  refine (HG.out _).mono ?_; rintro e w' ⟨rfl, rfl⟩
  go_wp2_with fail
  refine bodyPost_ret (v := .tuple #[pk 0 0 0 ⟨#[]⟩, .int .i64 2]) ?_ rfl ⟨rfl, ?_⟩
  · simp [results, Try.results10, go_sem]
  · exact Bx.box_below _ _

set_option maxHeartbeats 1000000 in
theorem read_unfit (s : ByteArray) (c i N : Nat) (F : Int) (w : World) (hs : 4 ≤ s.size) (hz : s.size ≤ 9223372036854775807) (h0 : s[0].toNat = c) (h1 : s[1].toNat = i) (hc : c < 256) (hi : i < 256) (hN : N ≤ 1024) (hf : N ≤ s.size) 
    (HG : Hid (∀ w, Calls Try.prog 30 #[.string s, .int .i64 2, .int .i64 2] w fun e w' => e = .returned (.tuple #[.int .u64 N, .int .i64 F]) ∧ w = w'))
    (HF : Hid (∀ w, Calls Try.prog 31 #[.int .i64 c, .int .i64 N] w fun e w' => e = .returned (.bool false) ∧ w = w')) :
    Calls Try.prog 10 #[.string s] w fun e w' => e = .returned (.tuple #[pk 0 0 0 ⟨#[]⟩, .int .i64 3]) ∧ Below w.heap.size w w' := by
  have q0 : IntKind.u64.wrap (s.size : Int) = s.size := by rw [IntKind.wrap_u64]; omega
  have q1 : IntKind.i64.wrap (N : Int) = N := IntWalk.i64_in _ (by omega)
  have p0 : 0 < s.size := by omega
  have p1 : 1 < s.size := by omega
  go_enter Try.func10, Try.ntmps10
  go_wp2_with fail
  refine (HG.out _).mono ?_; rintro e w' ⟨rfl, rfl⟩
  go_wp2_with fail
  go_region
  have bel := (box_below2 w (Obj.cells #[.int .i64 0, .int .i64 0, .int .i64 0, .string ⟨#[]⟩] 23) (Obj.cells #[.int .i64 c, .int .i64 i, .int .i64 0, .string ⟨#[]⟩] 23)).drew
  go_wp2_with fail
  refine (HF.out _).mono ?_; rintro e w' ⟨rfl, rfl⟩
  go_wp2_with fail
  refine bodyPost_ret (v := .tuple #[pk 0 0 0 ⟨#[]⟩, .int .i64 3]) ?_ rfl ⟨rfl, ?_⟩
  · simp [results, Try.results10, go_sem]
  · exact bel

set_option maxHeartbeats 1000000 in
theorem read_bare_true (s : ByteArray) (c i N : Nat) (F : Int) (w : World) (hs : 4 ≤ s.size) (hz : s.size ≤ 9223372036854775807) (h0 : s[0].toNat = c) (h1 : s[1].toNat = i) (hc : c < 256) (hi : i < 256) (hN : N ≤ 1024) (hf : N ≤ s.size) 
    (HG : Hid (∀ w, Calls Try.prog 30 #[.string s, .int .i64 2, .int .i64 2] w fun e w' => e = .returned (.tuple #[.int .u64 N, .int .i64 F]) ∧ w = w'))
    (HF : Hid (∀ w, Calls Try.prog 31 #[.int .i64 c, .int .i64 N] w fun e w' => e = .returned (.bool true) ∧ w = w'))
    (HT : Hid (∀ w, Calls Try.prog 26 #[.int .i64 c] w fun e w' => e = .returned (.bool false) ∧ w = w'))
    (HR : Hid (∀ w, Calls Try.prog 12 #[pk c i 0 ⟨#[]⟩] w fun e w' => e = .returned (.bool true) ∧ Below w.heap.size w w')) :
    Calls Try.prog 10 #[.string s] w fun e w' => e = .returned (.tuple #[pk c i 0 ⟨#[]⟩, .int .i64 0]) ∧ Below w.heap.size w w' := by
  have q0 : IntKind.u64.wrap (s.size : Int) = s.size := by rw [IntKind.wrap_u64]; omega
  have q1 : IntKind.i64.wrap (N : Int) = N := IntWalk.i64_in _ (by omega)
  have p0 : 0 < s.size := by omega
  have p1 : 1 < s.size := by omega
  go_enter Try.func10, Try.ntmps10
  go_wp2_with fail
  refine (HG.out _).mono ?_; rintro e w' ⟨rfl, rfl⟩
  go_wp2_with fail
  go_region
  have bel := (box_below2 w (Obj.cells #[.int .i64 0, .int .i64 0, .int .i64 0, .string ⟨#[]⟩] 23) (Obj.cells #[.int .i64 c, .int .i64 i, .int .i64 0, .string ⟨#[]⟩] 23)).drew
  go_wp2_with fail
  refine (HF.out _).mono ?_; rintro e w' ⟨rfl, rfl⟩
  go_wp2_with fail
  refine (HT.out _).mono ?_; rintro e w' ⟨rfl, rfl⟩
  go_wp2_with fail
  refine (HR.out _).mono ?_; rintro e w1 ⟨rfl, hb1⟩
  obtain ⟨hc1, hf1⟩ := Bx.bcell hb1
  have hz1 : w.heap.size + 1 < w1.heap.size := by have := hb1.size; simp at this; omega
  have HS := Bx.cell_set
  go_wp2_with fail
  refine bodyPost_ret (v := .tuple #[pk c i 0 ⟨#[]⟩, .int .i64 0]) ?_ rfl ⟨rfl, ?_⟩
  · simp [results, Try.results10, go_sem, hc1, HS]
  · (iterate 4 refine Below.setCell ?_ (by simp) _); exact Bx.then_below bel hb1

set_option maxHeartbeats 1000000 in
theorem read_bare_false (s : ByteArray) (c i N : Nat) (F : Int) (w : World) (hs : 4 ≤ s.size) (hz : s.size ≤ 9223372036854775807) (h0 : s[0].toNat = c) (h1 : s[1].toNat = i) (hc : c < 256) (hi : i < 256) (hN : N ≤ 1024) (hf : N ≤ s.size) 
    (HG : Hid (∀ w, Calls Try.prog 30 #[.string s, .int .i64 2, .int .i64 2] w fun e w' => e = .returned (.tuple #[.int .u64 N, .int .i64 F]) ∧ w = w'))
    (HF : Hid (∀ w, Calls Try.prog 31 #[.int .i64 c, .int .i64 N] w fun e w' => e = .returned (.bool true) ∧ w = w'))
    (HT : Hid (∀ w, Calls Try.prog 26 #[.int .i64 c] w fun e w' => e = .returned (.bool false) ∧ w = w'))
    (HR : Hid (∀ w, Calls Try.prog 12 #[pk c i 0 ⟨#[]⟩] w fun e w' => e = .returned (.bool false) ∧ Below w.heap.size w w')) :
    Calls Try.prog 10 #[.string s] w fun e w' => e = .returned (.tuple #[pk 0 0 0 ⟨#[]⟩, .int .i64 3]) ∧ Below w.heap.size w w' := by
  have q0 : IntKind.u64.wrap (s.size : Int) = s.size := by rw [IntKind.wrap_u64]; omega
  have q1 : IntKind.i64.wrap (N : Int) = N := IntWalk.i64_in _ (by omega)
  have p0 : 0 < s.size := by omega
  have p1 : 1 < s.size := by omega
  go_enter Try.func10, Try.ntmps10
  go_wp2_with fail
  refine (HG.out _).mono ?_; rintro e w' ⟨rfl, rfl⟩
  go_wp2_with fail
  go_region
  have bel := (box_below2 w (Obj.cells #[.int .i64 0, .int .i64 0, .int .i64 0, .string ⟨#[]⟩] 23) (Obj.cells #[.int .i64 c, .int .i64 i, .int .i64 0, .string ⟨#[]⟩] 23)).drew
  go_wp2_with fail
  refine (HF.out _).mono ?_; rintro e w' ⟨rfl, rfl⟩
  go_wp2_with fail
  refine (HT.out _).mono ?_; rintro e w' ⟨rfl, rfl⟩
  go_wp2_with fail
  refine (HR.out _).mono ?_; rintro e w1 ⟨rfl, hb1⟩
  obtain ⟨hc1, hf1⟩ := Bx.bcell hb1
  have hz1 : w.heap.size + 1 < w1.heap.size := by have := hb1.size; simp at this; omega
  have HS := Bx.cell_set
  go_wp2_with fail
  refine bodyPost_ret (v := .tuple #[pk 0 0 0 ⟨#[]⟩, .int .i64 3]) ?_ rfl ⟨rfl, ?_⟩
  · simp [results, Try.results10, go_sem, hc1, HS]
  · (iterate 4 refine Below.setCell ?_ (by simp) _); exact Bx.then_below bel hb1

set_option maxHeartbeats 1000000 in
theorem read_typed_true (s : ByteArray) (c i t N : Nat) (F : Int) (w : World) (hs : 4 ≤ s.size) (hz : s.size ≤ 9223372036854775807) (h0 : s[0].toNat = c) (h1 : s[1].toNat = i) (hc : c < 256) (hi : i < 256) (hN : N ≤ 1024) (hf : N ≤ s.size) (p4 : 4 < s.size) (hN5 : 5 ≤ N) (h4 : s[4].toNat = t) (ht : t < 256) 
    (HG : Hid (∀ w, Calls Try.prog 30 #[.string s, .int .i64 2, .int .i64 2] w fun e w' => e = .returned (.tuple #[.int .u64 N, .int .i64 F]) ∧ w = w'))
    (HF : Hid (∀ w, Calls Try.prog 31 #[.int .i64 c, .int .i64 N] w fun e w' => e = .returned (.bool true) ∧ w = w'))
    (HT : Hid (∀ w, Calls Try.prog 26 #[.int .i64 c] w fun e w' => e = .returned (.bool true) ∧ w = w'))
    (HR : Hid (∀ w, Calls Try.prog 12 #[pk c i t (s.extract 5 N)] w fun e w' => e = .returned (.bool true) ∧ Below w.heap.size w w')) :
    Calls Try.prog 10 #[.string s] w fun e w' => e = .returned (.tuple #[pk c i t (s.extract 5 N), .int .i64 0]) ∧ Below w.heap.size w w' := by
  have q0 : IntKind.u64.wrap (s.size : Int) = s.size := by rw [IntKind.wrap_u64]; omega
  have q1 : IntKind.i64.wrap (N : Int) = N := IntWalk.i64_in _ (by omega)
  have p0 : 0 < s.size := by omega
  have p1 : 1 < s.size := by omega
  go_enter Try.func10, Try.ntmps10
  go_wp2_with fail
  refine (HG.out _).mono ?_; rintro e w' ⟨rfl, rfl⟩
  go_wp2_with fail
  go_region
  have bel := (box_below2 w (Obj.cells #[.int .i64 0, .int .i64 0, .int .i64 0, .string ⟨#[]⟩] 23) (Obj.cells #[.int .i64 c, .int .i64 i, .int .i64 0, .string ⟨#[]⟩] 23)).drew
  go_wp2_with fail
  refine (HF.out _).mono ?_; rintro e w' ⟨rfl, rfl⟩
  go_wp2_with fail
  refine (HT.out _).mono ?_; rintro e w' ⟨rfl, rfl⟩
  go_wp2_with fail
  clear bel
  go_region
  have bel := (box_below2 w (Obj.cells #[.int .i64 0, .int .i64 0, .int .i64 0, .string ⟨#[]⟩] 23) (Obj.cells #[.int .i64 c, .int .i64 i, .int .i64 t, .string (s.extract 5 N)] 23)).drew.drew
  go_wp2_with fail
  refine (HR.out _).mono ?_; rintro e w1 ⟨rfl, hb1⟩
  obtain ⟨hc1, hf1⟩ := Bx.bcell hb1
  have hz1 : w.heap.size + 1 < w1.heap.size := by have := hb1.size; simp at this; omega
  have HS := Bx.cell_set
  go_wp2_with fail
  refine bodyPost_ret (v := .tuple #[pk c i t (s.extract 5 N), .int .i64 0]) ?_ rfl ⟨rfl, ?_⟩
  · simp [results, Try.results10, go_sem, hc1, HS]
  · (iterate 4 refine Below.setCell ?_ (by simp) _); exact Bx.then_below bel hb1

set_option maxHeartbeats 1000000 in
theorem read_typed_false (s : ByteArray) (c i t N : Nat) (F : Int) (w : World) (hs : 4 ≤ s.size) (hz : s.size ≤ 9223372036854775807) (h0 : s[0].toNat = c) (h1 : s[1].toNat = i) (hc : c < 256) (hi : i < 256) (hN : N ≤ 1024) (hf : N ≤ s.size) (p4 : 4 < s.size) (hN5 : 5 ≤ N) (h4 : s[4].toNat = t) (ht : t < 256) 
    (HG : Hid (∀ w, Calls Try.prog 30 #[.string s, .int .i64 2, .int .i64 2] w fun e w' => e = .returned (.tuple #[.int .u64 N, .int .i64 F]) ∧ w = w'))
    (HF : Hid (∀ w, Calls Try.prog 31 #[.int .i64 c, .int .i64 N] w fun e w' => e = .returned (.bool true) ∧ w = w'))
    (HT : Hid (∀ w, Calls Try.prog 26 #[.int .i64 c] w fun e w' => e = .returned (.bool true) ∧ w = w'))
    (HR : Hid (∀ w, Calls Try.prog 12 #[pk c i t (s.extract 5 N)] w fun e w' => e = .returned (.bool false) ∧ Below w.heap.size w w')) :
    Calls Try.prog 10 #[.string s] w fun e w' => e = .returned (.tuple #[pk 0 0 0 ⟨#[]⟩, .int .i64 3]) ∧ Below w.heap.size w w' := by
  have q0 : IntKind.u64.wrap (s.size : Int) = s.size := by rw [IntKind.wrap_u64]; omega
  have q1 : IntKind.i64.wrap (N : Int) = N := IntWalk.i64_in _ (by omega)
  have p0 : 0 < s.size := by omega
  have p1 : 1 < s.size := by omega
  go_enter Try.func10, Try.ntmps10
  go_wp2_with fail
  refine (HG.out _).mono ?_; rintro e w' ⟨rfl, rfl⟩
  go_wp2_with fail
  go_region
  have bel := (box_below2 w (Obj.cells #[.int .i64 0, .int .i64 0, .int .i64 0, .string ⟨#[]⟩] 23) (Obj.cells #[.int .i64 c, .int .i64 i, .int .i64 0, .string ⟨#[]⟩] 23)).drew
  go_wp2_with fail
  refine (HF.out _).mono ?_; rintro e w' ⟨rfl, rfl⟩
  go_wp2_with fail
  refine (HT.out _).mono ?_; rintro e w' ⟨rfl, rfl⟩
  go_wp2_with fail
  clear bel
  go_region
  have bel := (box_below2 w (Obj.cells #[.int .i64 0, .int .i64 0, .int .i64 0, .string ⟨#[]⟩] 23) (Obj.cells #[.int .i64 c, .int .i64 i, .int .i64 t, .string (s.extract 5 N)] 23)).drew.drew
  go_wp2_with fail
  refine (HR.out _).mono ?_; rintro e w1 ⟨rfl, hb1⟩
  obtain ⟨hc1, hf1⟩ := Bx.bcell hb1
  have hz1 : w.heap.size + 1 < w1.heap.size := by have := hb1.size; simp at this; omega
  have HS := Bx.cell_set
  go_wp2_with fail
  refine bodyPost_ret (v := .tuple #[pk 0 0 0 ⟨#[]⟩, .int .i64 3]) ?_ rfl ⟨rfl, ?_⟩
  · simp [results, Try.results10, go_sem, hc1, HS]
  · (iterate 4 refine Below.setCell ?_ (by simp) _); exact Bx.then_below bel hb1

set_option maxHeartbeats 1000000 in
theorem rread_short (s : ByteArray) (w : World) (hs : s.size < 4) :
    Calls Try.prog 11 #[.string s] w fun e w' => e = .returned (.tuple #[pk 0 0 0 ⟨#[]⟩, .int .i64 2]) ∧ Below w.heap.size w w' := by
  go_enter Try.func11, Try.ntmps11
  go_wp2_with fail
  refine bodyPost_ret (v := .tuple #[pk 0 0 0 ⟨#[]⟩, .int .i64 2]) ?_ rfl ⟨rfl, ?_⟩
  · simp [results, Try.results11, go_sem]
  · exact Bx.box_below _ _

set_option maxHeartbeats 1000000 in
theorem rread_long (s : ByteArray) (c i N : Nat) (FC FI FN : Int) (w : World) (hs : 4 ≤ s.size) (hz : s.size ≤ 9223372036854775807) (hc : c < 256) (hi : i < 256) (hN : 1024 < N) (hN2 : N < 65536)
    (HC : Hid (∀ w, Calls Try.prog 32 #[.string s, .int .i64 0, .int .i64 1] w fun e w' => e = .returned (.tuple #[.int .u64 c, .int .i64 FC]) ∧ w = w'))
    (HI : Hid (∀ w, Calls Try.prog 32 #[.string s, .int .i64 1, .int .i64 1] w fun e w' => e = .returned (.tuple #[.int .u64 i, .int .i64 FI]) ∧ w = w'))
    (HN : Hid (∀ w, Calls Try.prog 32 #[.string s, .int .i64 2, .int .i64 2] w fun e w' => e = .returned (.tuple #[.int .u64 N, .int .i64 FN]) ∧ w = w')) :
    Calls Try.prog 11 #[.string s] w fun e w' => e = .returned (.tuple #[pk 0 0 0 ⟨#[]⟩, .int .i64 4]) ∧ Below w.heap.size w w' := by
  have q1 : IntKind.i64.wrap (N : Int) = N := IntWalk.i64_in _ (by omega)
  have q2 : IntKind.i64.wrap (c : Int) = c := IntWalk.i64_in _ (by omega)
  have q3 : IntKind.i64.wrap (i : Int) = i := IntWalk.i64_in _ (by omega)
  go_enter Try.func11, Try.ntmps11
  go_wp2_with fail
  refine (HC.out _).mono ?_; rintro e w' ⟨rfl, rfl⟩
  go_wp2_with fail
  refine (HI.out _).mono ?_; rintro e w' ⟨rfl, rfl⟩
  go_wp2_with fail
  refine (HN.out _).mono ?_; rintro e w' ⟨rfl, rfl⟩
  go_wp2_with fail
  refine bodyPost_ret (v := .tuple #[pk 0 0 0 ⟨#[]⟩, .int .i64 4]) ?_ rfl ⟨rfl, ?_⟩
  · simp [results, Try.results11, go_sem]
  · exact Bx.box_below _ _

set_option maxHeartbeats 1000000 in
theorem rread_few (s : ByteArray) (c i N : Nat) (FC FI FN : Int) (w : World) (hs : 4 ≤ s.size) (hz : s.size ≤ 9223372036854775807) (hc : c < 256) (hi : i < 256) (hN : N ≤ 1024) (hf : s.size < N)
    (HC : Hid (∀ w, Calls Try.prog 32 #[.string s, .int .i64 0, .int .i64 1] w fun e w' => e = .returned (.tuple #[.int .u64 c, .int .i64 FC]) ∧ w = w'))
    (HI : Hid (∀ w, Calls Try.prog 32 #[.string s, .int .i64 1, .int .i64 1] w fun e w' => e = .returned (.tuple #[.int .u64 i, .int .i64 FI]) ∧ w = w'))
    (HN : Hid (∀ w, Calls Try.prog 32 #[.string s, .int .i64 2, .int .i64 2] w fun e w' => e = .returned (.tuple #[.int .u64 N, .int .i64 FN]) ∧ w = w')) :
    Calls Try.prog 11 #[.string s] w fun e w' => e = .returned (.tuple #[pk 0 0 0 ⟨#[]⟩, .int .i64 2]) ∧ Below w.heap.size w w' := by
  have q1 : IntKind.i64.wrap (N : Int) = N := IntWalk.i64_in _ (by omega)
  have q2 : IntKind.i64.wrap (c : Int) = c := IntWalk.i64_in _ (by omega)
  have q3 : IntKind.i64.wrap (i : Int) = i := IntWalk.i64_in _ (by omega)
  go_enter Try.func11, Try.ntmps11
  go_wp2_with fail
  refine (HC.out _).mono ?_; rintro e w' ⟨rfl, rfl⟩
  go_wp2_with fail
  refine (HI.out _).mono ?_; rintro e w' ⟨rfl, rfl⟩
  go_wp2_with fail
  refine (HN.out _).mono ?_; rintro e w' ⟨rfl, rfl⟩
  go_wp2_with fail
  refine bodyPost_ret (v := .tuple #[pk 0 0 0 ⟨#[]⟩, .int .i64 2]) ?_ rfl ⟨rfl, ?_⟩
  · simp [results, Try.results11, go_sem]
  · exact Bx.box_below _ _

set_option maxHeartbeats 1000000 in
theorem rread_low (s : ByteArray) (c i N : Nat) (FC FI FN : Int) (w : World) (hs : 4 ≤ s.size) (hz : s.size ≤ 9223372036854775807) (hc : c < 256) (hi : i < 256) (hN : N ≤ 1024) (hf : N ≤ s.size) (h5 : N < 5)
    (HC : Hid (∀ w, Calls Try.prog 32 #[.string s, .int .i64 0, .int .i64 1] w fun e w' => e = .returned (.tuple #[.int .u64 c, .int .i64 FC]) ∧ w = w'))
    (HI : Hid (∀ w, Calls Try.prog 32 #[.string s, .int .i64 1, .int .i64 1] w fun e w' => e = .returned (.tuple #[.int .u64 i, .int .i64 FI]) ∧ w = w'))
    (HN : Hid (∀ w, Calls Try.prog 32 #[.string s, .int .i64 2, .int .i64 2] w fun e w' => e = .returned (.tuple #[.int .u64 N, .int .i64 FN]) ∧ w = w'))
    (HT : Hid (∀ w, Calls Try.prog 29 #[.int .i64 c] w fun e w' => e = .returned (.bool true) ∧ w = w')) :
    Calls Try.prog 11 #[.string s] w fun e w' => e = .returned (.tuple #[pk 0 0 0 ⟨#[]⟩, .int .i64 3]) ∧ Below w.heap.size w w' := by
  have q1 : IntKind.i64.wrap (N : Int) = N := IntWalk.i64_in _ (by omega)
  have q2 : IntKind.i64.wrap (c : Int) = c := IntWalk.i64_in _ (by omega)
  have q3 : IntKind.i64.wrap (i : Int) = i := IntWalk.i64_in _ (by omega)
  go_enter Try.func11, Try.ntmps11
  go_wp2_with fail
  refine (HC.out _).mono ?_; rintro e w' ⟨rfl, rfl⟩
  go_wp2_with fail
  refine (HI.out _).mono ?_; rintro e w' ⟨rfl, rfl⟩
  go_wp2_with fail
  refine (HN.out _).mono ?_; rintro e w' ⟨rfl, rfl⟩
  go_wp2_with fail
  have bel := box_below2 w (Obj.cells #[.int .i64 0, .int .i64 0, .int .i64 0, .string ⟨#[]⟩] 23) (Obj.cells #[.int .i64 c, .int .i64 i, .int .i64 0, .string ⟨#[]⟩] 23)
  refine (HT.out _).mono ?_; rintro e w' ⟨rfl, rfl⟩
  go_wp2_with fail
  refine bodyPost_ret (v := .tuple #[pk 0 0 0 ⟨#[]⟩, .int .i64 3]) ?_ rfl ⟨rfl, ?_⟩
  · simp [results, Try.results11, go_sem]
  · exact bel

set_option maxHeartbeats 1000000 in
theorem rread_off (s : ByteArray) (c i N : Nat) (FC FI FN : Int) (w : World) (hs : 4 ≤ s.size) (hz : s.size ≤ 9223372036854775807) (hc : c < 256) (hi : i < 256) (hN : N ≤ 1024) (hf : N ≤ s.size) (h4 : ((N : Int) != 4) = true)
    (HC : Hid (∀ w, Calls Try.prog 32 #[.string s, .int .i64 0, .int .i64 1] w fun e w' => e = .returned (.tuple #[.int .u64 c, .int .i64 FC]) ∧ w = w'))
    (HI : Hid (∀ w, Calls Try.prog 32 #[.string s, .int .i64 1, .int .i64 1] w fun e w' => e = .returned (.tuple #[.int .u64 i, .int .i64 FI]) ∧ w = w'))
    (HN : Hid (∀ w, Calls Try.prog 32 #[.string s, .int .i64 2, .int .i64 2] w fun e w' => e = .returned (.tuple #[.int .u64 N, .int .i64 FN]) ∧ w = w'))
    (HT : Hid (∀ w, Calls Try.prog 29 #[.int .i64 c] w fun e w' => e = .returned (.bool false) ∧ w = w')) :
    Calls Try.prog 11 #[.string s] w fun e w' => e = .returned (.tuple #[pk 0 0 0 ⟨#[]⟩, .int .i64 3]) ∧ Below w.heap.size w w' := by
  have q1 : IntKind.i64.wrap (N : Int) = N := IntWalk.i64_in _ (by omega)
  have q2 : IntKind.i64.wrap (c : Int) = c := IntWalk.i64_in _ (by omega)
  have q3 : IntKind.i64.wrap (i : Int) = i := IntWalk.i64_in _ (by omega)
  go_enter Try.func11, Try.ntmps11
  go_wp2_with fail
  refine (HC.out _).mono ?_; rintro e w' ⟨rfl, rfl⟩
  go_wp2_with fail
  refine (HI.out _).mono ?_; rintro e w' ⟨rfl, rfl⟩
  go_wp2_with fail
  refine (HN.out _).mono ?_; rintro e w' ⟨rfl, rfl⟩
  go_wp2_with fail
  have bel := box_below2 w (Obj.cells #[.int .i64 0, .int .i64 0, .int .i64 0, .string ⟨#[]⟩] 23) (Obj.cells #[.int .i64 c, .int .i64 i, .int .i64 0, .string ⟨#[]⟩] 23)
  refine (HT.out _).mono ?_; rintro e w' ⟨rfl, rfl⟩
  go_wp2_with fail
  refine bodyPost_ret (v := .tuple #[pk 0 0 0 ⟨#[]⟩, .int .i64 3]) ?_ rfl ⟨rfl, ?_⟩
  · simp [results, Try.results11, go_sem]
  · exact bel

set_option maxHeartbeats 1000000 in
theorem rread_bare_true (s : ByteArray) (c i N : Nat) (FC FI FN : Int) (w : World) (hs : 4 ≤ s.size) (hz : s.size ≤ 9223372036854775807) (hc : c < 256) (hi : i < 256) (hN : N ≤ 1024) (hf : N ≤ s.size) (h4 : ((N : Int) != 4) = false)
    (HC : Hid (∀ w, Calls Try.prog 32 #[.string s, .int .i64 0, .int .i64 1] w fun e w' => e = .returned (.tuple #[.int .u64 c, .int .i64 FC]) ∧ w = w'))
    (HI : Hid (∀ w, Calls Try.prog 32 #[.string s, .int .i64 1, .int .i64 1] w fun e w' => e = .returned (.tuple #[.int .u64 i, .int .i64 FI]) ∧ w = w'))
    (HN : Hid (∀ w, Calls Try.prog 32 #[.string s, .int .i64 2, .int .i64 2] w fun e w' => e = .returned (.tuple #[.int .u64 N, .int .i64 FN]) ∧ w = w'))
    (HT : Hid (∀ w, Calls Try.prog 29 #[.int .i64 c] w fun e w' => e = .returned (.bool false) ∧ w = w'))
    (HR : Hid (∀ w, Calls Try.prog 13 #[pk c i 0 ⟨#[]⟩] w fun e w' => e = .returned (.bool true) ∧ Below w.heap.size w w')) :
    Calls Try.prog 11 #[.string s] w fun e w' => e = .returned (.tuple #[pk c i 0 ⟨#[]⟩, .int .i64 0]) ∧ Below w.heap.size w w' := by
  have q1 : IntKind.i64.wrap (N : Int) = N := IntWalk.i64_in _ (by omega)
  have q2 : IntKind.i64.wrap (c : Int) = c := IntWalk.i64_in _ (by omega)
  have q3 : IntKind.i64.wrap (i : Int) = i := IntWalk.i64_in _ (by omega)
  go_enter Try.func11, Try.ntmps11
  go_wp2_with fail
  refine (HC.out _).mono ?_; rintro e w' ⟨rfl, rfl⟩
  go_wp2_with fail
  refine (HI.out _).mono ?_; rintro e w' ⟨rfl, rfl⟩
  go_wp2_with fail
  refine (HN.out _).mono ?_; rintro e w' ⟨rfl, rfl⟩
  go_wp2_with fail
  have bel := box_below2 w (Obj.cells #[.int .i64 0, .int .i64 0, .int .i64 0, .string ⟨#[]⟩] 23) (Obj.cells #[.int .i64 c, .int .i64 i, .int .i64 0, .string ⟨#[]⟩] 23)
  refine (HT.out _).mono ?_; rintro e w' ⟨rfl, rfl⟩
  go_wp2_with fail
  refine (HR.out _).mono ?_; rintro e w1 ⟨rfl, hb1⟩
  obtain ⟨hc1, hf1⟩ := Bx.bcell hb1
  have hz1 : w.heap.size + 1 < w1.heap.size := by have := hb1.size; simp at this; omega
  have HS := Bx.cell_set
  go_wp2_with fail
  refine bodyPost_ret (v := .tuple #[pk c i 0 ⟨#[]⟩, .int .i64 0]) ?_ rfl ⟨rfl, ?_⟩
  · simp [results, Try.results11, go_sem, hc1, HS]
  · (iterate 4 refine Below.setCell ?_ (by simp) _); exact Bx.then_below bel hb1

set_option maxHeartbeats 1000000 in
theorem rread_bare_false (s : ByteArray) (c i N : Nat) (FC FI FN : Int) (w : World) (hs : 4 ≤ s.size) (hz : s.size ≤ 9223372036854775807) (hc : c < 256) (hi : i < 256) (hN : N ≤ 1024) (hf : N ≤ s.size) (h4 : ((N : Int) != 4) = false)
    (HC : Hid (∀ w, Calls Try.prog 32 #[.string s, .int .i64 0, .int .i64 1] w fun e w' => e = .returned (.tuple #[.int .u64 c, .int .i64 FC]) ∧ w = w'))
    (HI : Hid (∀ w, Calls Try.prog 32 #[.string s, .int .i64 1, .int .i64 1] w fun e w' => e = .returned (.tuple #[.int .u64 i, .int .i64 FI]) ∧ w = w'))
    (HN : Hid (∀ w, Calls Try.prog 32 #[.string s, .int .i64 2, .int .i64 2] w fun e w' => e = .returned (.tuple #[.int .u64 N, .int .i64 FN]) ∧ w = w'))
    (HT : Hid (∀ w, Calls Try.prog 29 #[.int .i64 c] w fun e w' => e = .returned (.bool false) ∧ w = w'))
    (HR : Hid (∀ w, Calls Try.prog 13 #[pk c i 0 ⟨#[]⟩] w fun e w' => e = .returned (.bool false) ∧ Below w.heap.size w w')) :
    Calls Try.prog 11 #[.string s] w fun e w' => e = .returned (.tuple #[pk 0 0 0 ⟨#[]⟩, .int .i64 3]) ∧ Below w.heap.size w w' := by
  have q1 : IntKind.i64.wrap (N : Int) = N := IntWalk.i64_in _ (by omega)
  have q2 : IntKind.i64.wrap (c : Int) = c := IntWalk.i64_in _ (by omega)
  have q3 : IntKind.i64.wrap (i : Int) = i := IntWalk.i64_in _ (by omega)
  go_enter Try.func11, Try.ntmps11
  go_wp2_with fail
  refine (HC.out _).mono ?_; rintro e w' ⟨rfl, rfl⟩
  go_wp2_with fail
  refine (HI.out _).mono ?_; rintro e w' ⟨rfl, rfl⟩
  go_wp2_with fail
  refine (HN.out _).mono ?_; rintro e w' ⟨rfl, rfl⟩
  go_wp2_with fail
  have bel := box_below2 w (Obj.cells #[.int .i64 0, .int .i64 0, .int .i64 0, .string ⟨#[]⟩] 23) (Obj.cells #[.int .i64 c, .int .i64 i, .int .i64 0, .string ⟨#[]⟩] 23)
  refine (HT.out _).mono ?_; rintro e w' ⟨rfl, rfl⟩
  go_wp2_with fail
  refine (HR.out _).mono ?_; rintro e w1 ⟨rfl, hb1⟩
  obtain ⟨hc1, hf1⟩ := Bx.bcell hb1
  have hz1 : w.heap.size + 1 < w1.heap.size := by have := hb1.size; simp at this; omega
  have HS := Bx.cell_set
  go_wp2_with fail
  refine bodyPost_ret (v := .tuple #[pk 0 0 0 ⟨#[]⟩, .int .i64 3]) ?_ rfl ⟨rfl, ?_⟩
  · simp [results, Try.results11, go_sem, hc1, HS]
  · (iterate 4 refine Below.setCell ?_ (by simp) _); exact Bx.then_below bel hb1

set_option maxHeartbeats 1000000 in
theorem rread_typed_true (s : ByteArray) (c i t N : Nat) (FT FC FI FN : Int) (w : World) (hs : 4 ≤ s.size) (hz : s.size ≤ 9223372036854775807) (hc : c < 256) (hi : i < 256) (hN : N ≤ 1024) (hf : N ≤ s.size) (hN5 : 5 ≤ N) (ht : t < 256) 
    (HC : Hid (∀ w, Calls Try.prog 32 #[.string s, .int .i64 0, .int .i64 1] w fun e w' => e = .returned (.tuple #[.int .u64 c, .int .i64 FC]) ∧ w = w'))
    (HI : Hid (∀ w, Calls Try.prog 32 #[.string s, .int .i64 1, .int .i64 1] w fun e w' => e = .returned (.tuple #[.int .u64 i, .int .i64 FI]) ∧ w = w'))
    (HN : Hid (∀ w, Calls Try.prog 32 #[.string s, .int .i64 2, .int .i64 2] w fun e w' => e = .returned (.tuple #[.int .u64 N, .int .i64 FN]) ∧ w = w'))
    (HK : Hid (∀ w, Calls Try.prog 32 #[.string s, .int .i64 4, .int .i64 1] w fun e w' => e = .returned (.tuple #[.int .u64 t, .int .i64 FT]) ∧ w = w'))
    (HT : Hid (∀ w, Calls Try.prog 29 #[.int .i64 c] w fun e w' => e = .returned (.bool true) ∧ w = w'))
    (HR : Hid (∀ w, Calls Try.prog 13 #[pk c i t (s.extract 5 N)] w fun e w' => e = .returned (.bool true) ∧ Below w.heap.size w w')) :
    Calls Try.prog 11 #[.string s] w fun e w' => e = .returned (.tuple #[pk c i t (s.extract 5 N), .int .i64 0]) ∧ Below w.heap.size w w' := by
  have q1 : IntKind.i64.wrap (N : Int) = N := IntWalk.i64_in _ (by omega)
  have q2 : IntKind.i64.wrap (c : Int) = c := IntWalk.i64_in _ (by omega)
  have q3 : IntKind.i64.wrap (i : Int) = i := IntWalk.i64_in _ (by omega)
  have q4 : IntKind.i64.wrap (t : Int) = t := IntWalk.i64_in _ (by omega)
  go_enter Try.func11, Try.ntmps11
  go_wp2_with fail
  refine (HC.out _).mono ?_; rintro e w' ⟨rfl, rfl⟩
  go_wp2_with fail
  refine (HI.out _).mono ?_; rintro e w' ⟨rfl, rfl⟩
  go_wp2_with fail
  refine (HN.out _).mono ?_; rintro e w' ⟨rfl, rfl⟩
  go_wp2_with fail
  refine (HT.out _).mono ?_; rintro e w' ⟨rfl, rfl⟩
  go_wp2_with fail
  refine (HK.out _).mono ?_; rintro e w' ⟨rfl, rfl⟩
  go_wp2_with fail
  go_region
  have bel := (box_below2 w (Obj.cells #[.int .i64 0, .int .i64 0, .int .i64 0, .string ⟨#[]⟩] 23) (Obj.cells #[.int .i64 c, .int .i64 i, .int .i64 t, .string (s.extract 5 N)] 23)).drew
  go_wp2_with fail
  refine (HR.out _).mono ?_; rintro e w1 ⟨rfl, hb1⟩
  obtain ⟨hc1, hf1⟩ := Bx.bcell hb1
  have hz1 : w.heap.size + 1 < w1.heap.size := by have := hb1.size; simp at this; omega
  have HS := Bx.cell_set
  go_wp2_with fail
  refine bodyPost_ret (v := .tuple #[pk c i t (s.extract 5 N), .int .i64 0]) ?_ rfl ⟨rfl, ?_⟩
  · simp [results, Try.results11, go_sem, hc1, HS]
  · (iterate 4 refine Below.setCell ?_ (by simp) _); exact Bx.then_below bel hb1

set_option maxHeartbeats 1000000 in
theorem rread_typed_false (s : ByteArray) (c i t N : Nat) (FT FC FI FN : Int) (w : World) (hs : 4 ≤ s.size) (hz : s.size ≤ 9223372036854775807) (hc : c < 256) (hi : i < 256) (hN : N ≤ 1024) (hf : N ≤ s.size) (hN5 : 5 ≤ N) (ht : t < 256) 
    (HC : Hid (∀ w, Calls Try.prog 32 #[.string s, .int .i64 0, .int .i64 1] w fun e w' => e = .returned (.tuple #[.int .u64 c, .int .i64 FC]) ∧ w = w'))
    (HI : Hid (∀ w, Calls Try.prog 32 #[.string s, .int .i64 1, .int .i64 1] w fun e w' => e = .returned (.tuple #[.int .u64 i, .int .i64 FI]) ∧ w = w'))
    (HN : Hid (∀ w, Calls Try.prog 32 #[.string s, .int .i64 2, .int .i64 2] w fun e w' => e = .returned (.tuple #[.int .u64 N, .int .i64 FN]) ∧ w = w'))
    (HK : Hid (∀ w, Calls Try.prog 32 #[.string s, .int .i64 4, .int .i64 1] w fun e w' => e = .returned (.tuple #[.int .u64 t, .int .i64 FT]) ∧ w = w'))
    (HT : Hid (∀ w, Calls Try.prog 29 #[.int .i64 c] w fun e w' => e = .returned (.bool true) ∧ w = w'))
    (HR : Hid (∀ w, Calls Try.prog 13 #[pk c i t (s.extract 5 N)] w fun e w' => e = .returned (.bool false) ∧ Below w.heap.size w w')) :
    Calls Try.prog 11 #[.string s] w fun e w' => e = .returned (.tuple #[pk 0 0 0 ⟨#[]⟩, .int .i64 3]) ∧ Below w.heap.size w w' := by
  have q1 : IntKind.i64.wrap (N : Int) = N := IntWalk.i64_in _ (by omega)
  have q2 : IntKind.i64.wrap (c : Int) = c := IntWalk.i64_in _ (by omega)
  have q3 : IntKind.i64.wrap (i : Int) = i := IntWalk.i64_in _ (by omega)
  have q4 : IntKind.i64.wrap (t : Int) = t := IntWalk.i64_in _ (by omega)
  go_enter Try.func11, Try.ntmps11
  go_wp2_with fail
  refine (HC.out _).mono ?_; rintro e w' ⟨rfl, rfl⟩
  go_wp2_with fail
  refine (HI.out _).mono ?_; rintro e w' ⟨rfl, rfl⟩
  go_wp2_with fail
  refine (HN.out _).mono ?_; rintro e w' ⟨rfl, rfl⟩
  go_wp2_with fail
  refine (HT.out _).mono ?_; rintro e w' ⟨rfl, rfl⟩
  go_wp2_with fail
  refine (HK.out _).mono ?_; rintro e w' ⟨rfl, rfl⟩
  go_wp2_with fail
  go_region
  have bel := (box_below2 w (Obj.cells #[.int .i64 0, .int .i64 0, .int .i64 0, .string ⟨#[]⟩] 23) (Obj.cells #[.int .i64 c, .int .i64 i, .int .i64 t, .string (s.extract 5 N)] 23)).drew
  go_wp2_with fail
  refine (HR.out _).mono ?_; rintro e w1 ⟨rfl, hb1⟩
  obtain ⟨hc1, hf1⟩ := Bx.bcell hb1
  have hz1 : w.heap.size + 1 < w1.heap.size := by have := hb1.size; simp at this; omega
  have HS := Bx.cell_set
  go_wp2_with fail
  refine bodyPost_ret (v := .tuple #[pk 0 0 0 ⟨#[]⟩, .int .i64 3]) ?_ rfl ⟨rfl, ?_⟩
  · simp [results, Try.results11, go_sem, hc1, HS]
  · (iterate 4 refine Below.setCell ?_ (by simp) _); exact Bx.then_below bel hb1

end Eap
end Go.Proofs.Ytmgjjcadeikdgaa
