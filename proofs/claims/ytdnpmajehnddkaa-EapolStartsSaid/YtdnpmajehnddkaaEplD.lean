/-
  What the document's Read of layer 4 reads of any text, way by way; and that it changes nothing that was there.
-/
import Derived.Test.YtdnpmajehnddkaaEplC
namespace Go.Proofs.Ytdnpmajehnddkaa
open Go.RowKit
namespace Epl
open Oct Mac Eth

set_option maxHeartbeats 400000 in
theorem rread_short (s : ByteArray) (w : World) (hs : s.size < 4) :
    Calls Try.prog 10 #[.string s] w fun e w' => e = .returned (.tuple #[ep 0 0 ⟨#[]⟩, .int .i64 2]) ∧ Below w.heap.size w w' := by
  go_enter Try.func10, Try.ntmps10
  go_wp2_with fail
  refine bodyPost_ret (v := .tuple #[ep 0 0 ⟨#[]⟩, .int .i64 2]) ?_ rfl ⟨rfl, ?_⟩
  · simp [results, Try.results10, go_sem]
  · exact (Below.refl _ _).alloc (Nat.le_refl _) _

set_option maxHeartbeats 1000000 in
theorem rread_type (s : ByteArray) (V T N : Nat) (E0 E1 E2 : Int) (w : World) (hs : 4 ≤ s.size) (hz : s.size ≤ 9223372036854775807) (_hV : V < 256) (hT : T < 256) (_hN : N < 65536) (ht : 3 < T)
    (H0 : Hid (∀ w, Calls Try.prog 21 #[.string s, .int .i64 0, .int .i64 1] w fun e w' => e = .returned (.tuple #[.int .u64 V, .int .i64 E0]) ∧ w = w'))
    (H1 : Hid (∀ w, Calls Try.prog 21 #[.string s, .int .i64 1, .int .i64 1] w fun e w' => e = .returned (.tuple #[.int .u64 T, .int .i64 E1]) ∧ w = w'))
    (H2 : Hid (∀ w, Calls Try.prog 21 #[.string s, .int .i64 2, .int .i64 2] w fun e w' => e = .returned (.tuple #[.int .u64 N, .int .i64 E2]) ∧ w = w')) :
    Calls Try.prog 10 #[.string s] w fun e w' => e = .returned (.tuple #[ep 0 0 ⟨#[]⟩, .int .i64 10]) ∧ Below w.heap.size w w' := by
  go_enter Try.func10, Try.ntmps10
  go_wp2_with fail
  refine (H0.out _).mono ?_; rintro e w' ⟨rfl, rfl⟩
  go_wp2_with fail
  refine (H1.out _).mono ?_; rintro e w' ⟨rfl, rfl⟩
  go_wp2_with fail
  refine (H2.out _).mono ?_; rintro e w' ⟨rfl, rfl⟩
  go_wp2_with fail
  refine bodyPost_ret (v := .tuple #[ep 0 0 ⟨#[]⟩, .int .i64 10]) ?_ rfl ⟨rfl, ?_⟩
  · simp [results, Try.results10, go_sem]
  · exact box_below _ _

set_option maxHeartbeats 1000000 in
theorem rread_long (s : ByteArray) (V T N : Nat) (E0 E1 E2 : Int) (w : World) (hs : 4 ≤ s.size) (hz : s.size ≤ 9223372036854775807) (_hV : V < 256) (hT : T < 256) (_hN : N < 65536) (ht : T ≤ 3) (hL : 1024 < N)
    (H0 : Hid (∀ w, Calls Try.prog 21 #[.string s, .int .i64 0, .int .i64 1] w fun e w' => e = .returned (.tuple #[.int .u64 V, .int .i64 E0]) ∧ w = w'))
    (H1 : Hid (∀ w, Calls Try.prog 21 #[.string s, .int .i64 1, .int .i64 1] w fun e w' => e = .returned (.tuple #[.int .u64 T, .int .i64 E1]) ∧ w = w'))
    (H2 : Hid (∀ w, Calls Try.prog 21 #[.string s, .int .i64 2, .int .i64 2] w fun e w' => e = .returned (.tuple #[.int .u64 N, .int .i64 E2]) ∧ w = w')) :
    Calls Try.prog 10 #[.string s] w fun e w' => e = .returned (.tuple #[ep 0 0 ⟨#[]⟩, .int .i64 4]) ∧ Below w.heap.size w w' := by
  go_enter Try.func10, Try.ntmps10
  go_wp2_with fail
  refine (H0.out _).mono ?_; rintro e w' ⟨rfl, rfl⟩
  go_wp2_with fail
  refine (H1.out _).mono ?_; rintro e w' ⟨rfl, rfl⟩
  go_wp2_with fail
  refine (H2.out _).mono ?_; rintro e w' ⟨rfl, rfl⟩
  go_wp2_with fail
  refine bodyPost_ret (v := .tuple #[ep 0 0 ⟨#[]⟩, .int .i64 4]) ?_ rfl ⟨rfl, ?_⟩
  · simp [results, Try.results10, go_sem]
  · exact box_below _ _

set_option maxHeartbeats 1000000 in
theorem rread_cut (s : ByteArray) (V T N : Nat) (E0 E1 E2 : Int) (X : ByteArray) (w : World) (hs : 4 ≤ s.size) (hz : s.size ≤ 9223372036854775807) (_hV : V < 256) (hT : T < 256) (_hN : N < 65536) (ht : T ≤ 3) (hL : N ≤ 1024)
    (H0 : Hid (∀ w, Calls Try.prog 21 #[.string s, .int .i64 0, .int .i64 1] w fun e w' => e = .returned (.tuple #[.int .u64 V, .int .i64 E0]) ∧ w = w'))
    (H1 : Hid (∀ w, Calls Try.prog 21 #[.string s, .int .i64 1, .int .i64 1] w fun e w' => e = .returned (.tuple #[.int .u64 T, .int .i64 E1]) ∧ w = w'))
    (H2 : Hid (∀ w, Calls Try.prog 21 #[.string s, .int .i64 2, .int .i64 2] w fun e w' => e = .returned (.tuple #[.int .u64 N, .int .i64 E2]) ∧ w = w'))
    (HC : Hid (∀ w, Calls Try.prog 22 #[.string s, .int .i64 4, .int .i64 N] w fun e w' => e = .returned (.tuple #[.string X, .int .i64 2]) ∧ w = w')) :
    Calls Try.prog 10 #[.string s] w fun e w' => e = .returned (.tuple #[ep 0 0 ⟨#[]⟩, .int .i64 2]) ∧ Below w.heap.size w w' := by
  go_enter Try.func10, Try.ntmps10
  go_wp2_with fail
  refine (H0.out _).mono ?_; rintro e w' ⟨rfl, rfl⟩
  go_wp2_with fail
  refine (H1.out _).mono ?_; rintro e w' ⟨rfl, rfl⟩
  go_wp2_with fail
  refine (H2.out _).mono ?_; rintro e w' ⟨rfl, rfl⟩
  go_wp2_with fail
  refine (HC.out _).mono ?_; rintro e w' ⟨rfl, rfl⟩
  go_wp2_with fail
  refine bodyPost_ret (v := .tuple #[ep 0 0 ⟨#[]⟩, .int .i64 2]) ?_ rfl ⟨rfl, ?_⟩
  · simp [results, Try.results10, go_sem]
  · exact box_below _ _

set_option maxHeartbeats 1000000 in
theorem rread_body (s : ByteArray) (V T N : Nat) (E0 E1 E2 : Int) (X : ByteArray) (w : World) (hs : 4 ≤ s.size) (hz : s.size ≤ 9223372036854775807) (_hV : V < 256) (hT : T < 256) (_hN : N < 65536) (ht : T ≤ 3) (hL : N ≤ 1024) (e1 : ((T : Int) == 1) = false) (e2 : ((T : Int) == 2) = false)
    (H0 : Hid (∀ w, Calls Try.prog 21 #[.string s, .int .i64 0, .int .i64 1] w fun e w' => e = .returned (.tuple #[.int .u64 V, .int .i64 E0]) ∧ w = w'))
    (H1 : Hid (∀ w, Calls Try.prog 21 #[.string s, .int .i64 1, .int .i64 1] w fun e w' => e = .returned (.tuple #[.int .u64 T, .int .i64 E1]) ∧ w = w'))
    (H2 : Hid (∀ w, Calls Try.prog 21 #[.string s, .int .i64 2, .int .i64 2] w fun e w' => e = .returned (.tuple #[.int .u64 N, .int .i64 E2]) ∧ w = w'))
    (HC : Hid (∀ w, Calls Try.prog 22 #[.string s, .int .i64 4, .int .i64 N] w fun e w' => e = .returned (.tuple #[.string X, .int .i64 0]) ∧ w = w'))
    (HR : Hid (∀ w, Calls Try.prog 14 #[ep V T X] w fun e w' => e = .returned (.bool true) ∧ Below w.heap.size w w')) :
    Calls Try.prog 10 #[.string s] w fun e w' => e = .returned (.tuple #[ep V T X, .int .i64 0]) ∧ Below w.heap.size w w' := by
  go_enter Try.func10, Try.ntmps10
  go_wp2_with fail
  refine (H0.out _).mono ?_; rintro e w' ⟨rfl, rfl⟩
  go_wp2_with fail
  refine (H1.out _).mono ?_; rintro e w' ⟨rfl, rfl⟩
  go_wp2_with fail
  refine (H2.out _).mono ?_; rintro e w' ⟨rfl, rfl⟩
  go_wp2_with fail
  refine (HC.out _).mono ?_; rintro e w' ⟨rfl, rfl⟩
  go_wp2_with fail
  refine (HR.out _).mono ?_; rintro e w1 ⟨rfl, hb1⟩
  obtain ⟨hc, hf⟩ := bcell hb1
  have hz1 : w.heap.size + 1 < w1.heap.size := by have := hb1.size; simp at this; omega
  have HS := cell_set
  go_wp2_with fail
  refine bodyPost_ret (v := .tuple #[ep V T X, .int .i64 0]) ?_ rfl ⟨rfl, ?_⟩
  · simp [results, Try.results10, go_sem, hc, HS]
  · iterate 3 refine Below.setCell ?_ (by simp) _
    exact then_below (box_below2 w _ _) hb1

set_option maxHeartbeats 1000000 in
theorem rread_body0 (s : ByteArray) (V T N : Nat) (E0 E1 E2 : Int) (X : ByteArray) (w : World) (hs : 4 ≤ s.size) (hz : s.size ≤ 9223372036854775807) (_hV : V < 256) (hT : T < 256) (_hN : N < 65536) (ht : T ≤ 3) (hL : N ≤ 1024) (e1 : ((T : Int) == 1) = false) (e2 : ((T : Int) == 2) = false)
    (H0 : Hid (∀ w, Calls Try.prog 21 #[.string s, .int .i64 0, .int .i64 1] w fun e w' => e = .returned (.tuple #[.int .u64 V, .int .i64 E0]) ∧ w = w'))
    (H1 : Hid (∀ w, Calls Try.prog 21 #[.string s, .int .i64 1, .int .i64 1] w fun e w' => e = .returned (.tuple #[.int .u64 T, .int .i64 E1]) ∧ w = w'))
    (H2 : Hid (∀ w, Calls Try.prog 21 #[.string s, .int .i64 2, .int .i64 2] w fun e w' => e = .returned (.tuple #[.int .u64 N, .int .i64 E2]) ∧ w = w'))
    (HC : Hid (∀ w, Calls Try.prog 22 #[.string s, .int .i64 4, .int .i64 N] w fun e w' => e = .returned (.tuple #[.string X, .int .i64 0]) ∧ w = w'))
    (HR : Hid (∀ w, Calls Try.prog 14 #[ep V T X] w fun e w' => e = .returned (.bool false) ∧ Below w.heap.size w w')) :
    Calls Try.prog 10 #[.string s] w fun e w' => e = .returned (.tuple #[ep 0 0 ⟨#[]⟩, .int .i64 3]) ∧ Below w.heap.size w w' := by
  go_enter Try.func10, Try.ntmps10
  go_wp2_with fail
  refine (H0.out _).mono ?_; rintro e w' ⟨rfl, rfl⟩
  go_wp2_with fail
  refine (H1.out _).mono ?_; rintro e w' ⟨rfl, rfl⟩
  go_wp2_with fail
  refine (H2.out _).mono ?_; rintro e w' ⟨rfl, rfl⟩
  go_wp2_with fail
  refine (HC.out _).mono ?_; rintro e w' ⟨rfl, rfl⟩
  go_wp2_with fail
  refine (HR.out _).mono ?_; rintro e w1 ⟨rfl, hb1⟩
  obtain ⟨hc, hf⟩ := bcell hb1
  have hz1 : w.heap.size + 1 < w1.heap.size := by have := hb1.size; simp at this; omega
  have HS := cell_set
  go_wp2_with fail
  refine bodyPost_ret (v := .tuple #[ep 0 0 ⟨#[]⟩, .int .i64 3]) ?_ rfl ⟨rfl, ?_⟩
  · simp [results, Try.results10, go_sem, hc, HS]
  · iterate 3 refine Below.setCell ?_ (by simp) _
    exact then_below (box_below2 w _ _) hb1

set_option maxHeartbeats 1000000 in
theorem rread_one (s : ByteArray) (V T N : Nat) (E0 E1 E2 : Int) (X : ByteArray) (w : World) (hs : 4 ≤ s.size) (hz : s.size ≤ 9223372036854775807) (_hV : V < 256) (hT : T < 256) (_hN : N < 65536) (ht : T ≤ 3) (hL : N ≤ 1024) (e1 : ((T : Int) == 1) = true)
    (H0 : Hid (∀ w, Calls Try.prog 21 #[.string s, .int .i64 0, .int .i64 1] w fun e w' => e = .returned (.tuple #[.int .u64 V, .int .i64 E0]) ∧ w = w'))
    (H1 : Hid (∀ w, Calls Try.prog 21 #[.string s, .int .i64 1, .int .i64 1] w fun e w' => e = .returned (.tuple #[.int .u64 T, .int .i64 E1]) ∧ w = w'))
    (H2 : Hid (∀ w, Calls Try.prog 21 #[.string s, .int .i64 2, .int .i64 2] w fun e w' => e = .returned (.tuple #[.int .u64 N, .int .i64 E2]) ∧ w = w'))
    (HC : Hid (∀ w, Calls Try.prog 22 #[.string s, .int .i64 4, .int .i64 N] w fun e w' => e = .returned (.tuple #[.string X, .int .i64 0]) ∧ w = w'))
    (HR : Hid (∀ w, Calls Try.prog 14 #[ep V T ⟨#[]⟩] w fun e w' => e = .returned (.bool true) ∧ Below w.heap.size w w')) :
    Calls Try.prog 10 #[.string s] w fun e w' => e = .returned (.tuple #[ep V T ⟨#[]⟩, .int .i64 0]) ∧ Below w.heap.size w w' := by
  go_enter Try.func10, Try.ntmps10
  go_wp2_with fail
  refine (H0.out _).mono ?_; rintro e w' ⟨rfl, rfl⟩
  go_wp2_with fail
  refine (H1.out _).mono ?_; rintro e w' ⟨rfl, rfl⟩
  go_wp2_with fail
  refine (H2.out _).mono ?_; rintro e w' ⟨rfl, rfl⟩
  go_wp2_with fail
  refine (HC.out _).mono ?_; rintro e w' ⟨rfl, rfl⟩
  go_wp2_with fail
  refine (HR.out _).mono ?_; rintro e w1 ⟨rfl, hb1⟩
  obtain ⟨hc, hf⟩ := bcell hb1
  have hz1 : w.heap.size + 1 < w1.heap.size := by have := hb1.size; simp at this; omega
  have HS := cell_set
  go_wp2_with fail
  refine bodyPost_ret (v := .tuple #[ep V T ⟨#[]⟩, .int .i64 0]) ?_ rfl ⟨rfl, ?_⟩
  · simp [results, Try.results10, go_sem, hc, HS]
  · iterate 3 refine Below.setCell ?_ (by simp) _
    exact then_below (box_below2 w _ _) hb1

set_option maxHeartbeats 1000000 in
theorem rread_one0 (s : ByteArray) (V T N : Nat) (E0 E1 E2 : Int) (X : ByteArray) (w : World) (hs : 4 ≤ s.size) (hz : s.size ≤ 9223372036854775807) (_hV : V < 256) (hT : T < 256) (_hN : N < 65536) (ht : T ≤ 3) (hL : N ≤ 1024) (e1 : ((T : Int) == 1) = true)
    (H0 : Hid (∀ w, Calls Try.prog 21 #[.string s, .int .i64 0, .int .i64 1] w fun e w' => e = .returned (.tuple #[.int .u64 V, .int .i64 E0]) ∧ w = w'))
    (H1 : Hid (∀ w, Calls Try.prog 21 #[.string s, .int .i64 1, .int .i64 1] w fun e w' => e = .returned (.tuple #[.int .u64 T, .int .i64 E1]) ∧ w = w'))
    (H2 : Hid (∀ w, Calls Try.prog 21 #[.string s, .int .i64 2, .int .i64 2] w fun e w' => e = .returned (.tuple #[.int .u64 N, .int .i64 E2]) ∧ w = w'))
    (HC : Hid (∀ w, Calls Try.prog 22 #[.string s, .int .i64 4, .int .i64 N] w fun e w' => e = .returned (.tuple #[.string X, .int .i64 0]) ∧ w = w'))
    (HR : Hid (∀ w, Calls Try.prog 14 #[ep V T ⟨#[]⟩] w fun e w' => e = .returned (.bool false) ∧ Below w.heap.size w w')) :
    Calls Try.prog 10 #[.string s] w fun e w' => e = .returned (.tuple #[ep 0 0 ⟨#[]⟩, .int .i64 3]) ∧ Below w.heap.size w w' := by
  go_enter Try.func10, Try.ntmps10
  go_wp2_with fail
  refine (H0.out _).mono ?_; rintro e w' ⟨rfl, rfl⟩
  go_wp2_with fail
  refine (H1.out _).mono ?_; rintro e w' ⟨rfl, rfl⟩
  go_wp2_with fail
  refine (H2.out _).mono ?_; rintro e w' ⟨rfl, rfl⟩
  go_wp2_with fail
  refine (HC.out _).mono ?_; rintro e w' ⟨rfl, rfl⟩
  go_wp2_with fail
  refine (HR.out _).mono ?_; rintro e w1 ⟨rfl, hb1⟩
  obtain ⟨hc, hf⟩ := bcell hb1
  have hz1 : w.heap.size + 1 < w1.heap.size := by have := hb1.size; simp at this; omega
  have HS := cell_set
  go_wp2_with fail
  refine bodyPost_ret (v := .tuple #[ep 0 0 ⟨#[]⟩, .int .i64 3]) ?_ rfl ⟨rfl, ?_⟩
  · simp [results, Try.results10, go_sem, hc, HS]
  · iterate 3 refine Below.setCell ?_ (by simp) _
    exact then_below (box_below2 w _ _) hb1

set_option maxHeartbeats 1000000 in
theorem rread_two (s : ByteArray) (V T N : Nat) (E0 E1 E2 : Int) (X : ByteArray) (w : World) (hs : 4 ≤ s.size) (hz : s.size ≤ 9223372036854775807) (_hV : V < 256) (hT : T < 256) (_hN : N < 65536) (ht : T ≤ 3) (hL : N ≤ 1024) (e1 : ((T : Int) == 1) = false) (e2 : ((T : Int) == 2) = true)
    (H0 : Hid (∀ w, Calls Try.prog 21 #[.string s, .int .i64 0, .int .i64 1] w fun e w' => e = .returned (.tuple #[.int .u64 V, .int .i64 E0]) ∧ w = w'))
    (H1 : Hid (∀ w, Calls Try.prog 21 #[.string s, .int .i64 1, .int .i64 1] w fun e w' => e = .returned (.tuple #[.int .u64 T, .int .i64 E1]) ∧ w = w'))
    (H2 : Hid (∀ w, Calls Try.prog 21 #[.string s, .int .i64 2, .int .i64 2] w fun e w' => e = .returned (.tuple #[.int .u64 N, .int .i64 E2]) ∧ w = w'))
    (HC : Hid (∀ w, Calls Try.prog 22 #[.string s, .int .i64 4, .int .i64 N] w fun e w' => e = .returned (.tuple #[.string X, .int .i64 0]) ∧ w = w'))
    (HR : Hid (∀ w, Calls Try.prog 14 #[ep V T ⟨#[]⟩] w fun e w' => e = .returned (.bool true) ∧ Below w.heap.size w w')) :
    Calls Try.prog 10 #[.string s] w fun e w' => e = .returned (.tuple #[ep V T ⟨#[]⟩, .int .i64 0]) ∧ Below w.heap.size w w' := by
  go_enter Try.func10, Try.ntmps10
  go_wp2_with fail
  refine (H0.out _).mono ?_; rintro e w' ⟨rfl, rfl⟩
  go_wp2_with fail
  refine (H1.out _).mono ?_; rintro e w' ⟨rfl, rfl⟩
  go_wp2_with fail
  refine (H2.out _).mono ?_; rintro e w' ⟨rfl, rfl⟩
  go_wp2_with fail
  refine (HC.out _).mono ?_; rintro e w' ⟨rfl, rfl⟩
  go_wp2_with fail
  refine (HR.out _).mono ?_; rintro e w1 ⟨rfl, hb1⟩
  obtain ⟨hc, hf⟩ := bcell hb1
  have hz1 : w.heap.size + 1 < w1.heap.size := by have := hb1.size; simp at this; omega
  have HS := cell_set
  go_wp2_with fail
  refine bodyPost_ret (v := .tuple #[ep V T ⟨#[]⟩, .int .i64 0]) ?_ rfl ⟨rfl, ?_⟩
  · simp [results, Try.results10, go_sem, hc, HS]
  · iterate 3 refine Below.setCell ?_ (by simp) _
    exact then_below (box_below2 w _ _) hb1

set_option maxHeartbeats 1000000 in
theorem rread_two0 (s : ByteArray) (V T N : Nat) (E0 E1 E2 : Int) (X : ByteArray) (w : World) (hs : 4 ≤ s.size) (hz : s.size ≤ 9223372036854775807) (_hV : V < 256) (hT : T < 256) (_hN : N < 65536) (ht : T ≤ 3) (hL : N ≤ 1024) (e1 : ((T : Int) == 1) = false) (e2 : ((T : Int) == 2) = true)
    (H0 : Hid (∀ w, Calls Try.prog 21 #[.string s, .int .i64 0, .int .i64 1] w fun e w' => e = .returned (.tuple #[.int .u64 V, .int .i64 E0]) ∧ w = w'))
    (H1 : Hid (∀ w, Calls Try.prog 21 #[.string s, .int .i64 1, .int .i64 1] w fun e w' => e = .returned (.tuple #[.int .u64 T, .int .i64 E1]) ∧ w = w'))
    (H2 : Hid (∀ w, Calls Try.prog 21 #[.string s, .int .i64 2, .int .i64 2] w fun e w' => e = .returned (.tuple #[.int .u64 N, .int .i64 E2]) ∧ w = w'))
    (HC : Hid (∀ w, Calls Try.prog 22 #[.string s, .int .i64 4, .int .i64 N] w fun e w' => e = .returned (.tuple #[.string X, .int .i64 0]) ∧ w = w'))
    (HR : Hid (∀ w, Calls Try.prog 14 #[ep V T ⟨#[]⟩] w fun e w' => e = .returned (.bool false) ∧ Below w.heap.size w w')) :
    Calls Try.prog 10 #[.string s] w fun e w' => e = .returned (.tuple #[ep 0 0 ⟨#[]⟩, .int .i64 3]) ∧ Below w.heap.size w w' := by
  go_enter Try.func10, Try.ntmps10
  go_wp2_with fail
  refine (H0.out _).mono ?_; rintro e w' ⟨rfl, rfl⟩
  go_wp2_with fail
  refine (H1.out _).mono ?_; rintro e w' ⟨rfl, rfl⟩
  go_wp2_with fail
  refine (H2.out _).mono ?_; rintro e w' ⟨rfl, rfl⟩
  go_wp2_with fail
  refine (HC.out _).mono ?_; rintro e w' ⟨rfl, rfl⟩
  go_wp2_with fail
  refine (HR.out _).mono ?_; rintro e w1 ⟨rfl, hb1⟩
  obtain ⟨hc, hf⟩ := bcell hb1
  have hz1 : w.heap.size + 1 < w1.heap.size := by have := hb1.size; simp at this; omega
  have HS := cell_set
  go_wp2_with fail
  refine bodyPost_ret (v := .tuple #[ep 0 0 ⟨#[]⟩, .int .i64 3]) ?_ rfl ⟨rfl, ?_⟩
  · simp [results, Try.results10, go_sem, hc, HS]
  · iterate 3 refine Below.setCell ?_ (by simp) _
    exact then_below (box_below2 w _ _) hb1

end Epl
end Go.Proofs.Ytdnpmajehnddkaa
