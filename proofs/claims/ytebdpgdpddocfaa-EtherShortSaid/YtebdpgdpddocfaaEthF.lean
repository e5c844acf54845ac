/-
  What ether.Read reads of any text, way by way; and that it changes nothing that was there.
-/
import Derived.Test.YtebdpgdpddocfaaEthC
namespace Go.Proofs.Ytebdpgdpddocfaa
open Go.RowKit
namespace Eth
open Oct Mac

set_option maxHeartbeats 400000 in
theorem read_long (s : ByteArray) (w : World) (hs : 9216 < s.size)
     :
    Calls Try.prog 11 #[.string s] w fun e w' => e = .returned (.tuple #[fr 0 0 false 0 0 0 ⟨#[]⟩, .int .i64 4]) ∧ Below w.heap.size w w' := by
  go_enter Try.func11, Try.ntmps11
  go_wp2_with fail
  refine bodyPost_ret (v := .tuple #[fr 0 0 false 0 0 0 ⟨#[]⟩, .int .i64 4]) ?_ rfl ⟨rfl, ?_⟩
  · simp [results, Try.results11, go_sem]
  · exact (Below.refl _ _).alloc (Nat.le_refl _) _

set_option maxHeartbeats 400000 in
theorem read_short (s : ByteArray) (N : Int) (w : World) (hs : s.size ≤ 9216) (hN : (N == 33024) = false) (hz : s.size < 14)
    (H12 : Hid (∀ w, Calls Try.prog 28 #[.string s, .int .i64 12] w fun e w' => e = .returned (.int .i64 N) ∧ w = w')) :
    Calls Try.prog 11 #[.string s] w fun e w' => e = .returned (.tuple #[fr 0 0 false 0 0 0 ⟨#[]⟩, .int .i64 2]) ∧ Below w.heap.size w w' := by
  go_enter Try.func11, Try.ntmps11
  go_wp2_with fail
  refine (H12.out _).mono ?_; rintro e w' ⟨rfl, rfl⟩
  go_wp2_with fail
  refine (headOf_any false _).mono ?_; rintro e w' ⟨rfl, rfl⟩
  go_wp2_with fail
  refine bodyPost_ret (v := .tuple #[fr 0 0 false 0 0 0 ⟨#[]⟩, .int .i64 2]) ?_ rfl ⟨rfl, ?_⟩
  · simp [results, Try.results11, go_sem]
  · exact ((Below.refl _ _).alloc (Nat.le_refl _) _).alloc (by simp) _

set_option maxHeartbeats 400000 in
theorem read_short2 (s : ByteArray) (w : World) (hs : s.size ≤ 9216) (hz : s.size < 18)
    (H12 : Hid (∀ w, Calls Try.prog 28 #[.string s, .int .i64 12] w fun e w' => e = .returned (.int .i64 33024) ∧ w = w')) :
    Calls Try.prog 11 #[.string s] w fun e w' => e = .returned (.tuple #[fr 0 0 false 0 0 0 ⟨#[]⟩, .int .i64 2]) ∧ Below w.heap.size w w' := by
  go_enter Try.func11, Try.ntmps11
  go_wp2_with fail
  refine (H12.out _).mono ?_; rintro e w' ⟨rfl, rfl⟩
  go_wp2_with fail
  refine (headOf_any true _).mono ?_; rintro e w' ⟨rfl, rfl⟩
  go_wp2_with fail
  refine bodyPost_ret (v := .tuple #[fr 0 0 false 0 0 0 ⟨#[]⟩, .int .i64 2]) ?_ rfl ⟨rfl, ?_⟩
  · simp [results, Try.results11, go_sem]
  · exact ((Below.refl _ _).alloc (Nat.le_refl _) _).alloc (by simp) _

set_option maxHeartbeats 400000 in
theorem read_bit (s : ByteArray) (K : Int) (w : World) (hs : s.size ≤ 9216) (hz : 18 ≤ s.size) (hK : bits .and .i64 K 4096 = 4096)
    (H12 : Hid (∀ w, Calls Try.prog 28 #[.string s, .int .i64 12] w fun e w' => e = .returned (.int .i64 33024) ∧ w = w'))
    (H14 : Hid (∀ w, Calls Try.prog 28 #[.string s, .int .i64 14] w fun e w' => e = .returned (.int .i64 K) ∧ w = w')) :
    Calls Try.prog 11 #[.string s] w fun e w' => e = .returned (.tuple #[fr 0 0 false 0 0 0 ⟨#[]⟩, .int .i64 3]) ∧ Below w.heap.size w w' := by
  go_enter Try.func11, Try.ntmps11
  go_wp2_with fail
  refine (H12.out _).mono ?_; rintro e w' ⟨rfl, rfl⟩
  go_wp2_with fail
  refine (headOf_any true _).mono ?_; rintro e w' ⟨rfl, rfl⟩
  go_wp2_with fail
  refine (H14.out _).mono ?_; rintro e w' ⟨rfl, rfl⟩
  go_wp2_with fail
  refine bodyPost_ret (v := .tuple #[fr 0 0 false 0 0 0 ⟨#[]⟩, .int .i64 3]) ?_ rfl ⟨rfl, ?_⟩
  · simp [results, Try.results11, go_sem]
  · exact ((Below.refl _ _).alloc (Nat.le_refl _) _).alloc (by simp) _

set_option maxHeartbeats 400000 in
theorem read_twice (s : ByteArray) (K V : Int) (w : World) (hs : s.size ≤ 9216) (hz : 18 ≤ s.size) (hK : bits .and .i64 K 4096 = 0) (hV : bits .and .i64 K 4095 = V) (hk0 : 0 ≤ K) (hk1 : K < 65536)
    (H12 : Hid (∀ w, Calls Try.prog 28 #[.string s, .int .i64 12] w fun e w' => e = .returned (.int .i64 33024) ∧ w = w'))
    (H14 : Hid (∀ w, Calls Try.prog 28 #[.string s, .int .i64 14] w fun e w' => e = .returned (.int .i64 K) ∧ w = w'))
    (H16 : Hid (∀ w, Calls Try.prog 28 #[.string s, .int .i64 16] w fun e w' => e = .returned (.int .i64 33024) ∧ w = w')) :
    Calls Try.prog 11 #[.string s] w fun e w' => e = .returned (.tuple #[fr 0 0 false 0 0 0 ⟨#[]⟩, .int .i64 3]) ∧ Below w.heap.size w w' := by
  go_enter Try.func11, Try.ntmps11
  go_wp2_with fail
  refine (H12.out _).mono ?_; rintro e w' ⟨rfl, rfl⟩
  go_wp2_with fail
  refine (headOf_any true _).mono ?_; rintro e w' ⟨rfl, rfl⟩
  go_wp2_with fail
  refine (H14.out _).mono ?_; rintro e w' ⟨rfl, rfl⟩
  go_wp2_with fail
  refine (H16.out _).mono ?_; rintro e w' ⟨rfl, rfl⟩
  go_wp2_with fail
  refine bodyPost_ret (v := .tuple #[fr 0 0 false 0 0 0 ⟨#[]⟩, .int .i64 3]) ?_ rfl ⟨rfl, ?_⟩
  · simp [results, Try.results11, go_sem]
  · exact ((Below.refl _ _).alloc (Nat.le_refl _) _).alloc (by simp) _

set_option maxHeartbeats 400000 in
theorem read_tag (s : ByteArray) (K V M D S E E2 : Int) (w : World) (hs : s.size ≤ 9216) (hz : 18 ≤ s.size) (hK : bits .and .i64 K 4096 = 0) (hV : bits .and .i64 K 4095 = V) (hk0 : 0 ≤ K) (hk1 : K < 65536) (hM : (M == 33024) = false)
    (H12 : Hid (∀ w, Calls Try.prog 28 #[.string s, .int .i64 12] w fun e w' => e = .returned (.int .i64 33024) ∧ w = w'))
    (H14 : Hid (∀ w, Calls Try.prog 28 #[.string s, .int .i64 14] w fun e w' => e = .returned (.int .i64 K) ∧ w = w'))
    (H16 : Hid (∀ w, Calls Try.prog 28 #[.string s, .int .i64 16] w fun e w' => e = .returned (.int .i64 M) ∧ w = w'))
    (HD : Hid (∀ w, Calls Try.prog 30 #[.string s, .int .i64 0] w fun e w' => e = .returned (.tuple #[.int .u64 D, .int .i64 E]) ∧ w = w'))
    (HS : Hid (∀ w, Calls Try.prog 30 #[.string s, .int .i64 6] w fun e w' => e = .returned (.tuple #[.int .u64 S, .int .i64 E2]) ∧ w = w')) :
    Calls Try.prog 11 #[.string s] w fun e w' => e = .returned (.tuple #[fr D S true (K / 8192) V M (s.extract 18 s.size), .int .i64 0]) ∧ Below w.heap.size w w' := by
  go_enter Try.func11, Try.ntmps11
  go_wp2_with fail
  refine (H12.out _).mono ?_; rintro e w' ⟨rfl, rfl⟩
  go_wp2_with fail
  refine (headOf_any true _).mono ?_; rintro e w' ⟨rfl, rfl⟩
  go_wp2_with fail
  refine (H14.out _).mono ?_; rintro e w' ⟨rfl, rfl⟩
  go_wp2_with fail
  refine (H16.out _).mono ?_; rintro e w' ⟨rfl, rfl⟩
  go_wp2_with fail
  refine (HD.out _).mono ?_; rintro e w' ⟨rfl, rfl⟩
  go_wp2_with fail
  refine (HS.out _).mono ?_; rintro e w' ⟨rfl, rfl⟩
  go_wp2_with fail
  refine bodyPost_ret (v := .tuple #[fr D S true (K / 8192) V M (s.extract 18 s.size), .int .i64 0]) ?_ rfl ⟨rfl, ?_⟩
  · simp [results, Try.results11, go_sem]
  · exact ((Below.refl _ _).alloc (Nat.le_refl _) _).alloc (by simp) _

set_option maxHeartbeats 400000 in
theorem read_no (s : ByteArray) (N D S E E2 : Int) (w : World) (hs : s.size ≤ 9216) (hz : 14 ≤ s.size) (hN : (N == 33024) = false)
    (H12 : Hid (∀ w, Calls Try.prog 28 #[.string s, .int .i64 12] w fun e w' => e = .returned (.int .i64 N) ∧ w = w'))
    (HD : Hid (∀ w, Calls Try.prog 30 #[.string s, .int .i64 0] w fun e w' => e = .returned (.tuple #[.int .u64 D, .int .i64 E]) ∧ w = w'))
    (HS : Hid (∀ w, Calls Try.prog 30 #[.string s, .int .i64 6] w fun e w' => e = .returned (.tuple #[.int .u64 S, .int .i64 E2]) ∧ w = w')) :
    Calls Try.prog 11 #[.string s] w fun e w' => e = .returned (.tuple #[fr D S false 0 0 N (s.extract 14 s.size), .int .i64 0]) ∧ Below w.heap.size w w' := by
  go_enter Try.func11, Try.ntmps11
  go_wp2_with fail
  refine (H12.out _).mono ?_; rintro e w' ⟨rfl, rfl⟩
  go_wp2_with fail
  refine (headOf_any false _).mono ?_; rintro e w' ⟨rfl, rfl⟩
  go_wp2_with fail
  refine (H12.out _).mono ?_; rintro e w' ⟨rfl, rfl⟩
  go_wp2_with fail
  refine (HD.out _).mono ?_; rintro e w' ⟨rfl, rfl⟩
  go_wp2_with fail
  refine (HS.out _).mono ?_; rintro e w' ⟨rfl, rfl⟩
  go_wp2_with fail
  refine bodyPost_ret (v := .tuple #[fr D S false 0 0 N (s.extract 14 s.size), .int .i64 0]) ?_ rfl ⟨rfl, ?_⟩
  · simp [results, Try.results11, go_sem]
  · exact ((Below.refl _ _).alloc (Nat.le_refl _) _).alloc (by simp) _

end Eth
end Go.Proofs.Ytebdpgdpddocfaa
