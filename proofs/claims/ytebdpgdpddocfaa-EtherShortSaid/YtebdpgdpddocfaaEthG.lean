/-
  What the document's Read of layer 3 reads of any text, way by way; and that it changes nothing that was there.
-/
import Derived.Test.YtebdpgdpddocfaaEthC
namespace Go.Proofs.Ytebdpgdpddocfaa
open Go.RowKit
namespace Eth
open Oct Mac

set_option maxHeartbeats 400000 in
theorem rread_long (s : ByteArray) (w : World) (hs : 9216 < s.size)
     :
    Calls Try.prog 12 #[.string s] w fun e w' => e = .returned (.tuple #[fr 0 0 false 0 0 0 ⟨#[]⟩, .int .i64 4]) ∧ Below w.heap.size w w' := by
  go_enter Try.func12, Try.ntmps12
  go_wp2_with fail
  refine bodyPost_ret (v := .tuple #[fr 0 0 false 0 0 0 ⟨#[]⟩, .int .i64 4]) ?_ rfl ⟨rfl, ?_⟩
  · simp [results, Try.results12, go_sem]
  · exact (Below.refl _ _).alloc (Nat.le_refl _) _

set_option maxHeartbeats 400000 in
theorem rread_short (s : ByteArray) (w : World) (hs : s.size ≤ 9216) (hz : s.size < 14)
     :
    Calls Try.prog 12 #[.string s] w fun e w' => e = .returned (.tuple #[fr 0 0 false 0 0 0 ⟨#[]⟩, .int .i64 2]) ∧ Below w.heap.size w w' := by
  go_enter Try.func12, Try.ntmps12
  go_wp2_with fail
  refine bodyPost_ret (v := .tuple #[fr 0 0 false 0 0 0 ⟨#[]⟩, .int .i64 2]) ?_ rfl ⟨rfl, ?_⟩
  · simp [results, Try.results12, go_sem]
  · exact (Below.refl _ _).alloc (Nat.le_refl _) _

set_option maxHeartbeats 400000 in
theorem rread_no (s : ByteArray) (N D S E E2 E12 : Int) (w : World) (hs : s.size ≤ 9216) (hz : 14 ≤ s.size) (hN : (N == 33024) = false) (hn0 : 0 ≤ N) (hn1 : N < 65536)
    (HD : Hid (∀ w, Calls Try.prog 31 #[.string s, .int .i64 0] w fun e w' => e = .returned (.tuple #[.int .u64 D, .int .i64 E]) ∧ w = w'))
    (HS : Hid (∀ w, Calls Try.prog 31 #[.string s, .int .i64 6] w fun e w' => e = .returned (.tuple #[.int .u64 S, .int .i64 E2]) ∧ w = w'))
    (H12 : Hid (∀ w, Calls Try.prog 32 #[.string s, .int .i64 12, .int .i64 2] w fun e w' => e = .returned (.tuple #[.int .u64 N, .int .i64 E12]) ∧ w = w')) :
    Calls Try.prog 12 #[.string s] w fun e w' => e = .returned (.tuple #[fr D S false 0 0 N (s.extract 14 s.size), .int .i64 0]) ∧ Below w.heap.size w w' := by
  have hN2 : (N != 33024) = true := by simpa using hN
  go_enter Try.func12, Try.ntmps12
  go_wp2_with fail
  refine (HD.out _).mono ?_; rintro e w' ⟨rfl, rfl⟩
  go_wp2_with fail
  refine (HS.out _).mono ?_; rintro e w' ⟨rfl, rfl⟩
  go_wp2_with fail
  refine (H12.out _).mono ?_; rintro e w' ⟨rfl, rfl⟩
  go_wp2_with fail
  refine bodyPost_ret (v := .tuple #[fr D S false 0 0 N (s.extract 14 s.size), .int .i64 0]) ?_ rfl ⟨rfl, ?_⟩
  · simp [results, Try.results12, go_sem]
  · exact ((Below.refl _ _).alloc (Nat.le_refl _) _).alloc (by simp) _

set_option maxHeartbeats 400000 in
theorem rread_short2 (s : ByteArray) (D S E E2 E12 : Int) (w : World) (hs : s.size ≤ 9216) (hz0 : 14 ≤ s.size) (hz : s.size < 18)
    (HD : Hid (∀ w, Calls Try.prog 31 #[.string s, .int .i64 0] w fun e w' => e = .returned (.tuple #[.int .u64 D, .int .i64 E]) ∧ w = w'))
    (HS : Hid (∀ w, Calls Try.prog 31 #[.string s, .int .i64 6] w fun e w' => e = .returned (.tuple #[.int .u64 S, .int .i64 E2]) ∧ w = w'))
    (H12 : Hid (∀ w, Calls Try.prog 32 #[.string s, .int .i64 12, .int .i64 2] w fun e w' => e = .returned (.tuple #[.int .u64 33024, .int .i64 E12]) ∧ w = w')) :
    Calls Try.prog 12 #[.string s] w fun e w' => e = .returned (.tuple #[fr 0 0 false 0 0 0 ⟨#[]⟩, .int .i64 2]) ∧ Below w.heap.size w w' := by
  go_enter Try.func12, Try.ntmps12
  go_wp2_with fail
  refine (HD.out _).mono ?_; rintro e w' ⟨rfl, rfl⟩
  go_wp2_with fail
  refine (HS.out _).mono ?_; rintro e w' ⟨rfl, rfl⟩
  go_wp2_with fail
  refine (H12.out _).mono ?_; rintro e w' ⟨rfl, rfl⟩
  go_wp2_with fail
  refine bodyPost_ret (v := .tuple #[fr 0 0 false 0 0 0 ⟨#[]⟩, .int .i64 2]) ?_ rfl ⟨rfl, ?_⟩
  · simp [results, Try.results12, go_sem]
  · exact ((Below.refl _ _).alloc (Nat.le_refl _) _).alloc (by simp) _

set_option maxHeartbeats 400000 in
theorem rread_twice (s : ByteArray) (K D S E E2 E12 E14 E16 : Int) (w : World) (hs : s.size ≤ 9216) (hz : 18 ≤ s.size) 
    (HD : Hid (∀ w, Calls Try.prog 31 #[.string s, .int .i64 0] w fun e w' => e = .returned (.tuple #[.int .u64 D, .int .i64 E]) ∧ w = w'))
    (HS : Hid (∀ w, Calls Try.prog 31 #[.string s, .int .i64 6] w fun e w' => e = .returned (.tuple #[.int .u64 S, .int .i64 E2]) ∧ w = w'))
    (H12 : Hid (∀ w, Calls Try.prog 32 #[.string s, .int .i64 12, .int .i64 2] w fun e w' => e = .returned (.tuple #[.int .u64 33024, .int .i64 E12]) ∧ w = w'))
    (H14 : Hid (∀ w, Calls Try.prog 32 #[.string s, .int .i64 14, .int .i64 2] w fun e w' => e = .returned (.tuple #[.int .u64 K, .int .i64 E14]) ∧ w = w'))
    (H16 : Hid (∀ w, Calls Try.prog 32 #[.string s, .int .i64 16, .int .i64 2] w fun e w' => e = .returned (.tuple #[.int .u64 33024, .int .i64 E16]) ∧ w = w')) :
    Calls Try.prog 12 #[.string s] w fun e w' => e = .returned (.tuple #[fr 0 0 false 0 0 0 ⟨#[]⟩, .int .i64 3]) ∧ Below w.heap.size w w' := by
  go_enter Try.func12, Try.ntmps12
  go_wp2_with fail
  refine (HD.out _).mono ?_; rintro e w' ⟨rfl, rfl⟩
  go_wp2_with fail
  refine (HS.out _).mono ?_; rintro e w' ⟨rfl, rfl⟩
  go_wp2_with fail
  refine (H12.out _).mono ?_; rintro e w' ⟨rfl, rfl⟩
  go_wp2_with fail
  refine (H14.out _).mono ?_; rintro e w' ⟨rfl, rfl⟩
  go_wp2_with fail
  refine (H16.out _).mono ?_; rintro e w' ⟨rfl, rfl⟩
  go_wp2_with fail
  refine bodyPost_ret (v := .tuple #[fr 0 0 false 0 0 0 ⟨#[]⟩, .int .i64 3]) ?_ rfl ⟨rfl, ?_⟩
  · simp [results, Try.results12, go_sem]
  · exact ((Below.refl _ _).alloc (Nat.le_refl _) _).alloc (by simp) _

set_option maxHeartbeats 400000 in
theorem rread_bit (s : ByteArray) (K M D S E E2 E12 E14 E16 : Int) (w : World) (hs : s.size ≤ 9216) (hz : 18 ≤ s.size) (hM : (M == 33024) = false) (hK : bits .and .u64 (K / 4096) 1 = 1)
    (HD : Hid (∀ w, Calls Try.prog 31 #[.string s, .int .i64 0] w fun e w' => e = .returned (.tuple #[.int .u64 D, .int .i64 E]) ∧ w = w'))
    (HS : Hid (∀ w, Calls Try.prog 31 #[.string s, .int .i64 6] w fun e w' => e = .returned (.tuple #[.int .u64 S, .int .i64 E2]) ∧ w = w'))
    (H12 : Hid (∀ w, Calls Try.prog 32 #[.string s, .int .i64 12, .int .i64 2] w fun e w' => e = .returned (.tuple #[.int .u64 33024, .int .i64 E12]) ∧ w = w'))
    (H14 : Hid (∀ w, Calls Try.prog 32 #[.string s, .int .i64 14, .int .i64 2] w fun e w' => e = .returned (.tuple #[.int .u64 K, .int .i64 E14]) ∧ w = w'))
    (H16 : Hid (∀ w, Calls Try.prog 32 #[.string s, .int .i64 16, .int .i64 2] w fun e w' => e = .returned (.tuple #[.int .u64 M, .int .i64 E16]) ∧ w = w')) :
    Calls Try.prog 12 #[.string s] w fun e w' => e = .returned (.tuple #[fr 0 0 false 0 0 0 ⟨#[]⟩, .int .i64 3]) ∧ Below w.heap.size w w' := by
  go_enter Try.func12, Try.ntmps12
  go_wp2_with fail
  refine (HD.out _).mono ?_; rintro e w' ⟨rfl, rfl⟩
  go_wp2_with fail
  refine (HS.out _).mono ?_; rintro e w' ⟨rfl, rfl⟩
  go_wp2_with fail
  refine (H12.out _).mono ?_; rintro e w' ⟨rfl, rfl⟩
  go_wp2_with fail
  refine (H14.out _).mono ?_; rintro e w' ⟨rfl, rfl⟩
  go_wp2_with fail
  refine (H16.out _).mono ?_; rintro e w' ⟨rfl, rfl⟩
  go_wp2_with fail
  refine bodyPost_ret (v := .tuple #[fr 0 0 false 0 0 0 ⟨#[]⟩, .int .i64 3]) ?_ rfl ⟨rfl, ?_⟩
  · simp [results, Try.results12, go_sem]
  · exact ((Below.refl _ _).alloc (Nat.le_refl _) _).alloc (by simp) _

set_option maxHeartbeats 400000 in
theorem rread_tag (s : ByteArray) (K V M D S E E2 E12 E14 E16 : Int) (w : World) (hs : s.size ≤ 9216) (hz : 18 ≤ s.size) (hk0 : 0 ≤ K) (hk1 : K < 65536) (hM : (M == 33024) = false) (hK : bits .and .u64 (K / 4096) 1 = 0) (hV : bits .and .u64 K 4095 = V) (hv0 : 0 ≤ V) (hv1 : V < 4096) (hm0 : 0 ≤ M) (hm1 : M < 65536)
    (HD : Hid (∀ w, Calls Try.prog 31 #[.string s, .int .i64 0] w fun e w' => e = .returned (.tuple #[.int .u64 D, .int .i64 E]) ∧ w = w'))
    (HS : Hid (∀ w, Calls Try.prog 31 #[.string s, .int .i64 6] w fun e w' => e = .returned (.tuple #[.int .u64 S, .int .i64 E2]) ∧ w = w'))
    (H12 : Hid (∀ w, Calls Try.prog 32 #[.string s, .int .i64 12, .int .i64 2] w fun e w' => e = .returned (.tuple #[.int .u64 33024, .int .i64 E12]) ∧ w = w'))
    (H14 : Hid (∀ w, Calls Try.prog 32 #[.string s, .int .i64 14, .int .i64 2] w fun e w' => e = .returned (.tuple #[.int .u64 K, .int .i64 E14]) ∧ w = w'))
    (H16 : Hid (∀ w, Calls Try.prog 32 #[.string s, .int .i64 16, .int .i64 2] w fun e w' => e = .returned (.tuple #[.int .u64 M, .int .i64 E16]) ∧ w = w')) :
    Calls Try.prog 12 #[.string s] w fun e w' => e = .returned (.tuple #[fr D S true (K / 8192) V M (s.extract 18 s.size), .int .i64 0]) ∧ Below w.heap.size w w' := by
  go_enter Try.func12, Try.ntmps12
  go_wp2_with fail
  refine (HD.out _).mono ?_; rintro e w' ⟨rfl, rfl⟩
  go_wp2_with fail
  refine (HS.out _).mono ?_; rintro e w' ⟨rfl, rfl⟩
  go_wp2_with fail
  refine (H12.out _).mono ?_; rintro e w' ⟨rfl, rfl⟩
  go_wp2_with fail
  refine (H14.out _).mono ?_; rintro e w' ⟨rfl, rfl⟩
  go_wp2_with fail
  refine (H16.out _).mono ?_; rintro e w' ⟨rfl, rfl⟩
  go_wp2_with fail
  go_region
  go_wp2_with fail
  refine bodyPost_ret (v := .tuple #[fr D S true (K / 8192) V M (s.extract 18 s.size), .int .i64 0]) ?_ rfl ⟨rfl, ?_⟩
  · simp [results, Try.results12, go_sem]
  · exact (((Below.refl _ _).alloc (Nat.le_refl _) _).alloc (by simp) _).drew

end Eth
end Go.Proofs.Ytebdpgdpddocfaa
