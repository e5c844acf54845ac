/-
  What eapol.Read reads of any text, way by way; and that it changes nothing that was there.
-/
import Derived.Test.YtdnpmajehnddkaaEplB
namespace Go.Proofs.Ytdnpmajehnddkaa
open Go.RowKit
namespace Epl
open Oct Mac Eth

theorem box_below2 (w : World) (o o' : Obj) : Below w.heap.size w ((w.alloc o).alloc o') := ((Below.refl _ _).alloc (Nat.le_refl _) _).alloc (by simp) _

set_option maxHeartbeats 400000 in
theorem read_short (s : ByteArray) (w : World) (hs : s.size < 4) :
    Calls Try.prog 9 #[.string s] w fun e w' => e = .returned (.tuple #[ep 0 0 ⟨#[]⟩, .int .i64 2]) ∧ Below w.heap.size w w' := by
  go_enter Try.func9, Try.ntmps9
  go_wp2_with fail
  refine bodyPost_ret (v := .tuple #[ep 0 0 ⟨#[]⟩, .int .i64 2]) ?_ rfl ⟨rfl, ?_⟩
  · simp [results, Try.results9, go_sem]
  · exact (Below.refl _ _).alloc (Nat.le_refl _) _

set_option maxHeartbeats 1000000 in
theorem read_type (s : ByteArray) (V T : Nat) (w : World) (hs : 4 ≤ s.size) (hz : s.size ≤ 9223372036854775807) (h0 : s[0].toNat = V) (h1 : s[1].toNat = T) (hV : V < 256) (hT : T < 256) (ht : 3 < T)
 :
    Calls Try.prog 9 #[.string s] w fun e w' => e = .returned (.tuple #[ep 0 0 ⟨#[]⟩, .int .i64 10]) ∧ Below w.heap.size w w' := by
  have p0 : 0 < s.size := by omega
  have p1 : 1 < s.size := by omega
  go_enter Try.func9, Try.ntmps9
  go_wp2_with fail
  go_region
  have bel := (box_below2 w (Obj.cells #[Value.int IntKind.i64 0, Value.int IntKind.i64 0, Value.string ⟨#[]⟩] 23) (Obj.cells #[Value.int IntKind.i64 V, Value.int IntKind.i64 T, Value.string ⟨#[]⟩] 23)).drew
  go_wp2_with fail
  refine bodyPost_ret (v := .tuple #[ep 0 0 ⟨#[]⟩, .int .i64 10]) ?_ rfl ⟨rfl, ?_⟩
  · simp [results, Try.results9, go_sem]
  · exact bel

set_option maxHeartbeats 1000000 in
theorem read_long (s : ByteArray) (V T : Nat) (N : Nat) (E : Int) (w : World) (hs : 4 ≤ s.size) (hz : s.size ≤ 9223372036854775807) (h0 : s[0].toNat = V) (h1 : s[1].toNat = T) (hV : V < 256) (hT : T < 256) (ht : T ≤ 3) (hN : 1024 < N) (hN2 : N < 65536)
    (HG : Hid (∀ w, Calls Try.prog 19 #[.string s, .int .i64 2, .int .i64 2] w fun e w' => e = .returned (.tuple #[.int .u64 N, .int .i64 E]) ∧ w = w')) :
    Calls Try.prog 9 #[.string s] w fun e w' => e = .returned (.tuple #[ep 0 0 ⟨#[]⟩, .int .i64 4]) ∧ Below w.heap.size w w' := by
  have p0 : 0 < s.size := by omega
  have p1 : 1 < s.size := by omega
  go_enter Try.func9, Try.ntmps9
  go_wp2_with fail
  go_region
  have bel := (box_below2 w (Obj.cells #[Value.int IntKind.i64 0, Value.int IntKind.i64 0, Value.string ⟨#[]⟩] 23) (Obj.cells #[Value.int IntKind.i64 V, Value.int IntKind.i64 T, Value.string ⟨#[]⟩] 23)).drew
  go_wp2_with fail
  refine (HG.out _).mono ?_; rintro e w' ⟨rfl, rfl⟩
  go_wp2_with fail
  refine bodyPost_ret (v := .tuple #[ep 0 0 ⟨#[]⟩, .int .i64 4]) ?_ rfl ⟨rfl, ?_⟩
  · simp [results, Try.results9, go_sem]
  · exact bel

set_option maxHeartbeats 1000000 in
theorem read_cut (s : ByteArray) (V T : Nat) (N : Nat) (E F : Int) (X : ByteArray) (w : World) (hs : 4 ≤ s.size) (hz : s.size ≤ 9223372036854775807) (h0 : s[0].toNat = V) (h1 : s[1].toNat = T) (hV : V < 256) (hT : T < 256) (ht : T ≤ 3) (hN : N ≤ 1024) (hF : (F != 0) = true)
    (HG : Hid (∀ w, Calls Try.prog 19 #[.string s, .int .i64 2, .int .i64 2] w fun e w' => e = .returned (.tuple #[.int .u64 N, .int .i64 E]) ∧ w = w'))
    (HC : Hid (∀ w, Calls Try.prog 20 #[.string s, .int .i64 4, .int .i64 N] w fun e w' => e = .returned (.tuple #[.string X, .int .i64 F]) ∧ w = w')) :
    Calls Try.prog 9 #[.string s] w fun e w' => e = .returned (.tuple #[ep 0 0 ⟨#[]⟩, .int .i64 2]) ∧ Below w.heap.size w w' := by
  have p0 : 0 < s.size := by omega
  have p1 : 1 < s.size := by omega
  go_enter Try.func9, Try.ntmps9
  go_wp2_with fail
  go_region
  have bel := (box_below2 w (Obj.cells #[Value.int IntKind.i64 0, Value.int IntKind.i64 0, Value.string ⟨#[]⟩] 23) (Obj.cells #[Value.int IntKind.i64 V, Value.int IntKind.i64 T, Value.string ⟨#[]⟩] 23)).drew
  go_wp2_with fail
  refine (HG.out _).mono ?_; rintro e w' ⟨rfl, rfl⟩
  go_wp2_with fail
  refine (HC.out _).mono ?_; rintro e w' ⟨rfl, rfl⟩
  go_wp2_with fail
  refine bodyPost_ret (v := .tuple #[ep 0 0 ⟨#[]⟩, .int .i64 2]) ?_ rfl ⟨rfl, ?_⟩
  · simp [results, Try.results9, go_sem]
  · exact bel

set_option maxHeartbeats 1000000 in
theorem read_body (s : ByteArray) (V T : Nat) (N : Nat) (E : Int) (X : ByteArray) (w : World) (hs : 4 ≤ s.size) (hz : s.size ≤ 9223372036854775807) (h0 : s[0].toNat = V) (h1 : s[1].toNat = T) (hV : V < 256) (hT : T < 256) (hN : N ≤ 1024) (ht : T ≤ 3) (e1 : ((T : Int) != 1) = true) (e2 : ((T : Int) != 2) = true)
    (HG : Hid (∀ w, Calls Try.prog 19 #[.string s, .int .i64 2, .int .i64 2] w fun e w' => e = .returned (.tuple #[.int .u64 N, .int .i64 E]) ∧ w = w'))
    (HC : Hid (∀ w, Calls Try.prog 20 #[.string s, .int .i64 4, .int .i64 N] w fun e w' => e = .returned (.tuple #[.string X, .int .i64 0]) ∧ w = w'))
    (HR : Hid (∀ w, Calls Try.prog 13 #[ep V T X] w fun e w' => e = .returned (.bool true) ∧ Below w.heap.size w w')) :
    Calls Try.prog 9 #[.string s] w fun e w' => e = .returned (.tuple #[ep V T X, .int .i64 0]) ∧ Below w.heap.size w w' := by
  have p0 : 0 < s.size := by omega
  have p1 : 1 < s.size := by omega
  go_enter Try.func9, Try.ntmps9
  go_wp2_with fail
  go_region
  have bel := (box_below2 w (Obj.cells #[Value.int IntKind.i64 0, Value.int IntKind.i64 0, Value.string ⟨#[]⟩] 23) (Obj.cells #[Value.int IntKind.i64 V, Value.int IntKind.i64 T, Value.string ⟨#[]⟩] 23)).drew
  go_wp2_with fail
  refine (HG.out _).mono ?_; rintro e w' ⟨rfl, rfl⟩
  go_wp2_with fail
  refine (HC.out _).mono ?_; rintro e w' ⟨rfl, rfl⟩
  go_wp2_with fail
  refine (HR.out _).mono ?_; rintro e w1 ⟨rfl, hb1⟩
  obtain ⟨hc, hf⟩ := bcell hb1
  have hz1 : w.heap.size + 1 < w1.heap.size := by have := hb1.size; simp at this; omega
  have HS := cell_set
  go_wp2_with fail
  refine bodyPost_ret (v := .tuple #[ep V T X, .int .i64 0]) ?_ rfl ⟨rfl, ?_⟩
  · simp [results, Try.results9, go_sem, hc, HS]
  · iterate 3 refine Below.setCell ?_ (by simp) _
    exact then_below (box_below2 w _ _).drew hb1

set_option maxHeartbeats 1000000 in
theorem read_body0 (s : ByteArray) (V T : Nat) (N : Nat) (E : Int) (X : ByteArray) (w : World) (hs : 4 ≤ s.size) (hz : s.size ≤ 9223372036854775807) (h0 : s[0].toNat = V) (h1 : s[1].toNat = T) (hV : V < 256) (hT : T < 256) (hN : N ≤ 1024) (ht : T ≤ 3) (e1 : ((T : Int) != 1) = true) (e2 : ((T : Int) != 2) = true)
    (HG : Hid (∀ w, Calls Try.prog 19 #[.string s, .int .i64 2, .int .i64 2] w fun e w' => e = .returned (.tuple #[.int .u64 N, .int .i64 E]) ∧ w = w'))
    (HC : Hid (∀ w, Calls Try.prog 20 #[.string s, .int .i64 4, .int .i64 N] w fun e w' => e = .returned (.tuple #[.string X, .int .i64 0]) ∧ w = w'))
    (HR : Hid (∀ w, Calls Try.prog 13 #[ep V T X] w fun e w' => e = .returned (.bool false) ∧ Below w.heap.size w w')) :
    Calls Try.prog 9 #[.string s] w fun e w' => e = .returned (.tuple #[ep 0 0 ⟨#[]⟩, .int .i64 3]) ∧ Below w.heap.size w w' := by
  have p0 : 0 < s.size := by omega
  have p1 : 1 < s.size := by omega
  go_enter Try.func9, Try.ntmps9
  go_wp2_with fail
  go_region
  have bel := (box_below2 w (Obj.cells #[Value.int IntKind.i64 0, Value.int IntKind.i64 0, Value.string ⟨#[]⟩] 23) (Obj.cells #[Value.int IntKind.i64 V, Value.int IntKind.i64 T, Value.string ⟨#[]⟩] 23)).drew
  go_wp2_with fail
  refine (HG.out _).mono ?_; rintro e w' ⟨rfl, rfl⟩
  go_wp2_with fail
  refine (HC.out _).mono ?_; rintro e w' ⟨rfl, rfl⟩
  go_wp2_with fail
  refine (HR.out _).mono ?_; rintro e w1 ⟨rfl, hb1⟩
  obtain ⟨hc, hf⟩ := bcell hb1
  have hz1 : w.heap.size + 1 < w1.heap.size := by have := hb1.size; simp at this; omega
  have HS := cell_set
  go_wp2_with fail
  refine bodyPost_ret (v := .tuple #[ep 0 0 ⟨#[]⟩, .int .i64 3]) ?_ rfl ⟨rfl, ?_⟩
  · simp [results, Try.results9, go_sem, hc, HS]
  · iterate 3 refine Below.setCell ?_ (by simp) _
    exact then_below (box_below2 w _ _).drew hb1

set_option maxHeartbeats 1000000 in
theorem read_one (s : ByteArray) (V T : Nat) (N : Nat) (E : Int) (X : ByteArray) (w : World) (hs : 4 ≤ s.size) (hz : s.size ≤ 9223372036854775807) (h0 : s[0].toNat = V) (h1 : s[1].toNat = T) (hV : V < 256) (hT : T < 256) (hN : N ≤ 1024) (ht : T ≤ 3) (e1 : ((T : Int) != 1) = false)
    (HG : Hid (∀ w, Calls Try.prog 19 #[.string s, .int .i64 2, .int .i64 2] w fun e w' => e = .returned (.tuple #[.int .u64 N, .int .i64 E]) ∧ w = w'))
    (HC : Hid (∀ w, Calls Try.prog 20 #[.string s, .int .i64 4, .int .i64 N] w fun e w' => e = .returned (.tuple #[.string X, .int .i64 0]) ∧ w = w'))
    (HR : Hid (∀ w, Calls Try.prog 13 #[ep V T ⟨#[]⟩] w fun e w' => e = .returned (.bool true) ∧ Below w.heap.size w w')) :
    Calls Try.prog 9 #[.string s] w fun e w' => e = .returned (.tuple #[ep V T ⟨#[]⟩, .int .i64 0]) ∧ Below w.heap.size w w' := by
  have p0 : 0 < s.size := by omega
  have p1 : 1 < s.size := by omega
  go_enter Try.func9, Try.ntmps9
  go_wp2_with fail
  go_region
  have bel := (box_below2 w (Obj.cells #[Value.int IntKind.i64 0, Value.int IntKind.i64 0, Value.string ⟨#[]⟩] 23) (Obj.cells #[Value.int IntKind.i64 V, Value.int IntKind.i64 T, Value.string ⟨#[]⟩] 23)).drew
  go_wp2_with fail
  refine (HG.out _).mono ?_; rintro e w' ⟨rfl, rfl⟩
  go_wp2_with fail
  refine (HC.out _).mono ?_; rintro e w' ⟨rfl, rfl⟩
  go_wp2_with fail
  refine (HR.out _).mono ?_; rintro e w1 ⟨rfl, hb1⟩
  obtain ⟨hc, hf⟩ := bcell hb1
  have hz1 : w.heap.size + 1 < w1.heap.size := by have := hb1.size; simp at this; omega
  have HS := cell_set
  go_wp2_with fail
  refine bodyPost_ret (v := .tuple #[ep V T ⟨#[]⟩, .int .i64 0]) ?_ rfl ⟨rfl, ?_⟩
  · simp [results, Try.results9, go_sem, hc, HS]
  · iterate 3 refine Below.setCell ?_ (by simp) _
    exact then_below (box_below2 w _ _).drew hb1

set_option maxHeartbeats 1000000 in
theorem read_one0 (s : ByteArray) (V T : Nat) (N : Nat) (E : Int) (X : ByteArray) (w : World) (hs : 4 ≤ s.size) (hz : s.size ≤ 9223372036854775807) (h0 : s[0].toNat = V) (h1 : s[1].toNat = T) (hV : V < 256) (hT : T < 256) (hN : N ≤ 1024) (ht : T ≤ 3) (e1 : ((T : Int) != 1) = false)
    (HG : Hid (∀ w, Calls Try.prog 19 #[.string s, .int .i64 2, .int .i64 2] w fun e w' => e = .returned (.tuple #[.int .u64 N, .int .i64 E]) ∧ w = w'))
    (HC : Hid (∀ w, Calls Try.prog 20 #[.string s, .int .i64 4, .int .i64 N] w fun e w' => e = .returned (.tuple #[.string X, .int .i64 0]) ∧ w = w'))
    (HR : Hid (∀ w, Calls Try.prog 13 #[ep V T ⟨#[]⟩] w fun e w' => e = .returned (.bool false) ∧ Below w.heap.size w w')) :
    Calls Try.prog 9 #[.string s] w fun e w' => e = .returned (.tuple #[ep 0 0 ⟨#[]⟩, .int .i64 3]) ∧ Below w.heap.size w w' := by
  have p0 : 0 < s.size := by omega
  have p1 : 1 < s.size := by omega
  go_enter Try.func9, Try.ntmps9
  go_wp2_with fail
  go_region
  have bel := (box_below2 w (Obj.cells #[Value.int IntKind.i64 0, Value.int IntKind.i64 0, Value.string ⟨#[]⟩] 23) (Obj.cells #[Value.int IntKind.i64 V, Value.int IntKind.i64 T, Value.string ⟨#[]⟩] 23)).drew
  go_wp2_with fail
  refine (HG.out _).mono ?_; rintro e w' ⟨rfl, rfl⟩
  go_wp2_with fail
  refine (HC.out _).mono ?_; rintro e w' ⟨rfl, rfl⟩
  go_wp2_with fail
  refine (HR.out _).mono ?_; rintro e w1 ⟨rfl, hb1⟩
  obtain ⟨hc, hf⟩ := bcell hb1
  have hz1 : w.heap.size + 1 < w1.heap.size := by have := hb1.size; simp at this; omega
  have HS := cell_set
  go_wp2_with fail
  refine bodyPost_ret (v := .tuple #[ep 0 0 ⟨#[]⟩, .int .i64 3]) ?_ rfl ⟨rfl, ?_⟩
  · simp [results, Try.results9, go_sem, hc, HS]
  · iterate 3 refine Below.setCell ?_ (by simp) _
    exact then_below (box_below2 w _ _).drew hb1

set_option maxHeartbeats 1000000 in
theorem read_two (s : ByteArray) (V T : Nat) (N : Nat) (E : Int) (X : ByteArray) (w : World) (hs : 4 ≤ s.size) (hz : s.size ≤ 9223372036854775807) (h0 : s[0].toNat = V) (h1 : s[1].toNat = T) (hV : V < 256) (hT : T < 256) (hN : N ≤ 1024) (ht : T ≤ 3) (e1 : ((T : Int) != 1) = true) (e2 : ((T : Int) != 2) = false)
    (HG : Hid (∀ w, Calls Try.prog 19 #[.string s, .int .i64 2, .int .i64 2] w fun e w' => e = .returned (.tuple #[.int .u64 N, .int .i64 E]) ∧ w = w'))
    (HC : Hid (∀ w, Calls Try.prog 20 #[.string s, .int .i64 4, .int .i64 N] w fun e w' => e = .returned (.tuple #[.string X, .int .i64 0]) ∧ w = w'))
    (HR : Hid (∀ w, Calls Try.prog 13 #[ep V T ⟨#[]⟩] w fun e w' => e = .returned (.bool true) ∧ Below w.heap.size w w')) :
    Calls Try.prog 9 #[.string s] w fun e w' => e = .returned (.tuple #[ep V T ⟨#[]⟩, .int .i64 0]) ∧ Below w.heap.size w w' := by
  have p0 : 0 < s.size := by omega
  have p1 : 1 < s.size := by omega
  go_enter Try.func9, Try.ntmps9
  go_wp2_with fail
  go_region
  have bel := (box_below2 w (Obj.cells #[Value.int IntKind.i64 0, Value.int IntKind.i64 0, Value.string ⟨#[]⟩] 23) (Obj.cells #[Value.int IntKind.i64 V, Value.int IntKind.i64 T, Value.string ⟨#[]⟩] 23)).drew
  go_wp2_with fail
  refine (HG.out _).mono ?_; rintro e w' ⟨rfl, rfl⟩
  go_wp2_with fail
  refine (HC.out _).mono ?_; rintro e w' ⟨rfl, rfl⟩
  go_wp2_with fail
  refine (HR.out _).mono ?_; rintro e w1 ⟨rfl, hb1⟩
  obtain ⟨hc, hf⟩ := bcell hb1
  have hz1 : w.heap.size + 1 < w1.heap.size := by have := hb1.size; simp at this; omega
  have HS := cell_set
  go_wp2_with fail
  refine bodyPost_ret (v := .tuple #[ep V T ⟨#[]⟩, .int .i64 0]) ?_ rfl ⟨rfl, ?_⟩
  · simp [results, Try.results9, go_sem, hc, HS]
  · iterate 3 refine Below.setCell ?_ (by simp) _
    exact then_below (box_below2 w _ _).drew hb1

set_option maxHeartbeats 1000000 in
theorem read_two0 (s : ByteArray) (V T : Nat) (N : Nat) (E : Int) (X : ByteArray) (w : World) (hs : 4 ≤ s.size) (hz : s.size ≤ 9223372036854775807) (h0 : s[0].toNat = V) (h1 : s[1].toNat = T) (hV : V < 256) (hT : T < 256) (hN : N ≤ 1024) (ht : T ≤ 3) (e1 : ((T : Int) != 1) = true) (e2 : ((T : Int) != 2) = false)
    (HG : Hid (∀ w, Calls Try.prog 19 #[.string s, .int .i64 2, .int .i64 2] w fun e w' => e = .returned (.tuple #[.int .u64 N, .int .i64 E]) ∧ w = w'))
    (HC : Hid (∀ w, Calls Try.prog 20 #[.string s, .int .i64 4, .int .i64 N] w fun e w' => e = .returned (.tuple #[.string X, .int .i64 0]) ∧ w = w'))
    (HR : Hid (∀ w, Calls Try.prog 13 #[ep V T ⟨#[]⟩] w fun e w' => e = .returned (.bool false) ∧ Below w.heap.size w w')) :
    Calls Try.prog 9 #[.string s] w fun e w' => e = .returned (.tuple #[ep 0 0 ⟨#[]⟩, .int .i64 3]) ∧ Below w.heap.size w w' := by
  have p0 : 0 < s.size := by omega
  have p1 : 1 < s.size := by omega
  go_enter Try.func9, Try.ntmps9
  go_wp2_with fail
  go_region
  have bel := (box_below2 w (Obj.cells #[Value.int IntKind.i64 0, Value.int IntKind.i64 0, Value.string ⟨#[]⟩] 23) (Obj.cells #[Value.int IntKind.i64 V, Value.int IntKind.i64 T, Value.string ⟨#[]⟩] 23)).drew
  go_wp2_with fail
  refine (HG.out _).mono ?_; rintro e w' ⟨rfl, rfl⟩
  go_wp2_with fail
  refine (HC.out _).mono ?_; rintro e w' ⟨rfl, rfl⟩
  go_wp2_with fail
  refine (HR.out _).mono ?_; rintro e w1 ⟨rfl, hb1⟩
  obtain ⟨hc, hf⟩ := bcell hb1
  have hz1 : w.heap.size + 1 < w1.heap.size := by have := hb1.size; simp at this; omega
  have HS := cell_set
  go_wp2_with fail
  refine bodyPost_ret (v := .tuple #[ep 0 0 ⟨#[]⟩, .int .i64 3]) ?_ rfl ⟨rfl, ?_⟩
  · simp [results, Try.results9, go_sem, hc, HS]
  · iterate 3 refine Below.setCell ?_ (by simp) _
    exact then_below (box_below2 w _ _).drew hb1

end Epl
end Go.Proofs.Ytdnpmajehnddkaa
