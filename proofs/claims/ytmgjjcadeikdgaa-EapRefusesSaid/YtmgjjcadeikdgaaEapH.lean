/-
  What eap.Refuse, and the document's answer beside it, answer of any packet and kinds; and that they change nothing that was there.
-/
import Derived.Test.YtmgjjcadeikdgaaEapG
namespace Go.Proofs.Ytmgjjcadeikdgaa
open Go.RowKit
namespace Eap
open Oct Mac Eth Epl

/-- Whether one refuses, and what. -/
def refB (c i t : Int) (d : ByteArray) (l : List Int) : Bool := rightP c i t d && decide (c = 1 ∧ 3 < t ∧ t ∉ l)
def refD (c i t : Int) (d : ByteArray) (l : List Int) : Value := if refB c i t d l then pk 2 i 3 (wishD l) else pk 0 0 0 ⟨#[]⟩

theorem keep_frozen {W w1 : World} {g o : Nat} (hb : Below W.heap.size W w1) (hg : g < W.heap.size) (h : W.frozen? ⟨g, o, none⟩ = false) : w1.frozen? ⟨g, o, none⟩ = false := (hb.frozen (p := ⟨g, o, none⟩) hg).trans h

set_option maxRecDepth 100000 in
set_option maxHeartbeats 1000000 in
theorem refuse_right (A : Option Addr) (l : List Int) (cap : Nat) (c i t : Int) (d : ByteArray) (w : World) 
    (HR : Hid (∀ w, Calls Try.prog 12 #[pk c i t d] w fun e w' => e = .returned (.bool false) ∧ Below w.heap.size w w')) :
    Calls Try.prog 20 #[pk c i t d, .slice A l.length cap] w fun e w' => e = .returned (.tuple #[pk 0 0 0 ⟨#[]⟩, .bool false]) ∧ Below w.heap.size w w' := by
  go_enter Try.func20, Try.ntmps20
  go_wp2_with fail
  refine (HR.out _).mono ?_; rintro e w1 ⟨rfl, hb1⟩
  obtain ⟨hc1, hf1⟩ := Bx.bcell hb1
  have hz1 : w.heap.size + 1 < w1.heap.size := by have := hb1.size; simp at this; omega
  have HS := Bx.cell_set
  have BX := Lib.hid (Bx.then_below (box_below2 w (Obj.cells #[.int .i64 c, .int .i64 i, .int .i64 t, .string d] 23) (Obj.cells #[.int .i64 0, .int .i64 0, .int .i64 0, .string ⟨#[]⟩] 23)) hb1)
  go_wp2_with fail
  refine bodyPost_ret (v := .tuple #[pk 0 0 0 ⟨#[]⟩, .bool false]) ?_ rfl ⟨rfl, ?_⟩
  · simp [results, Try.results20, go_sem, hc1, HS]
  · (iterate 4 refine Below.setCell ?_ (by simp) _); exact BX.out

set_option maxRecDepth 100000 in
set_option maxHeartbeats 1000000 in
theorem refuse_code (A : Option Addr) (l : List Int) (cap : Nat) (c i t : Int) (d : ByteArray) (w : World) (h1 : (c != 1) = true)
    (HR : Hid (∀ w, Calls Try.prog 12 #[pk c i t d] w fun e w' => e = .returned (.bool true) ∧ Below w.heap.size w w')) :
    Calls Try.prog 20 #[pk c i t d, .slice A l.length cap] w fun e w' => e = .returned (.tuple #[pk 0 0 0 ⟨#[]⟩, .bool false]) ∧ Below w.heap.size w w' := by
  go_enter Try.func20, Try.ntmps20
  go_wp2_with fail
  refine (HR.out _).mono ?_; rintro e w1 ⟨rfl, hb1⟩
  obtain ⟨hc1, hf1⟩ := Bx.bcell hb1
  have hz1 : w.heap.size + 1 < w1.heap.size := by have := hb1.size; simp at this; omega
  have HS := Bx.cell_set
  have BX := Lib.hid (Bx.then_below (box_below2 w (Obj.cells #[.int .i64 c, .int .i64 i, .int .i64 t, .string d] 23) (Obj.cells #[.int .i64 0, .int .i64 0, .int .i64 0, .string ⟨#[]⟩] 23)) hb1)
  go_wp2_with fail
  refine bodyPost_ret (v := .tuple #[pk 0 0 0 ⟨#[]⟩, .bool false]) ?_ rfl ⟨rfl, ?_⟩
  · simp [results, Try.results20, go_sem, hc1, HS]
  · (iterate 4 refine Below.setCell ?_ (by simp) _); exact BX.out

set_option maxRecDepth 100000 in
set_option maxHeartbeats 1000000 in
theorem refuse_low (A : Option Addr) (l : List Int) (cap : Nat) (c i t : Int) (d : ByteArray) (w : World) (h1 : (c != 1) = false) (h2 : decide (t ≤ 3) = true)
    (HR : Hid (∀ w, Calls Try.prog 12 #[pk c i t d] w fun e w' => e = .returned (.bool true) ∧ Below w.heap.size w w')) :
    Calls Try.prog 20 #[pk c i t d, .slice A l.length cap] w fun e w' => e = .returned (.tuple #[pk 0 0 0 ⟨#[]⟩, .bool false]) ∧ Below w.heap.size w w' := by
  go_enter Try.func20, Try.ntmps20
  go_wp2_with fail
  refine (HR.out _).mono ?_; rintro e w1 ⟨rfl, hb1⟩
  obtain ⟨hc1, hf1⟩ := Bx.bcell hb1
  have hz1 : w.heap.size + 1 < w1.heap.size := by have := hb1.size; simp at this; omega
  have HS := Bx.cell_set
  have BX := Lib.hid (Bx.then_below (box_below2 w (Obj.cells #[.int .i64 c, .int .i64 i, .int .i64 t, .string d] 23) (Obj.cells #[.int .i64 0, .int .i64 0, .int .i64 0, .string ⟨#[]⟩] 23)) hb1)
  go_wp2_with fail
  refine bodyPost_ret (v := .tuple #[pk 0 0 0 ⟨#[]⟩, .bool false]) ?_ rfl ⟨rfl, ?_⟩
  · simp [results, Try.results20, go_sem, hc1, HS]
  · (iterate 4 refine Below.setCell ?_ (by simp) _); exact BX.out

set_option maxRecDepth 100000 in
set_option maxHeartbeats 1000000 in
theorem refuse_own (A : Option Addr) (l : List Int) (cap : Nat) (c i t : Int) (d : ByteArray) (w : World) (h1 : (c != 1) = false) (h2 : decide (t ≤ 3) = false) (hl : l.length ≤ 9223372036854775807) (hI : Hid (Bx.Ints w A l)) (HC : Hid (decide (t ∈ l) = true))
    (HR : Hid (∀ w, Calls Try.prog 12 #[pk c i t d] w fun e w' => e = .returned (.bool true) ∧ Below w.heap.size w w')) :
    Calls Try.prog 20 #[pk c i t d, .slice A l.length cap] w fun e w' => e = .returned (.tuple #[pk 0 0 0 ⟨#[]⟩, .bool false]) ∧ Below w.heap.size w w' := by
  go_enter Try.func20, Try.ntmps20
  go_wp2_with fail
  refine (HR.out _).mono ?_; rintro e w1 ⟨rfl, hb1⟩
  obtain ⟨hc1, hf1⟩ := Bx.bcell hb1
  have hz1 : w.heap.size + 1 < w1.heap.size := by have := hb1.size; simp at this; omega
  have HS := Bx.cell_set
  have BX := Lib.hid (Bx.then_below (box_below2 w (Obj.cells #[.int .i64 c, .int .i64 i, .int .i64 t, .string d] 23) (Obj.cells #[.int .i64 0, .int .i64 0, .int .i64 0, .string ⟨#[]⟩] 23)) hb1)
  go_wp2_with fail
  refine (contains_any A l cap t _ hl (Lib.hid (hI.out.below BX.out))).mono ?_; rintro e w' ⟨rfl, rfl⟩
  rw [HC.out]
  go_wp2_with fail
  refine bodyPost_ret (v := .tuple #[pk 0 0 0 ⟨#[]⟩, .bool false]) ?_ rfl ⟨rfl, ?_⟩
  · simp [results, Try.results20, go_sem, hc1, HS]
  · (iterate 4 refine Below.setCell ?_ (by simp) _); exact BX.out

set_option maxRecDepth 100000 in
set_option maxHeartbeats 1000000 in
theorem refuse_yes (A : Option Addr) (l : List Int) (cap : Nat) (c i t : Int) (d : ByteArray) (w : World) (h1 : (c != 1) = false) (h2 : decide (t ≤ 3) = false) (hl : l.length ≤ 9223372036854775807) (hI : Hid (Bx.Ints w A l)) (HC : Hid (decide (t ∈ l) = false))
    (HR : Hid (∀ w, Calls Try.prog 12 #[pk c i t d] w fun e w' => e = .returned (.bool true) ∧ Below w.heap.size w w')) :
    Calls Try.prog 20 #[pk c i t d, .slice A l.length cap] w fun e w' => e = .returned (.tuple #[pk 2 i 3 (wishD l), .bool true]) ∧ Below w.heap.size w w' := by
  go_enter Try.func20, Try.ntmps20
  go_wp2_with fail
  refine (HR.out _).mono ?_; rintro e w1 ⟨rfl, hb1⟩
  obtain ⟨hc1, hf1⟩ := Bx.bcell hb1
  have hz1 : w.heap.size + 1 < w1.heap.size := by have := hb1.size; simp at this; omega
  have HS := Bx.cell_set
  have BX := Lib.hid (Bx.then_below (box_below2 w (Obj.cells #[.int .i64 c, .int .i64 i, .int .i64 t, .string d] 23) (Obj.cells #[.int .i64 0, .int .i64 0, .int .i64 0, .string ⟨#[]⟩] 23)) hb1)
  go_wp2_with fail
  refine (contains_any A l cap t _ hl (Lib.hid (hI.out.below BX.out))).mono ?_; rintro e w' ⟨rfl, rfl⟩
  rw [HC.out]
  go_wp2_with fail
  have c1 : w1.cell? ⟨w.heap.size, 1, none⟩ = some (.int .i64 i) := by rw [hc1 _ _ (by simp; omega)]; simp
  have HJ : Bx.Ints w1 A l := hI.out.below BX.out
  have d0 : w1.cell? ⟨w.heap.size + 1, 0, none⟩ = some (.int .i64 0) := by rw [hc1 _ _ (by simp)]; simp
  have e0 : w1.frozen? ⟨w.heap.size + 1, 0, none⟩ = false := by rw [hf1 _ _ (by simp)]; simp
  have d1 : w1.cell? ⟨w.heap.size + 1, 1, none⟩ = some (.int .i64 0) := by rw [hc1 _ _ (by simp)]; simp
  have e1 : w1.frozen? ⟨w.heap.size + 1, 1, none⟩ = false := by rw [hf1 _ _ (by simp)]; simp
  have d2 : w1.cell? ⟨w.heap.size + 1, 2, none⟩ = some (.int .i64 0) := by rw [hc1 _ _ (by simp)]; simp
  have e2 : w1.frozen? ⟨w.heap.size + 1, 2, none⟩ = false := by rw [hf1 _ _ (by simp)]; simp
  have d3 : w1.cell? ⟨w.heap.size + 1, 3, none⟩ = some (.string ⟨#[]⟩) := by rw [hc1 _ _ (by simp)]; simp
  have e3 : w1.frozen? ⟨w.heap.size + 1, 3, none⟩ = false := by rw [hf1 _ _ (by simp)]; simp
  clear hc1 hf1
  go_region_held3 (fun w' => w'.cell? ⟨w.heap.size, 1, none⟩ = some (.int .i64 i) ∧ Bx.Ints w' A l)
    (first | exact ⟨by assumption, by assumption⟩ | (go_split_ands; exact ⟨Bx.keep_cell (by assumption) (by assumption), Bx.Ints.below (by assumption) (by assumption)⟩) | (go_split_ands; refine ⟨?_, ?_⟩; (iterate 4 (with_reducible refine Bx.cell_off (by omega) ?_)); assumption; refine hI.out.below ?_; (iterate 4 refine Below.setCell ?_ (by simp) _); exact Bx.bel_drew BX.out hb2))
    (first | (go_at_call 37; (with_reducible refine (wish_any A l cap _ hl (Lib.hid (by apply And.right; assumption))).mono ?_); rintro e w2 ⟨rfl, hb2⟩; have k0 := Bx.keep_cell hb2 d0; have g0 := keep_frozen hb2 (by exact hz1) e0; have k1 := Bx.keep_cell hb2 d1; have g1 := keep_frozen hb2 (by exact hz1) e1; have k2 := Bx.keep_cell hb2 d2; have g2 := keep_frozen hb2 (by exact hz1) e2; have k3 := Bx.keep_cell hb2 d3; have g3 := keep_frozen hb2 (by exact hz1) e3; clear d0 e0 d1 e1 d2 e2 d3 e3))
  go_wp2_with fail
  refine bodyPost_ret (v := .tuple #[pk 2 i 3 (wishD l), .bool true]) ?_ rfl ⟨rfl, ?_⟩
  · simp [results, Try.results20, go_sem, HS, k0, k1, k2, k3]
  · (iterate 4 refine Below.setCell ?_ (by simp) _); exact Bx.bel_drew BX.out hb2

theorem refuse_any (A : Option Addr) (l : List Int) (cap : Nat) (c i t : Int) (d : ByteArray) (w : World) (hl : l.length ≤ 9223372036854775807) (hd : d.size ≤ 9223372036854775807) (hI : Hid (Bx.Ints w A l)) :
    Calls Try.prog 20 #[pk c i t d, .slice A l.length cap] w fun e w' => e = .returned (.tuple #[refD c i t d l, .bool (refB c i t d l)]) ∧ Below w.heap.size w w' := by
  have HR := fun w => right_any c i t d w hd
  unfold refD refB
  cases hr : rightP c i t d
  · rw [hr] at HR
    exact refuse_right A l cap c i t d w (Lib.hid HR)
  rw [hr] at HR
  simp only [Bool.true_and]
  by_cases h1 : c = 1
  case neg =>
    rw [decide_eq_false (fun h => h1 h.1)]
    exact refuse_code A l cap c i t d w (by simpa using h1) (Lib.hid HR)
  by_cases h2 : 3 < t
  case neg =>
    rw [decide_eq_false (fun h => h2 h.2.1)]
    exact refuse_low A l cap c i t d w (by simpa using h1) (decide_eq_true (by omega)) (Lib.hid HR)
  by_cases h3 : t ∈ l
  · rw [decide_eq_false (fun h => h.2.2 h3)]
    exact refuse_own A l cap c i t d w (by simpa using h1) (decide_eq_false (by omega)) hl hI (Lib.hid (decide_eq_true h3)) (Lib.hid HR)
  · rw [decide_eq_true ⟨h1, h2, h3⟩]
    exact refuse_yes A l cap c i t d w (by simpa using h1) (decide_eq_false (by omega)) hl hI (Lib.hid (decide_eq_false h3)) (Lib.hid HR)

set_option maxRecDepth 100000 in
set_option maxHeartbeats 1000000 in
theorem rrefuse_right (A : Option Addr) (l : List Int) (cap : Nat) (c i t : Int) (d : ByteArray) (w : World) 
    (HR : Hid (∀ w, Calls Try.prog 13 #[pk c i t d] w fun e w' => e = .returned (.bool false) ∧ Below w.heap.size w w')) :
    Calls Try.prog 21 #[pk c i t d, .slice A l.length cap] w fun e w' => e = .returned (.tuple #[pk 0 0 0 ⟨#[]⟩, .bool false]) ∧ Below w.heap.size w w' := by
  go_enter Try.func21, Try.ntmps21
  go_wp2_with fail
  refine (HR.out _).mono ?_; rintro e w1 ⟨rfl, hb1⟩
  obtain ⟨hc1, hf1⟩ := Bx.bcell hb1
  have hz1 : w.heap.size + 1 < w1.heap.size := by have := hb1.size; simp at this; omega
  have HS := Bx.cell_set
  have BX := Lib.hid (Bx.then_below (box_below2 w (Obj.cells #[.int .i64 c, .int .i64 i, .int .i64 t, .string d] 23) (Obj.cells #[.int .i64 0, .int .i64 0, .int .i64 0, .string ⟨#[]⟩] 23)) hb1)
  go_wp2_with fail
  refine bodyPost_ret (v := .tuple #[pk 0 0 0 ⟨#[]⟩, .bool false]) ?_ rfl ⟨rfl, ?_⟩
  · simp [results, Try.results21, go_sem, hc1, HS]
  · (iterate 4 refine Below.setCell ?_ (by simp) _); exact BX.out

set_option maxRecDepth 100000 in
set_option maxHeartbeats 1000000 in
theorem rrefuse_code (A : Option Addr) (l : List Int) (cap : Nat) (c i t : Int) (d : ByteArray) (w : World) (h1 : (c != 1) = true)
    (HR : Hid (∀ w, Calls Try.prog 13 #[pk c i t d] w fun e w' => e = .returned (.bool true) ∧ Below w.heap.size w w')) :
    Calls Try.prog 21 #[pk c i t d, .slice A l.length cap] w fun e w' => e = .returned (.tuple #[pk 0 0 0 ⟨#[]⟩, .bool false]) ∧ Below w.heap.size w w' := by
  go_enter Try.func21, Try.ntmps21
  go_wp2_with fail
  refine (HR.out _).mono ?_; rintro e w1 ⟨rfl, hb1⟩
  obtain ⟨hc1, hf1⟩ := Bx.bcell hb1
  have hz1 : w.heap.size + 1 < w1.heap.size := by have := hb1.size; simp at this; omega
  have HS := Bx.cell_set
  have BX := Lib.hid (Bx.then_below (box_below2 w (Obj.cells #[.int .i64 c, .int .i64 i, .int .i64 t, .string d] 23) (Obj.cells #[.int .i64 0, .int .i64 0, .int .i64 0, .string ⟨#[]⟩] 23)) hb1)
  go_wp2_with fail
  refine bodyPost_ret (v := .tuple #[pk 0 0 0 ⟨#[]⟩, .bool false]) ?_ rfl ⟨rfl, ?_⟩
  · simp [results, Try.results21, go_sem, hc1, HS]
  · (iterate 4 refine Below.setCell ?_ (by simp) _); exact BX.out

set_option maxRecDepth 100000 in
set_option maxHeartbeats 1000000 in
theorem rrefuse_low (A : Option Addr) (l : List Int) (cap : Nat) (c i t : Int) (d : ByteArray) (w : World) (h1 : (c != 1) = false) (h2 : decide (t ≤ 3) = true)
    (HR : Hid (∀ w, Calls Try.prog 13 #[pk c i t d] w fun e w' => e = .returned (.bool true) ∧ Below w.heap.size w w')) :
    Calls Try.prog 21 #[pk c i t d, .slice A l.length cap] w fun e w' => e = .returned (.tuple #[pk 0 0 0 ⟨#[]⟩, .bool false]) ∧ Below w.heap.size w w' := by
  go_enter Try.func21, Try.ntmps21
  go_wp2_with fail
  refine (HR.out _).mono ?_; rintro e w1 ⟨rfl, hb1⟩
  obtain ⟨hc1, hf1⟩ := Bx.bcell hb1
  have hz1 : w.heap.size + 1 < w1.heap.size := by have := hb1.size; simp at this; omega
  have HS := Bx.cell_set
  have BX := Lib.hid (Bx.then_below (box_below2 w (Obj.cells #[.int .i64 c, .int .i64 i, .int .i64 t, .string d] 23) (Obj.cells #[.int .i64 0, .int .i64 0, .int .i64 0, .string ⟨#[]⟩] 23)) hb1)
  go_wp2_with fail
  refine bodyPost_ret (v := .tuple #[pk 0 0 0 ⟨#[]⟩, .bool false]) ?_ rfl ⟨rfl, ?_⟩
  · simp [results, Try.results21, go_sem, hc1, HS]
  · (iterate 4 refine Below.setCell ?_ (by simp) _); exact BX.out

theorem mem_next (l : List Int) (k : Nat) (h : k < l.length) (t : Int) (h1 : t ∉ l.take k) (h2 : l[k] ≠ t) : t ∉ l.take (k + 1) := by
  rw [take_next l k h, List.mem_append]
  rintro (h3 | h3)
  · exact h1 h3
  · simp at h3; exact h2 h3.symm

theorem wire_snoc (o : List UInt8) (x : Nat) : ofL o ++ (⟨(putL x 1).toArray⟩ : ByteArray) = ofL (o ++ [byteOf x]) := by
  rw [ofL_append]
  rfl

set_option maxRecDepth 100000 in
set_option maxHeartbeats 2000000 in
theorem rrefuse_loop (A : Option Addr) (l : List Int) (cap : Nat) (c i t : Int) (d : ByteArray) (w : World) (h1 : (c != 1) = false) (h2 : decide (t ≤ 3) = false) (hl : l.length ≤ 9223372036854775807) (hI : Hid (Bx.Ints w A l)) (r : ByteArray) (q : Bool) (Hr : Hid (wishD l = r)) (Hq : Hid (decide (t ∈ l) = q))
    (HR : Hid (∀ w, Calls Try.prog 13 #[pk c i t d] w fun e w' => e = .returned (.bool true) ∧ Below w.heap.size w w')) :
    Calls Try.prog 21 #[pk c i t d, .slice A l.length cap] w fun e w' => e = .returned (.tuple #[if q then pk 0 0 0 ⟨#[]⟩ else pk 2 i 3 r, .bool (!q)]) ∧ Below w.heap.size w w' := by
  go_enter Try.func21, Try.ntmps21
  go_wp2_with fail
  refine (HR.out _).mono ?_; rintro e w1 ⟨rfl, hb1⟩
  obtain ⟨hc1, hf1⟩ := Bx.bcell hb1
  have hz1 : w.heap.size + 1 < w1.heap.size := by have := hb1.size; simp at this; omega
  have HS := Bx.cell_set
  have BX := Lib.hid (Bx.then_below (box_below2 w (Obj.cells #[.int .i64 c, .int .i64 i, .int .i64 t, .string d] 23) (Obj.cells #[.int .i64 0, .int .i64 0, .int .i64 0, .string ⟨#[]⟩] 23)) hb1)
  go_wp2_with fail
  have c1 : w1.cell? ⟨w.heap.size, 1, none⟩ = some (.int .i64 i) := by rw [hc1 _ _ (by simp; omega)]; simp
  have c2 : w1.cell? ⟨w.heap.size, 2, none⟩ = some (.int .i64 t) := by rw [hc1 _ _ (by simp; omega)]; simp
  have d0 : w1.cell? ⟨w.heap.size + 1, 0, none⟩ = some (.int .i64 0) := by rw [hc1 _ _ (by simp)]; simp
  have e0 : w1.frozen? ⟨w.heap.size + 1, 0, none⟩ = false := by rw [hf1 _ _ (by simp)]; simp
  have d1 : w1.cell? ⟨w.heap.size + 1, 1, none⟩ = some (.int .i64 0) := by rw [hc1 _ _ (by simp)]; simp
  have e1 : w1.frozen? ⟨w.heap.size + 1, 1, none⟩ = false := by rw [hf1 _ _ (by simp)]; simp
  have d2 : w1.cell? ⟨w.heap.size + 1, 2, none⟩ = some (.int .i64 0) := by rw [hc1 _ _ (by simp)]; simp
  have e2 : w1.frozen? ⟨w.heap.size + 1, 2, none⟩ = false := by rw [hf1 _ _ (by simp)]; simp
  have d3 : w1.cell? ⟨w.heap.size + 1, 3, none⟩ = some (.string ⟨#[]⟩) := by rw [hc1 _ _ (by simp)]; simp
  have e3 : w1.frozen? ⟨w.heap.size + 1, 3, none⟩ = false := by rw [hf1 _ _ (by simp)]; simp
  have HH := Lib.hid (And.intro (And.intro c1 c2) (And.intro (And.intro d0 (And.intro d1 (And.intro d2 d3))) (And.intro e0 (And.intro e1 (And.intro e2 e3)))))
  clear hc1 hf1 c1 c2 d0 e0 d1 e1 d2 e2 d3 e3
  go_loopw [6, 8, 25] (fun v _ ix wr => ∃ (k : Nat) (o : ByteArray), k ≤ l.length ∧ ix = .int .i64 k ∧ v = .string o ∧ o.size ≤ 250 ∧ Aside (o = ofL (wishL (l.take k) [])) ∧ Aside (t ∉ l.take k) ∧ Aside (Below w1.heap.size w1 wr)) (fun _ _ ix _ => l.length - (intOf ix).toNat)
  case atStart => exact ⟨0, ⟨#[]⟩, Nat.zero_le _, rfl, rfl, Nat.zero_le _, rfl, fun h => by simp at h, Below.refl _ _⟩
  case round =>
    obtain ⟨k, o, hk, rfl, rfl, ho, HO, HT, HB⟩ := hrel
    have hB := HB.out
    obtain ⟨⟨c1, c2⟩, ⟨d0, d1, d2, d3⟩, e0, e1, e2, e3⟩ := HH.out
    replace c1 := Bx.keep_cell hB c1
    replace c2 := Bx.keep_cell hB c2
    replace d0 := Bx.keep_cell hB d0
    replace e0 := keep_frozen hB hz1 e0
    replace d1 := Bx.keep_cell hB d1
    replace e1 := keep_frozen hB hz1 e1
    replace d2 := Bx.keep_cell hB d2
    replace e2 := keep_frozen hB hz1 e2
    replace d3 := Bx.keep_cell hB d3
    replace e3 := keep_frozen hB hz1 e3
    have hz2 : w.heap.size + 1 < wr.heap.size := Nat.lt_of_lt_of_le hz1 hB.size
    have HF := Lib.hid (Bx.then_below BX.out hB)
    clear hB
    by_cases hlt : k < l.length
    · obtain ⟨ad, rfl, hab, hc⟩ := (hI.out.below HF.out).at hlt
      by_cases hx : l[k] = t
      · obtain rfl : q = true := by have := Hq.out; rw [← this, decide_eq_true_iff, ← hx]; exact List.getElem_mem hlt
        generalize l[k] = x at *
        have z1 : (x == t) = true := by simpa using hx
        clear hx
        go_wp2_with fail
        refine bodyPost_ret (v := .tuple #[pk 0 0 0 ⟨#[]⟩, .bool false]) ?_ rfl ⟨rfl, ?_⟩
        · simp [results, Try.results21, go_sem, HS, d0, d1, d2, d3]
        · (iterate 4 refine Below.setCell ?_ (by simp) _); exact HF.out
      have HM := Lib.hid (mem_next l k hlt t HT.out hx)
      by_cases h5 : 4 ≤ l[k] ∧ l[k] ≤ 255
      · by_cases h6 : o.size < 250
        · have HN := Lib.hid (wish_hit l k hlt _ rfl h5 (by have := HO.out; rw [this, ofL_size] at h6; exact h6))
          generalize l[k] = x at *
          obtain ⟨n, rfl⟩ : ∃ n : Nat, x = n := ⟨x.toNat, by omega⟩
          have z1 : ((n : Int) == t) = false := by simpa using hx
          have z2 : 3 < (n : Int) := by omega
          have z3 : (n : Int) < 256 := by omega
          have z4 : IntKind.u64.wrap (n : Int) = n := by rw [IntKind.wrap_u64]; omega
          have HP := Lib.hid (fun w => rput_any n (by omega) 1 w)
          have zp : (⟨(putL n 1).toArray⟩ : ByteArray).size = 1 := put_size n 1
          have HS2 := Lib.hid (wire_snoc (wishL (l.take k) []) n)
          obtain ⟨P, hP⟩ : ∃ P : ByteArray, P = ⟨(putL n 1).toArray⟩ := ⟨_, rfl⟩
          have HP2 : Hid (∀ w, Calls Try.prog 28 #[.int .u64 n, .int .i64 1] w fun e w' => e = .returned (.string P) ∧ Below w.heap.size w w') := Lib.hid (by rw [hP]; exact HP.out)
          rw [← hP] at HS2 zp
          have z5 : ¬ (o.size + P.size > 9223372036854775807) := by omega
          clear hx h5 hP HP
          go_wp2_with fail
          refine (HP2.out _).mono ?_; rintro e w2 ⟨rfl, hb2⟩
          go_wp2
          go_roundw
          case rel =>
            refine ⟨k + 1, o ++ P, by omega, by go_num, rfl, by rw [ByteArray.size_append]; omega, ?_, HM.out, Bx.then_below HB.out hb2⟩
            show o ++ P = _
            rw [HN.out, ← HS2.out, ← HO.out]
          case measure => simp [intOf]; omega
        · have HN := Lib.hid (wish_miss l k hlt _ rfl (fun h => h6 (by have := HO.out; rw [this, ofL_size]; exact h.2)))
          generalize l[k] = x at *
          have z1 : (x == t) = false := by simpa using hx
          have z2 : 3 < x := by omega
          have z3 : x < 256 := by omega
          clear hx h5
          go_wp2
          go_roundw
          case rel =>
            refine ⟨k + 1, o, by omega, by go_num, rfl, ho, ?_, HM.out, HB.out⟩
            show o = _
            rw [HN.out]; exact HO.out
          case measure => simp [intOf]; omega
      · have HN := Lib.hid (wish_miss l k hlt _ rfl (fun h => h5 h.1))
        generalize l[k] = x at *
        have z1 : (x == t) = false := by simpa using hx
        rcases (show x ≤ 3 ∨ 3 < x ∧ 256 ≤ x by omega) with z2 | ⟨z2, z3⟩ <;>
        · clear hx h5
          go_wp2
          go_roundw
          case rel =>
            refine ⟨k + 1, o, by omega, by go_num, rfl, ho, ?_, HM.out, HB.out⟩
            show o = _
            rw [HN.out]; exact HO.out
          case measure => simp [intOf]; omega
    · obtain rfl : q = false := by have h7 := Hq.out; have h8 := HT.out; rw [List.take_of_length_le (by omega)] at h8; rw [← h7, decide_eq_false_iff_not]; exact h8
      have hO : o = ofL (wishL l []) := by have h8 := HO.out; rw [List.take_of_length_le (by omega)] at h8; exact h8
      have hR := Hr.out
      unfold wishD at hR
      by_cases h0 : wishL l [] = []
      · rw [if_pos h0] at hR
        rw [h0] at hO
        subst hO
        have HR2 := Lib.hid hR
        clear hR h0
        go_wp2_with fail
        refine bodyPost_ret (v := .tuple #[pk 2 i 3 ⟨#[0]⟩, .bool true]) ?_ rfl ⟨by rw [← HR2.out], ?_⟩
        · simp [results, Try.results21, go_sem, HS, d0, d1, d2, d3]
        · (iterate 4 refine Below.setCell ?_ (by simp) _); exact HF.out
      · rw [if_neg h0, ← hO] at hR
        subst hR
        have z1 : o ≠ ⟨#[]⟩ := fun h => h0 (by rw [hO] at h; exact ofL_inj h)
        have z2 := full_list z1
        clear hO h0 z1
        go_wp2_with fail
        refine bodyPost_ret (v := .tuple #[pk 2 i 3 o, .bool true]) ?_ rfl ⟨rfl, ?_⟩
        · simp [results, Try.results21, go_sem, HS, d0, d1, d2, d3]
        · (iterate 4 refine Below.setCell ?_ (by simp) _); exact HF.out

theorem rrefuse_any (A : Option Addr) (l : List Int) (cap : Nat) (c i t : Int) (d : ByteArray) (w : World) (hl : l.length ≤ 9223372036854775807) (hd : d.size ≤ 9223372036854775807) (hI : Hid (Bx.Ints w A l)) :
    Calls Try.prog 21 #[pk c i t d, .slice A l.length cap] w fun e w' => e = .returned (.tuple #[refD c i t d l, .bool (refB c i t d l)]) ∧ Below w.heap.size w w' := by
  have HR := fun w => rright_any c i t d w hd
  unfold refD refB
  cases hr : rightP c i t d
  · rw [hr] at HR
    exact rrefuse_right A l cap c i t d w (Lib.hid HR)
  rw [hr] at HR
  simp only [Bool.true_and]
  by_cases h1 : c = 1
  case neg =>
    rw [decide_eq_false (fun h => h1 h.1)]
    exact rrefuse_code A l cap c i t d w (by simpa using h1) (Lib.hid HR)
  by_cases h2 : 3 < t
  case neg =>
    rw [decide_eq_false (fun h => h2 h.2.1)]
    exact rrefuse_low A l cap c i t d w (by simpa using h1) (decide_eq_true (by omega)) (Lib.hid HR)
  have h := rrefuse_loop A l cap c i t d w (by simpa using h1) (decide_eq_false (by omega)) hl hI (wishD l) (decide (t ∈ l)) (Lib.hid rfl) (Lib.hid rfl) (Lib.hid HR)
  by_cases h3 : t ∈ l
  · rw [decide_eq_false (fun h => h.2.2 h3)]
    rw [decide_eq_true h3] at h
    exact h
  · rw [decide_eq_true ⟨h1, h2, h3⟩]
    rw [decide_eq_false h3] at h
    exact h

end Eap
end Go.Proofs.Ytmgjjcadeikdgaa
