/-
  What ether.Right, and the document's answer beside it, say of any frame; and that they change nothing that was there.
-/
import Derived.Test.YtdnpmajehnddkaaEthA
import Derived.Deep.QuietTactic
import Derived.BigQuiet
import Derived.WalkSmall
import Derived.Deep.RegionHeld3
namespace Go.Proofs.Ytdnpmajehnddkaa
open Go.RowKit
namespace Eth
open Oct Mac

/-- Whether a frame can stand on a wire. -/
def rightF (d s : Nat) (g : Bool) (p v t : Int) (b : ByteArray) : Bool :=
  decide (d < 281474976710656 ∧ s < 281474976710656 ∧ 0 ≤ t ∧ t ≤ 65535 ∧ t ≠ 33024 ∧ (g = true ∧ 0 ≤ p ∧ p ≤ 7 ∧ 0 ≤ v ∧ v ≤ 4095 ∧ b.size ≤ 9198 ∨ g = false ∧ p = 0 ∧ v = 0 ∧ b.size ≤ 9202))

theorem headOf_q (g : Bool) (w : World) : Calls Try.prog 27 #[.bool g] w fun e w' => e = .returned (.int .i64 (if g then 18 else 14)) ∧ w' = w :=
  (headOf_any g w).mono fun _ _ h => ⟨h.1, h.2.symm⟩

def withinB (n last : Int) : Bool := decide (0 ≤ n ∧ n ≤ last)

theorem withinB_any (n last : Int) (w : World) : Calls Try.prog 26 #[.int .i64 n, .int .i64 last] w fun e w' => e = .returned (.bool (withinB n last)) ∧ w = w' := within_any n last w

theorem box_below (w : World) (o : Obj) : Below w.heap.size w (w.alloc o) := (Below.refl _ _).alloc (Nat.le_refl _) _

set_option maxHeartbeats 400000 in
theorem right_any (d s : Nat) (g : Bool) (p v t : Int) (b : ByteArray) (w : World) (hb : b.size ≤ 9223372036854775807) :
    Calls Try.prog 23 #[fr d s g p v t b] w fun e w' => e = .returned (.bool (rightF d s g p v t b)) ∧ Below w.heap.size w w' := by
  cases hd : rightB d
  · have hR : rightF d s g p v t b = false := by unfold rightB at hd; unfold rightF; simp at hd ⊢; omega
    rw [hR]; clear hR
    go_enter Try.func23, Try.ntmps23
    go_wp2_with fail
    refine (Mac.right_any d _).mono ?_; rintro e w' ⟨rfl, rfl⟩
    go_wp2_with fail
    go_ret
    exact ⟨rfl, box_below _ _⟩
  cases hs : rightB s
  · have hR : rightF d s g p v t b = false := by unfold rightB at hs; unfold rightF; simp at hs ⊢; omega
    rw [hR]; clear hR
    go_enter Try.func23, Try.ntmps23
    go_wp2_with fail
    refine (Mac.right_any d _).mono ?_; rintro e w' ⟨rfl, rfl⟩
    go_wp2_with fail
    refine (Mac.right_any s _).mono ?_; rintro e w' ⟨rfl, rfl⟩
    go_wp2_with fail
    go_ret
    exact ⟨rfl, box_below _ _⟩
  cases ht : withinB t 65535
  · have hR : rightF d s g p v t b = false := by unfold withinB at ht; unfold rightF; simp at ht ⊢; omega
    rw [hR]; clear hR
    go_enter Try.func23, Try.ntmps23
    go_wp2_with fail
    refine (Mac.right_any d _).mono ?_; rintro e w' ⟨rfl, rfl⟩
    go_wp2_with fail
    refine (Mac.right_any s _).mono ?_; rintro e w' ⟨rfl, rfl⟩
    go_wp2_with fail
    refine (withinB_any t 65535 _).mono ?_; rintro e w' ⟨rfl, rfl⟩
    go_wp2_with fail
    go_ret
    exact ⟨rfl, box_below _ _⟩
  by_cases ht2 : t = 33024
  · have hR : rightF d s g p v t b = false := by unfold rightF; simp; omega
    rw [hR]; clear hR
    subst ht2
    go_enter Try.func23, Try.ntmps23
    go_wp2_with fail
    refine (Mac.right_any d _).mono ?_; rintro e w' ⟨rfl, rfl⟩
    go_wp2_with fail
    refine (Mac.right_any s _).mono ?_; rintro e w' ⟨rfl, rfl⟩
    go_wp2_with fail
    refine (withinB_any 33024 65535 _).mono ?_; rintro e w' ⟨rfl, rfl⟩
    go_wp2_with fail
    go_ret
    exact ⟨rfl, box_below _ _⟩
  have ht3 : (t == 33024) = false := by simpa using ht2
  have HR : Hid (rightF d s g p v t b = decide (g = true ∧ 0 ≤ p ∧ p ≤ 7 ∧ 0 ≤ v ∧ v ≤ 4095 ∧ b.size ≤ 9198 ∨ g = false ∧ p = 0 ∧ v = 0 ∧ b.size ≤ 9202)) := by
    show _ = _
    unfold rightB at hd hs
    unfold withinB at ht
    unfold rightF
    simp at hd hs ht
    rw [Bool.eq_iff_iff]
    simp [hd, hs, ht, ht2]
  generalize rightF d s g p v t b = R at *
  cases g
  · have e14 : IntKind.i64.wrap (9216 - (if false = true then (18 : Int) else 14)) = 9202 := by decide
    have HR' : Hid (R = decide (p = 0 ∧ v = 0 ∧ b.size ≤ 9202)) := by
      show _ = _
      rw [HR.out]; simp
    clear HR
    by_cases hz : 9202 < b.size
    · obtain rfl : R = false := by rw [HR'.out]; simp; omega
      clear HR'
      go_enter Try.func23, Try.ntmps23
      go_wp2_with fail
      refine (Mac.right_any d _).mono ?_; rintro e w' ⟨rfl, rfl⟩
      go_wp2_with fail
      refine (Mac.right_any s _).mono ?_; rintro e w' ⟨rfl, rfl⟩
      go_wp2_with fail
      refine (withinB_any t 65535 _).mono ?_; rintro e w' ⟨rfl, rfl⟩
      go_wp2_with fail
      go_quiet ((go_at_call 27; exact Calls.quiet_of_same (headOf_q _ _)))
      have bel : Below w.heap.size w ((w.alloc (Obj.cells #[Value.int IntKind.u64 d, Value.int IntKind.u64 s, Value.bool false, Value.int IntKind.i64 p, Value.int IntKind.i64 v, Value.int IntKind.i64 t, Value.string b] 34)).drewN nq) := below_drewN (box_below _ _) nq
      go_wp2_with fail
      go_ret
      exact ⟨rfl, bel⟩
    · by_cases hp : p = 0
      case neg =>
        have hpb : (p == 0) = false := by simpa using hp
        obtain rfl : R = false := by rw [HR'.out]; simp [hp]
        clear HR'
        go_enter Try.func23, Try.ntmps23
        go_wp2_with fail
        refine (Mac.right_any d _).mono ?_; rintro e w' ⟨rfl, rfl⟩
        go_wp2_with fail
        refine (Mac.right_any s _).mono ?_; rintro e w' ⟨rfl, rfl⟩
        go_wp2_with fail
        refine (withinB_any t 65535 _).mono ?_; rintro e w' ⟨rfl, rfl⟩
        go_wp2_with fail
        go_quiet ((go_at_call 27; exact Calls.quiet_of_same (headOf_q _ _)))
        have bel : Below w.heap.size w ((w.alloc (Obj.cells #[Value.int IntKind.u64 d, Value.int IntKind.u64 s, Value.bool false, Value.int IntKind.i64 p, Value.int IntKind.i64 v, Value.int IntKind.i64 t, Value.string b] 34)).drewN nq) := below_drewN (box_below _ _) nq
        go_wp2_with fail
        have c0 : ((w.alloc (Obj.cells #[Value.int IntKind.u64 d, Value.int IntKind.u64 s, Value.bool false, Value.int IntKind.i64 p, Value.int IntKind.i64 v, Value.int IntKind.i64 t, Value.string b] 34)).drewN nq).cell? ⟨w.heap.size, 0, none⟩ = some (.int .u64 d) := by simp
        have c1 : ((w.alloc (Obj.cells #[Value.int IntKind.u64 d, Value.int IntKind.u64 s, Value.bool false, Value.int IntKind.i64 p, Value.int IntKind.i64 v, Value.int IntKind.i64 t, Value.string b] 34)).drewN nq).cell? ⟨w.heap.size, 1, none⟩ = some (.int .u64 s) := by simp
        have c2 : ((w.alloc (Obj.cells #[Value.int IntKind.u64 d, Value.int IntKind.u64 s, Value.bool false, Value.int IntKind.i64 p, Value.int IntKind.i64 v, Value.int IntKind.i64 t, Value.string b] 34)).drewN nq).cell? ⟨w.heap.size, 2, none⟩ = some (.bool false) := by simp
        have c3 : ((w.alloc (Obj.cells #[Value.int IntKind.u64 d, Value.int IntKind.u64 s, Value.bool false, Value.int IntKind.i64 p, Value.int IntKind.i64 v, Value.int IntKind.i64 t, Value.string b] 34)).drewN nq).cell? ⟨w.heap.size, 3, none⟩ = some (.int .i64 p) := by simp
        have c4 : ((w.alloc (Obj.cells #[Value.int IntKind.u64 d, Value.int IntKind.u64 s, Value.bool false, Value.int IntKind.i64 p, Value.int IntKind.i64 v, Value.int IntKind.i64 t, Value.string b] 34)).drewN nq).cell? ⟨w.heap.size, 4, none⟩ = some (.int .i64 v) := by simp
        have c5 : ((w.alloc (Obj.cells #[Value.int IntKind.u64 d, Value.int IntKind.u64 s, Value.bool false, Value.int IntKind.i64 p, Value.int IntKind.i64 v, Value.int IntKind.i64 t, Value.string b] 34)).drewN nq).cell? ⟨w.heap.size, 5, none⟩ = some (.int .i64 t) := by simp
        have c6 : ((w.alloc (Obj.cells #[Value.int IntKind.u64 d, Value.int IntKind.u64 s, Value.bool false, Value.int IntKind.i64 p, Value.int IntKind.i64 v, Value.int IntKind.i64 t, Value.string b] 34)).drewN nq).cell? ⟨w.heap.size, 6, none⟩ = some (.string b) := by simp
        generalize (w.alloc (Obj.cells #[Value.int IntKind.u64 d, Value.int IntKind.u64 s, Value.bool false, Value.int IntKind.i64 p, Value.int IntKind.i64 v, Value.int IntKind.i64 t, Value.string b] 34)).drewN nq = W0 at *
        go_region_held3 (fun w' => w'.cell? ⟨w.heap.size, 0, none⟩ = some (.int .u64 d) ∧ w'.cell? ⟨w.heap.size, 1, none⟩ = some (.int .u64 s) ∧ w'.cell? ⟨w.heap.size, 2, none⟩ = some (.bool false) ∧ w'.cell? ⟨w.heap.size, 3, none⟩ = some (.int .i64 p) ∧ w'.cell? ⟨w.heap.size, 4, none⟩ = some (.int .i64 v) ∧ w'.cell? ⟨w.heap.size, 5, none⟩ = some (.int .i64 t) ∧ w'.cell? ⟨w.heap.size, 6, none⟩ = some (.string b))
          (first | go_keep | (go_split_ands; exact ⟨keep_cell (by assumption) (by assumption), keep_cell (by assumption) (by assumption), keep_cell (by assumption) (by assumption), keep_cell (by assumption) (by assumption), keep_cell (by assumption) (by assumption), keep_cell (by assumption) (by assumption), keep_cell (by assumption) (by assumption)⟩))
          (first | (go_at_call 28; refine (retag_any _ _ _ _ _ _ _ _ _ _).mono ?_; rintro e w4 ⟨rfl, hb4⟩))
        go_wp2
        go_ret
        exact ⟨rfl, bel.drew.trans (hb4.mono bel.size)⟩
      subst hp
      by_cases hv : v = 0
      case neg =>
        have hvb : (v == 0) = false := by simpa using hv
        obtain rfl : R = false := by rw [HR'.out]; simp [hv]
        clear HR'
        go_enter Try.func23, Try.ntmps23
        go_wp2_with fail
        refine (Mac.right_any d _).mono ?_; rintro e w' ⟨rfl, rfl⟩
        go_wp2_with fail
        refine (Mac.right_any s _).mono ?_; rintro e w' ⟨rfl, rfl⟩
        go_wp2_with fail
        refine (withinB_any t 65535 _).mono ?_; rintro e w' ⟨rfl, rfl⟩
        go_wp2_with fail
        go_quiet ((go_at_call 27; exact Calls.quiet_of_same (headOf_q _ _)))
        have bel : Below w.heap.size w ((w.alloc (Obj.cells #[Value.int IntKind.u64 d, Value.int IntKind.u64 s, Value.bool false, Value.int IntKind.i64 0, Value.int IntKind.i64 v, Value.int IntKind.i64 t, Value.string b] 34)).drewN nq) := below_drewN (box_below _ _) nq
        go_wp2_with fail
        have c0 : ((w.alloc (Obj.cells #[Value.int IntKind.u64 d, Value.int IntKind.u64 s, Value.bool false, Value.int IntKind.i64 0, Value.int IntKind.i64 v, Value.int IntKind.i64 t, Value.string b] 34)).drewN nq).cell? ⟨w.heap.size, 0, none⟩ = some (.int .u64 d) := by simp
        have c1 : ((w.alloc (Obj.cells #[Value.int IntKind.u64 d, Value.int IntKind.u64 s, Value.bool false, Value.int IntKind.i64 0, Value.int IntKind.i64 v, Value.int IntKind.i64 t, Value.string b] 34)).drewN nq).cell? ⟨w.heap.size, 1, none⟩ = some (.int .u64 s) := by simp
        have c2 : ((w.alloc (Obj.cells #[Value.int IntKind.u64 d, Value.int IntKind.u64 s, Value.bool false, Value.int IntKind.i64 0, Value.int IntKind.i64 v, Value.int IntKind.i64 t, Value.string b] 34)).drewN nq).cell? ⟨w.heap.size, 2, none⟩ = some (.bool false) := by simp
        have c3 : ((w.alloc (Obj.cells #[Value.int IntKind.u64 d, Value.int IntKind.u64 s, Value.bool false, Value.int IntKind.i64 0, Value.int IntKind.i64 v, Value.int IntKind.i64 t, Value.string b] 34)).drewN nq).cell? ⟨w.heap.size, 3, none⟩ = some (.int .i64 0) := by simp
        have c4 : ((w.alloc (Obj.cells #[Value.int IntKind.u64 d, Value.int IntKind.u64 s, Value.bool false, Value.int IntKind.i64 0, Value.int IntKind.i64 v, Value.int IntKind.i64 t, Value.string b] 34)).drewN nq).cell? ⟨w.heap.size, 4, none⟩ = some (.int .i64 v) := by simp
        have c5 : ((w.alloc (Obj.cells #[Value.int IntKind.u64 d, Value.int IntKind.u64 s, Value.bool false, Value.int IntKind.i64 0, Value.int IntKind.i64 v, Value.int IntKind.i64 t, Value.string b] 34)).drewN nq).cell? ⟨w.heap.size, 5, none⟩ = some (.int .i64 t) := by simp
        have c6 : ((w.alloc (Obj.cells #[Value.int IntKind.u64 d, Value.int IntKind.u64 s, Value.bool false, Value.int IntKind.i64 0, Value.int IntKind.i64 v, Value.int IntKind.i64 t, Value.string b] 34)).drewN nq).cell? ⟨w.heap.size, 6, none⟩ = some (.string b) := by simp
        generalize (w.alloc (Obj.cells #[Value.int IntKind.u64 d, Value.int IntKind.u64 s, Value.bool false, Value.int IntKind.i64 0, Value.int IntKind.i64 v, Value.int IntKind.i64 t, Value.string b] 34)).drewN nq = W0 at *
        go_region_held3 (fun w' => w'.cell? ⟨w.heap.size, 0, none⟩ = some (.int .u64 d) ∧ w'.cell? ⟨w.heap.size, 1, none⟩ = some (.int .u64 s) ∧ w'.cell? ⟨w.heap.size, 2, none⟩ = some (.bool false) ∧ w'.cell? ⟨w.heap.size, 3, none⟩ = some (.int .i64 0) ∧ w'.cell? ⟨w.heap.size, 4, none⟩ = some (.int .i64 v) ∧ w'.cell? ⟨w.heap.size, 5, none⟩ = some (.int .i64 t) ∧ w'.cell? ⟨w.heap.size, 6, none⟩ = some (.string b))
          (first | go_keep | (go_split_ands; exact ⟨keep_cell (by assumption) (by assumption), keep_cell (by assumption) (by assumption), keep_cell (by assumption) (by assumption), keep_cell (by assumption) (by assumption), keep_cell (by assumption) (by assumption), keep_cell (by assumption) (by assumption), keep_cell (by assumption) (by assumption)⟩))
          (first | (go_at_call 28; refine (retag_any _ _ _ _ _ _ _ _ _ _).mono ?_; rintro e w4 ⟨rfl, hb4⟩))
        go_wp2
        go_ret
        exact ⟨rfl, bel.drew.trans (hb4.mono bel.size)⟩
      case pos =>
        subst hv
        obtain rfl : R = true := by rw [HR'.out]; simp; omega
        clear HR'
        go_enter Try.func23, Try.ntmps23
        go_wp2_with fail
        refine (Mac.right_any d _).mono ?_; rintro e w' ⟨rfl, rfl⟩
        go_wp2_with fail
        refine (Mac.right_any s _).mono ?_; rintro e w' ⟨rfl, rfl⟩
        go_wp2_with fail
        refine (withinB_any t 65535 _).mono ?_; rintro e w' ⟨rfl, rfl⟩
        go_wp2_with fail
        go_quiet ((go_at_call 27; exact Calls.quiet_of_same (headOf_q _ _)))
        have bel : Below w.heap.size w ((w.alloc (Obj.cells #[Value.int IntKind.u64 d, Value.int IntKind.u64 s, Value.bool false, Value.int IntKind.i64 0, Value.int IntKind.i64 0, Value.int IntKind.i64 t, Value.string b] 34)).drewN nq) := below_drewN (box_below _ _) nq
        go_wp2_with fail
        have c0 : ((w.alloc (Obj.cells #[Value.int IntKind.u64 d, Value.int IntKind.u64 s, Value.bool false, Value.int IntKind.i64 0, Value.int IntKind.i64 0, Value.int IntKind.i64 t, Value.string b] 34)).drewN nq).cell? ⟨w.heap.size, 0, none⟩ = some (.int .u64 d) := by simp
        have c1 : ((w.alloc (Obj.cells #[Value.int IntKind.u64 d, Value.int IntKind.u64 s, Value.bool false, Value.int IntKind.i64 0, Value.int IntKind.i64 0, Value.int IntKind.i64 t, Value.string b] 34)).drewN nq).cell? ⟨w.heap.size, 1, none⟩ = some (.int .u64 s) := by simp
        have c2 : ((w.alloc (Obj.cells #[Value.int IntKind.u64 d, Value.int IntKind.u64 s, Value.bool false, Value.int IntKind.i64 0, Value.int IntKind.i64 0, Value.int IntKind.i64 t, Value.string b] 34)).drewN nq).cell? ⟨w.heap.size, 2, none⟩ = some (.bool false) := by simp
        have c3 : ((w.alloc (Obj.cells #[Value.int IntKind.u64 d, Value.int IntKind.u64 s, Value.bool false, Value.int IntKind.i64 0, Value.int IntKind.i64 0, Value.int IntKind.i64 t, Value.string b] 34)).drewN nq).cell? ⟨w.heap.size, 3, none⟩ = some (.int .i64 0) := by simp
        have c4 : ((w.alloc (Obj.cells #[Value.int IntKind.u64 d, Value.int IntKind.u64 s, Value.bool false, Value.int IntKind.i64 0, Value.int IntKind.i64 0, Value.int IntKind.i64 t, Value.string b] 34)).drewN nq).cell? ⟨w.heap.size, 4, none⟩ = some (.int .i64 0) := by simp
        have c5 : ((w.alloc (Obj.cells #[Value.int IntKind.u64 d, Value.int IntKind.u64 s, Value.bool false, Value.int IntKind.i64 0, Value.int IntKind.i64 0, Value.int IntKind.i64 t, Value.string b] 34)).drewN nq).cell? ⟨w.heap.size, 5, none⟩ = some (.int .i64 t) := by simp
        have c6 : ((w.alloc (Obj.cells #[Value.int IntKind.u64 d, Value.int IntKind.u64 s, Value.bool false, Value.int IntKind.i64 0, Value.int IntKind.i64 0, Value.int IntKind.i64 t, Value.string b] 34)).drewN nq).cell? ⟨w.heap.size, 6, none⟩ = some (.string b) := by simp
        generalize (w.alloc (Obj.cells #[Value.int IntKind.u64 d, Value.int IntKind.u64 s, Value.bool false, Value.int IntKind.i64 0, Value.int IntKind.i64 0, Value.int IntKind.i64 t, Value.string b] 34)).drewN nq = W0 at *
        go_region_held3 (fun w' => w'.cell? ⟨w.heap.size, 0, none⟩ = some (.int .u64 d) ∧ w'.cell? ⟨w.heap.size, 1, none⟩ = some (.int .u64 s) ∧ w'.cell? ⟨w.heap.size, 2, none⟩ = some (.bool false) ∧ w'.cell? ⟨w.heap.size, 3, none⟩ = some (.int .i64 0) ∧ w'.cell? ⟨w.heap.size, 4, none⟩ = some (.int .i64 0) ∧ w'.cell? ⟨w.heap.size, 5, none⟩ = some (.int .i64 t) ∧ w'.cell? ⟨w.heap.size, 6, none⟩ = some (.string b))
          (first | go_keep | (go_split_ands; exact ⟨keep_cell (by assumption) (by assumption), keep_cell (by assumption) (by assumption), keep_cell (by assumption) (by assumption), keep_cell (by assumption) (by assumption), keep_cell (by assumption) (by assumption), keep_cell (by assumption) (by assumption), keep_cell (by assumption) (by assumption)⟩))
          (first | (go_at_call 28; refine (retag_any _ _ _ _ _ _ _ _ _ _).mono ?_; rintro e w4 ⟨rfl, hb4⟩))
        go_wp2
        go_ret
        exact ⟨rfl, bel.drew.trans (hb4.mono bel.size)⟩
  · have e18 : IntKind.i64.wrap (9216 - (if true = true then (18 : Int) else 14)) = 9198 := by decide
    have HR' : Hid (R = decide (0 ≤ p ∧ p ≤ 7 ∧ 0 ≤ v ∧ v ≤ 4095 ∧ b.size ≤ 9198)) := by
      show _ = _
      rw [HR.out]; simp
    clear HR
    by_cases hz : 9198 < b.size
    · obtain rfl : R = false := by rw [HR'.out]; simp; omega
      clear HR'
      go_enter Try.func23, Try.ntmps23
      go_wp2_with fail
      refine (Mac.right_any d _).mono ?_; rintro e w' ⟨rfl, rfl⟩
      go_wp2_with fail
      refine (Mac.right_any s _).mono ?_; rintro e w' ⟨rfl, rfl⟩
      go_wp2_with fail
      refine (withinB_any t 65535 _).mono ?_; rintro e w' ⟨rfl, rfl⟩
      go_wp2_with fail
      go_quiet ((go_at_call 27; exact Calls.quiet_of_same (headOf_q _ _)))
      have bel : Below w.heap.size w ((w.alloc (Obj.cells #[Value.int IntKind.u64 d, Value.int IntKind.u64 s, Value.bool true, Value.int IntKind.i64 p, Value.int IntKind.i64 v, Value.int IntKind.i64 t, Value.string b] 34)).drewN nq) := below_drewN (box_below _ _) nq
      go_wp2_with fail
      go_ret
      exact ⟨rfl, bel⟩
    · cases hp : withinB p 7
      · obtain rfl : R = false := by rw [HR'.out]; unfold withinB at hp; simp at hp ⊢; omega
        clear HR'
        go_enter Try.func23, Try.ntmps23
        go_wp2_with fail
        refine (Mac.right_any d _).mono ?_; rintro e w' ⟨rfl, rfl⟩
        go_wp2_with fail
        refine (Mac.right_any s _).mono ?_; rintro e w' ⟨rfl, rfl⟩
        go_wp2_with fail
        refine (withinB_any t 65535 _).mono ?_; rintro e w' ⟨rfl, rfl⟩
        go_wp2_with fail
        go_quiet ((go_at_call 27; exact Calls.quiet_of_same (headOf_q _ _)))
        have bel : Below w.heap.size w ((w.alloc (Obj.cells #[Value.int IntKind.u64 d, Value.int IntKind.u64 s, Value.bool true, Value.int IntKind.i64 p, Value.int IntKind.i64 v, Value.int IntKind.i64 t, Value.string b] 34)).drewN nq) := below_drewN (box_below _ _) nq
        go_wp2_with fail
        refine (withinB_any p 7 _).mono ?_; rintro e w' ⟨rfl, rfl⟩
        go_wp2_with fail
        go_ret
        exact ⟨rfl, bel⟩
      · obtain rfl : R = withinB v 4095 := by rw [HR'.out]; unfold withinB at hp ⊢; rw [Bool.eq_iff_iff]; simp at hp ⊢; omega
        clear HR'
        go_enter Try.func23, Try.ntmps23
        go_wp2_with fail
        refine (Mac.right_any d _).mono ?_; rintro e w' ⟨rfl, rfl⟩
        go_wp2_with fail
        refine (Mac.right_any s _).mono ?_; rintro e w' ⟨rfl, rfl⟩
        go_wp2_with fail
        refine (withinB_any t 65535 _).mono ?_; rintro e w' ⟨rfl, rfl⟩
        go_wp2_with fail
        go_quiet ((go_at_call 27; exact Calls.quiet_of_same (headOf_q _ _)))
        have bel : Below w.heap.size w ((w.alloc (Obj.cells #[Value.int IntKind.u64 d, Value.int IntKind.u64 s, Value.bool true, Value.int IntKind.i64 p, Value.int IntKind.i64 v, Value.int IntKind.i64 t, Value.string b] 34)).drewN nq) := below_drewN (box_below _ _) nq
        go_wp2_with fail
        refine (withinB_any p 7 _).mono ?_; rintro e w' ⟨rfl, rfl⟩
        go_wp2_with fail
        refine (withinB_any v 4095 _).mono ?_; rintro e w' ⟨rfl, rfl⟩
        go_wp2_with fail
        go_ret
        exact ⟨rfl, bel⟩

set_option maxHeartbeats 400000 in
theorem rright_any (d s : Nat) (g : Bool) (p v t : Int) (b : ByteArray) (w : World) (hb : b.size ≤ 9223372036854775807) :
    Calls Try.prog 24 #[fr d s g p v t b] w fun e w' => e = .returned (.bool (rightF d s g p v t b)) ∧ Below w.heap.size w w' := by
  cases hd : rightB d
  · have hR : rightF d s g p v t b = false := by unfold rightB at hd; unfold rightF; simp at hd ⊢; omega
    rw [hR]; clear hR
    go_enter Try.func24, Try.ntmps24
    go_wp2_with fail
    refine (Mac.rright_any d _).mono ?_; rintro e w' ⟨rfl, rfl⟩
    go_wp2_with fail
    go_ret
    exact ⟨rfl, box_below _ _⟩
  cases hs : rightB s
  · have hR : rightF d s g p v t b = false := by unfold rightB at hs; unfold rightF; simp at hs ⊢; omega
    rw [hR]; clear hR
    go_enter Try.func24, Try.ntmps24
    go_wp2_with fail
    refine (Mac.rright_any d _).mono ?_; rintro e w' ⟨rfl, rfl⟩
    go_wp2_with fail
    refine (Mac.rright_any s _).mono ?_; rintro e w' ⟨rfl, rfl⟩
    go_wp2_with fail
    go_ret
    exact ⟨rfl, box_below _ _⟩
  have HR : Hid (rightF d s g p v t b = decide (0 ≤ t ∧ t ≤ 65535 ∧ t ≠ 33024 ∧ (g = true ∧ 0 ≤ p ∧ p ≤ 7 ∧ 0 ≤ v ∧ v ≤ 4095 ∧ b.size ≤ 9198 ∨ g = false ∧ p = 0 ∧ v = 0 ∧ b.size ≤ 9202))) := by
    show _ = _
    unfold rightB at hd hs
    unfold rightF
    simp at hd hs
    rw [Bool.eq_iff_iff]
    simp [hd, hs]
  generalize rightF d s g p v t b = R at *
  obtain ⟨T, hT, hT'⟩ : ∃ T : Bool, (t == 33024) = T ∧ (T = true ↔ t = 33024) := ⟨_, rfl, by simp⟩
  cases g <;> cases T <;> simp at hT'
  all_goals
    go_enter Try.func24, Try.ntmps24
    go_wp2_with fail
    refine (Mac.rright_any d _).mono ?_; rintro e w' ⟨rfl, rfl⟩
    go_wp2_with fail
    refine (Mac.rright_any s _).mono ?_; rintro e w' ⟨rfl, rfl⟩
    go_wp2_with fail
  all_goals go_ret
  all_goals refine ⟨ret_bool ?_, box_below _ _⟩
  all_goals rw [HR.out, Bool.eq_iff_iff]
  all_goals simp
  all_goals omega

end Eth
end Go.Proofs.Ytdnpmajehnddkaa
