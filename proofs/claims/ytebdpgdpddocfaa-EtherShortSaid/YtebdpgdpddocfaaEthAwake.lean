/-
  The check of single answers that the statements of layer 3 end with (tipstafflaw03.awake) comes out true, whatever the memory, and changes nothing that was there.
-/
import Derived.Test.YtebdpgdpddocfaaEthH
namespace Go.Proofs.Ytebdpgdpddocfaa
open Go.RowKit
namespace Eth
open Oct Mac

theorem some_any (w : World) : Calls Try.prog 23 #[] w fun e w' => e = .returned (fr 1 2 true 5 10 2048 ⟨#[104, 105]⟩) ∧ Below w.heap.size w w' := by
  go_enter Try.func23, Try.ntmps23
  go_wp2
  refine bodyPost_ret (v := fr 1 2 true 5 10 2048 ⟨#[104, 105]⟩) ?_ rfl ⟨rfl, ?_⟩
  · simp [results, Try.results23, go_sem]
  · exact (Below.refl _ _).alloc (Nat.le_refl _) _

theorem eaw1 (w : World) : Calls Try.prog 9 #[fr 1 2 true 5 10 2048 ⟨#[104, 105]⟩] w fun e w' => e = .returned (.tuple #[.string ⟨#[0, 0, 0, 0, 0, 1, 0, 0, 0, 0, 0, 2, 129, 0, 160, 10, 8, 0, 104, 105]⟩, .int .i64 0]) ∧ Below w.heap.size w w' := by
  have h := bytes_any 1 2 true 5 10 2048 ⟨#[104, 105]⟩ w (by decide)
  rwa [show bytesS 1 2 true 5 10 2048 ⟨#[104, 105]⟩ = ⟨#[0, 0, 0, 0, 0, 1, 0, 0, 0, 0, 0, 2, 129, 0, 160, 10, 8, 0, 104, 105]⟩ by decide +kernel, show bytesE 1 2 true 5 10 2048 ⟨#[104, 105]⟩ = 0 by decide +kernel] at h
theorem eaw2 (w : World) : Calls Try.prog 11 #[.string ⟨#[0, 0, 0, 0, 0, 1, 0, 0, 0, 0, 0, 2, 129, 0, 160, 10, 8, 0, 104, 105]⟩] w fun e w' => e = .returned (.tuple #[fr 1 2 true 5 10 2048 ⟨#[104, 105]⟩, .int .i64 0]) ∧ Below w.heap.size w w' := by
  have h := read_any ⟨#[0, 0, 0, 0, 0, 1, 0, 0, 0, 0, 0, 2, 129, 0, 160, 10, 8, 0, 104, 105]⟩ w (by decide)
  rwa [show readV ⟨#[0, 0, 0, 0, 0, 1, 0, 0, 0, 0, 0, 2, 129, 0, 160, 10, 8, 0, 104, 105]⟩ = ⟨1, 2, true, 5, 10, 2048, ⟨#[104, 105]⟩⟩ by decide +kernel, show readE ⟨#[0, 0, 0, 0, 0, 1, 0, 0, 0, 0, 0, 2, 129, 0, 160, 10, 8, 0, 104, 105]⟩ = 0 by decide +kernel] at h
theorem eaw3 (w : World) : Calls Try.prog 11 #[.string ⟨#[115, 104, 111, 114, 116]⟩] w fun e w' => e = .returned (.tuple #[fr 0 0 false 0 0 0 ⟨#[]⟩, .int .i64 2]) ∧ Below w.heap.size w w' := by
  have h := read_any ⟨#[115, 104, 111, 114, 116]⟩ w (by decide)
  rwa [show readV ⟨#[115, 104, 111, 114, 116]⟩ = zeroF by decide +kernel, show readE ⟨#[115, 104, 111, 114, 116]⟩ = 2 by decide +kernel] at h
theorem eaw4 (w : World) : Calls Try.prog 9 #[fr 0 0 false 0 0 33024 ⟨#[]⟩] w fun e w' => e = .returned (.tuple #[.string ⟨#[]⟩, .int .i64 1]) ∧ Below w.heap.size w w' := by
  have h := bytes_any 0 0 false 0 0 33024 ⟨#[]⟩ w (by decide)
  rwa [show bytesS 0 0 false 0 0 33024 ⟨#[]⟩ = ⟨#[]⟩ by decide +kernel, show bytesE 0 0 false 0 0 33024 ⟨#[]⟩ = 1 by decide +kernel] at h
def twice : ByteArray := (⟨#[0, 0, 0, 0, 0, 1, 0, 0, 0, 0, 0, 2, 129, 0, 160, 10, 8, 0, 104, 105]⟩ : ByteArray).extract 0 12 ++ ⟨#[129, 0, 16, 1]⟩ ++ (⟨#[0, 0, 0, 0, 0, 1, 0, 0, 0, 0, 0, 2, 129, 0, 160, 10, 8, 0, 104, 105]⟩ : ByteArray).extract 16 20
theorem eaw5 (w : World) : Calls Try.prog 11 #[.string twice] w fun e w' => e = .returned (.tuple #[fr 0 0 false 0 0 0 ⟨#[]⟩, .int .i64 3]) ∧ Below w.heap.size w w' := by
  have h := read_any twice w (by decide)
  rwa [show readV twice = zeroF by decide +kernel, show readE twice = 3 by decide +kernel] at h
theorem eaw6 (w : World) : Calls Try.prog 15 #[fr 1 2 true 5 10 2048 ⟨#[104, 105]⟩, .int .i64 1] w fun e w' => e = .returned (.int .i64 10) ∧ Below w.heap.size w w' := vlan_any 1 2 true 5 10 2048 ⟨#[104, 105]⟩ 1 w
theorem eaw7 (w : World) : Calls Try.prog 17 #[fr 1 2 true 5 10 2048 ⟨#[104, 105]⟩, .bool false, .int .i64 0] w fun e w' => e = .returned (fr 1 2 false 0 0 2048 ⟨#[104, 105]⟩) ∧ Below w.heap.size w w' := retag_any 1 2 true 5 10 2048 ⟨#[104, 105]⟩ false 0 w
theorem eaw8 (w : World) : Calls Try.prog 15 #[fr 1 2 false 0 0 2048 ⟨#[104, 105]⟩, .int .i64 3] w fun e w' => e = .returned (.int .i64 3) ∧ Below w.heap.size w w' := vlan_any 1 2 false 0 0 2048 ⟨#[104, 105]⟩ 3 w
theorem eaw9 (w : World) : Calls Try.prog 13 #[fr 1 2 true 5 10 2048 ⟨#[104, 105]⟩] w fun e w' => e = .returned (.bool true) ∧ Below w.heap.size w w' := by
  have h := right_any 1 2 true 5 10 2048 ⟨#[104, 105]⟩ w (by decide)
  rwa [show rightF 1 2 true 5 10 2048 ⟨#[104, 105]⟩ = true by decide +kernel] at h

set_option maxHeartbeats 4000000 in
theorem eawake_any (w : World) : Calls Try.prog 8 #[] w fun e w' => e = .returned (.bool true) ∧ Below w.heap.size w w' := by
  have b1 := eaw1
  have b2 := eaw2
  have b5 := eaw5
  have x12 : ((⟨#[0, 0, 0, 0, 0, 1, 0, 0, 0, 0, 0, 2, 129, 0, 160, 10, 8, 0, 104, 105]⟩ : ByteArray).extract 12 18) = ⟨#[129, 0, 160, 10, 8, 0]⟩ := by decide +kernel
  have xz : (⟨#[0, 0, 0, 0, 0, 1, 0, 0, 0, 0, 0, 2, 129, 0, 160, 10, 8, 0, 104, 105]⟩ : ByteArray).size = 20 := by decide +kernel
  unfold twice at b5
  generalize (⟨#[0, 0, 0, 0, 0, 1, 0, 0, 0, 0, 0, 2, 129, 0, 160, 10, 8, 0, 104, 105]⟩ : ByteArray) = X at *
  have B1 := Lib.hid b1
  have B2 := Lib.hid b2
  have B5 := Lib.hid b5
  clear b1 b2 b5
  go_enter Try.func8, Try.ntmps8
  go_wp2_with fail
  refine (some_any _).mono ?_; rintro e w1 ⟨rfl, hb1⟩
  go_wp2_with fail
  refine (B1.out _).mono ?_; rintro e w2 ⟨rfl, hb2⟩
  go_wp2_with fail
  refine (B2.out _).mono ?_; rintro e w3 ⟨rfl, hb3⟩
  have bel := then_below (then_below (then_below hb1 hb2) hb3) (box_below w3 (Obj.cells #[Value.int IntKind.u64 1, Value.int IntKind.u64 2, Value.bool true, Value.int IntKind.i64 5, Value.int IntKind.i64 10, Value.int IntKind.i64 2048, Value.string ⟨#[104, 105]⟩] 25))
  go_wp2_with fail
  refine (eaw3 _).mono ?_; rintro e w4 ⟨rfl, hb4⟩
  have bel := then_below (then_below bel hb4) (box_below w4 (Obj.cells #[Value.int IntKind.u64 0, Value.int IntKind.u64 0, Value.bool false, Value.int IntKind.i64 0, Value.int IntKind.i64 0, Value.int IntKind.i64 0, Value.string ⟨#[]⟩] 25))
  go_wp2_with fail
  refine (eaw4 _).mono ?_; rintro e w5 ⟨rfl, hb5⟩
  have bel := then_below bel hb5
  obtain ⟨c0, c1, c2, c3, c4, c5, c6⟩ := (((Has.alloc w3 1 2 true 5 10 2048 ⟨#[104, 105]⟩).keep hb4).more (Obj.cells #[Value.int IntKind.u64 0, Value.int IntKind.u64 0, Value.bool false, Value.int IntKind.i64 0, Value.int IntKind.i64 0, Value.int IntKind.i64 0, Value.string ⟨#[]⟩] 25)).keep hb5
  clear hb1 hb2 hb3 hb4 hb5
  generalize w3.heap.size = k at *
  go_wp2_with fail
  have y1 : ¬ ((X.extract 0 12).size + 4 > 9223372036854775807) := by simp [ByteArray.size_extract]; omega
  have y2 : ¬ ((X.extract 0 12 ++ ⟨#[129, 0, 16, 1]⟩).size + (X.extract 16 20).size > 9223372036854775807) := by rw [ByteArray.size_append, ByteArray.size_extract, ByteArray.size_extract, show (⟨#[129, 0, 16, 1]⟩ : ByteArray).size = 4 by rfl]; omega
  have HS := cell_set
  have hk : k < w5.heap.size := World.block_lt_of_cell? _ _ c0
  have hk2 : ¬ w5.heap.size = k := by omega
  have hk3 : ¬ k = w5.heap.size := by omega
  go_region_held3 (fun w' => w'.cell? ⟨k, 0, none⟩ = some (.int .u64 1) ∧ w'.cell? ⟨k, 1, none⟩ = some (.int .u64 2) ∧ w'.cell? ⟨k, 2, none⟩ = some (.bool true) ∧ w'.cell? ⟨k, 3, none⟩ = some (.int .i64 5) ∧ w'.cell? ⟨k, 4, none⟩ = some (.int .i64 10) ∧ w'.cell? ⟨k, 5, none⟩ = some (.int .i64 2048) ∧ w'.cell? ⟨k, 6, none⟩ = some (.string ⟨#[104, 105]⟩))
    (first | go_keep | (go_split_ands; exact ⟨keep_cell (by assumption) (by assumption), keep_cell (by assumption) (by assumption), keep_cell (by assumption) (by assumption), keep_cell (by assumption) (by assumption), keep_cell (by assumption) (by assumption), keep_cell (by assumption) (by assumption), keep_cell (by assumption) (by assumption)⟩))
    (first | (go_at_call 11; with_reducible refine (B5.out _).mono ?_; rintro e w6 ⟨rfl, hb6⟩; obtain ⟨hc6, hf6⟩ := bcell hb6))
  · have bel7 := then_below (bel_drew bel hb6) (box_below w6 (Obj.cells #[Value.int IntKind.u64 0, Value.int IntKind.u64 0, Value.bool false, Value.int IntKind.i64 0, Value.int IntKind.i64 0, Value.int IntKind.i64 0, Value.string ⟨#[]⟩] 25))
    generalize w6.alloc (Obj.cells #[Value.int IntKind.u64 0, Value.int IntKind.u64 0, Value.bool false, Value.int IntKind.i64 0, Value.int IntKind.i64 0, Value.int IntKind.i64 0, Value.string ⟨#[]⟩] 25) = W7 at *
    clear c0 c1 c2 c3 c4 c5 c6
    obtain ⟨c0, c1, c2, c3, c4, c5, c6⟩ : W7.cell? ⟨k, 0, none⟩ = some (.int .u64 1) ∧ W7.cell? ⟨k, 1, none⟩ = some (.int .u64 2) ∧ W7.cell? ⟨k, 2, none⟩ = some (.bool true) ∧ W7.cell? ⟨k, 3, none⟩ = some (.int .i64 5) ∧ W7.cell? ⟨k, 4, none⟩ = some (.int .i64 10) ∧ W7.cell? ⟨k, 5, none⟩ = some (.int .i64 2048) ∧ W7.cell? ⟨k, 6, none⟩ = some (.string ⟨#[104, 105]⟩) := by assumption
    clear HS y1 y2 hk hk2 hk3 hc6 hf6 hb6
    go_wp2_with fail
    go_region_held3 (fun w' => w'.cell? ⟨k, 0, none⟩ = some (.int .u64 1) ∧ w'.cell? ⟨k, 1, none⟩ = some (.int .u64 2) ∧ w'.cell? ⟨k, 2, none⟩ = some (.bool true) ∧ w'.cell? ⟨k, 3, none⟩ = some (.int .i64 5) ∧ w'.cell? ⟨k, 4, none⟩ = some (.int .i64 10) ∧ w'.cell? ⟨k, 5, none⟩ = some (.int .i64 2048) ∧ w'.cell? ⟨k, 6, none⟩ = some (.string ⟨#[104, 105]⟩))
      (first | go_keep | (go_split_ands; exact ⟨keep_cell (by assumption) (by assumption), keep_cell (by assumption) (by assumption), keep_cell (by assumption) (by assumption), keep_cell (by assumption) (by assumption), keep_cell (by assumption) (by assumption), keep_cell (by assumption) (by assumption), keep_cell (by assumption) (by assumption)⟩))
      (first | (go_at_call 23; with_reducible refine (some_any _).mono ?_; rintro e w10 ⟨rfl, hb10⟩) | (go_at_call 15; with_reducible refine (eaw6 _).mono ?_; rintro e w11 ⟨rfl, hb11⟩) | (go_at_call 17; with_reducible refine (eaw7 _).mono ?_; rintro e w12 ⟨rfl, hb12⟩) | (go_at_call 15; with_reducible refine (eaw8 _).mono ?_; rintro e w13 ⟨rfl, hb13⟩) | (go_at_call 13; with_reducible refine (eaw9 _).mono ?_; rintro e w14 ⟨rfl, hb14⟩))
    go_wp2
    go_ret
    exact ⟨rfl, then_below (then_below (then_below (then_below (bel_drew bel7 hb10) hb11) hb12) hb13) hb14⟩

  · have bel7 : Below w.heap.size w (((((((w6.setCell ⟨w5.heap.size, 0, none⟩ (.int .u64 0)).setCell ⟨w5.heap.size, 1, none⟩ (.int .u64 0)).setCell ⟨w5.heap.size, 2, none⟩ (.bool false)).setCell ⟨w5.heap.size, 3, none⟩ (.int .i64 0)).setCell ⟨w5.heap.size, 4, none⟩ (.int .i64 0)).setCell ⟨w5.heap.size, 5, none⟩ (.int .i64 0)).setCell ⟨w5.heap.size, 6, none⟩ (.string ⟨#[]⟩)) := by
      iterate 7 refine Below.setCell ?_ (by show w.heap.size ≤ w5.heap.size; exact bel.size) _
      exact ((bel.drew).alloc bel.size _).trans (hb6.mono (by have := bel.size; simp; omega))
    generalize ((((((w6.setCell ⟨w5.heap.size, 0, none⟩ (.int .u64 0)).setCell ⟨w5.heap.size, 1, none⟩ (.int .u64 0)).setCell ⟨w5.heap.size, 2, none⟩ (.bool false)).setCell ⟨w5.heap.size, 3, none⟩ (.int .i64 0)).setCell ⟨w5.heap.size, 4, none⟩ (.int .i64 0)).setCell ⟨w5.heap.size, 5, none⟩ (.int .i64 0)).setCell ⟨w5.heap.size, 6, none⟩ (.string ⟨#[]⟩) = W7 at *
    clear c0 c1 c2 c3 c4 c5 c6
    obtain ⟨c0, c1, c2, c3, c4, c5, c6⟩ : W7.cell? ⟨k, 0, none⟩ = some (.int .u64 1) ∧ W7.cell? ⟨k, 1, none⟩ = some (.int .u64 2) ∧ W7.cell? ⟨k, 2, none⟩ = some (.bool true) ∧ W7.cell? ⟨k, 3, none⟩ = some (.int .i64 5) ∧ W7.cell? ⟨k, 4, none⟩ = some (.int .i64 10) ∧ W7.cell? ⟨k, 5, none⟩ = some (.int .i64 2048) ∧ W7.cell? ⟨k, 6, none⟩ = some (.string ⟨#[104, 105]⟩) := by assumption
    clear HS y1 y2 hk hk2 hk3 hc6 hf6 hb6
    go_wp2_with fail
    go_region_held3 (fun w' => w'.cell? ⟨k, 0, none⟩ = some (.int .u64 1) ∧ w'.cell? ⟨k, 1, none⟩ = some (.int .u64 2) ∧ w'.cell? ⟨k, 2, none⟩ = some (.bool true) ∧ w'.cell? ⟨k, 3, none⟩ = some (.int .i64 5) ∧ w'.cell? ⟨k, 4, none⟩ = some (.int .i64 10) ∧ w'.cell? ⟨k, 5, none⟩ = some (.int .i64 2048) ∧ w'.cell? ⟨k, 6, none⟩ = some (.string ⟨#[104, 105]⟩))
      (first | go_keep | (go_split_ands; exact ⟨keep_cell (by assumption) (by assumption), keep_cell (by assumption) (by assumption), keep_cell (by assumption) (by assumption), keep_cell (by assumption) (by assumption), keep_cell (by assumption) (by assumption), keep_cell (by assumption) (by assumption), keep_cell (by assumption) (by assumption)⟩))
      (first | (go_at_call 23; with_reducible refine (some_any _).mono ?_; rintro e w10 ⟨rfl, hb10⟩) | (go_at_call 15; with_reducible refine (eaw6 _).mono ?_; rintro e w11 ⟨rfl, hb11⟩) | (go_at_call 17; with_reducible refine (eaw7 _).mono ?_; rintro e w12 ⟨rfl, hb12⟩) | (go_at_call 15; with_reducible refine (eaw8 _).mono ?_; rintro e w13 ⟨rfl, hb13⟩) | (go_at_call 13; with_reducible refine (eaw9 _).mono ?_; rintro e w14 ⟨rfl, hb14⟩))
    go_wp2
    go_ret
    exact ⟨rfl, then_below (then_below (then_below (then_below (bel_drew bel7 hb10) hb11) hb12) hb13) hb14⟩

end Eth
end Go.Proofs.Ytebdpgdpddocfaa
