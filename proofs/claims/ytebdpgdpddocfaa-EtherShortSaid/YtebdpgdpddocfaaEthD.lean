/-
  What ether.Bytes, and the document's answer beside it, write of a right frame; and that they change nothing that was there.
-/
import Derived.Test.YtebdpgdpddocfaaEthC
namespace Go.Proofs.Ytebdpgdpddocfaa
open Go.RowKit
namespace Eth
open Oct Mac

set_option maxHeartbeats 1000000 in
theorem rbytes_tag (d s p v t M N K : Int) (b D S G P T : ByteArray) (w : World) (hb : b.size ≤ 9202)
    (HR : Hid (∀ w, Calls Try.prog 14 #[fr d s true p v t b] w fun e w' => e = .returned (.bool true) ∧ Below w.heap.size w w'))
    (HD : Hid (∀ w, Calls Try.prog 26 #[.int .u64 d] w fun e w' => e = .returned (.string D) ∧ Below w.heap.size w w'))
    (HS : Hid (∀ w, Calls Try.prog 26 #[.int .u64 s] w fun e w' => e = .returned (.string S) ∧ Below w.heap.size w w'))
    (HG : Hid (∀ w, Calls Try.prog 27 #[.int .u64 33024, .int .i64 2] w fun e w' => e = .returned (.string G) ∧ Below w.heap.size w w'))
    (HP : Hid (∀ w, Calls Try.prog 27 #[.int .u64 N, .int .i64 2] w fun e w' => e = .returned (.string P) ∧ Below w.heap.size w w'))
    (HT : Hid (∀ w, Calls Try.prog 27 #[.int .u64 t, .int .i64 2] w fun e w' => e = .returned (.string T) ∧ Below w.heap.size w w'))
    (q1 : IntKind.i64.wrap (p * 8192) = M) (q2 : bits .or .i64 M v = K) (q3 : IntKind.u64.wrap K = N) (q4 : IntKind.u64.wrap t = t) (zD : D.size = 6) (zS : S.size = 6) (zT : T.size = 2) (zG : G.size = 2) (zP : P.size = 2) :
    Calls Try.prog 10 #[fr d s true p v t b] w fun e w' => e = .returned (.tuple #[.string (D ++ S ++ (G ++ P) ++ T ++ b), .int .i64 0]) ∧ Below w.heap.size w w' := by
  have z1 : ¬ (18 + b.size > 9223372036854775807) := by omega
  have z2 : ¬ (14 + b.size > 9223372036854775807) := by omega
  go_enter Try.func10, Try.ntmps10
  go_wp2_with fail
  refine (HR.out _).mono ?_; rintro e w1 ⟨rfl, hb1⟩
  have bel := then_below (box_below w (Obj.cells #[Value.int IntKind.u64 d, Value.int IntKind.u64 s, Value.bool true, Value.int IntKind.i64 p, Value.int IntKind.i64 v, Value.int IntKind.i64 t, Value.string b] 25)) hb1
  obtain ⟨c0, c1, c2, c3, c4, c5, c6⟩ := (Has.alloc w d s true p v t b).keep hb1
  clear hb1
  go_wp2_with fail
  go_region_held3 (fun w' => w'.cell? ⟨w.heap.size, 0, none⟩ = some (.int .u64 d) ∧ w'.cell? ⟨w.heap.size, 1, none⟩ = some (.int .u64 s) ∧ w'.cell? ⟨w.heap.size, 2, none⟩ = some (.bool true) ∧ w'.cell? ⟨w.heap.size, 3, none⟩ = some (.int .i64 p) ∧ w'.cell? ⟨w.heap.size, 4, none⟩ = some (.int .i64 v) ∧ w'.cell? ⟨w.heap.size, 5, none⟩ = some (.int .i64 t) ∧ w'.cell? ⟨w.heap.size, 6, none⟩ = some (.string b))
    (first | go_keep | (go_split_ands; exact ⟨keep_cell (by assumption) (by assumption), keep_cell (by assumption) (by assumption), keep_cell (by assumption) (by assumption), keep_cell (by assumption) (by assumption), keep_cell (by assumption) (by assumption), keep_cell (by assumption) (by assumption), keep_cell (by assumption) (by assumption)⟩))
    (first | (go_at_call 26; with_reducible refine (HD.out _).mono ?_; rintro e w2 ⟨rfl, hb2⟩) | (go_at_call 26; with_reducible refine (HS.out _).mono ?_; rintro e w3 ⟨rfl, hb3⟩))
  have bel := bel_drew bel hb2
  have bel := then_below bel hb3
  clear c0 c1 c2 c3 c4 c5 c6
  obtain ⟨c0, c1, c2, c3, c4, c5, c6⟩ : w3.cell? ⟨w.heap.size, 0, none⟩ = some (.int .u64 d) ∧ w3.cell? ⟨w.heap.size, 1, none⟩ = some (.int .u64 s) ∧ w3.cell? ⟨w.heap.size, 2, none⟩ = some (.bool true) ∧ w3.cell? ⟨w.heap.size, 3, none⟩ = some (.int .i64 p) ∧ w3.cell? ⟨w.heap.size, 4, none⟩ = some (.int .i64 v) ∧ w3.cell? ⟨w.heap.size, 5, none⟩ = some (.int .i64 t) ∧ w3.cell? ⟨w.heap.size, 6, none⟩ = some (.string b) := by assumption
  clear hb2 hb3
  go_wp2_with fail
  go_region_held3 (fun w' => w'.cell? ⟨w.heap.size, 0, none⟩ = some (.int .u64 d) ∧ w'.cell? ⟨w.heap.size, 1, none⟩ = some (.int .u64 s) ∧ w'.cell? ⟨w.heap.size, 2, none⟩ = some (.bool true) ∧ w'.cell? ⟨w.heap.size, 3, none⟩ = some (.int .i64 p) ∧ w'.cell? ⟨w.heap.size, 4, none⟩ = some (.int .i64 v) ∧ w'.cell? ⟨w.heap.size, 5, none⟩ = some (.int .i64 t) ∧ w'.cell? ⟨w.heap.size, 6, none⟩ = some (.string b))
    (first | go_keep | (go_split_ands; exact ⟨keep_cell (by assumption) (by assumption), keep_cell (by assumption) (by assumption), keep_cell (by assumption) (by assumption), keep_cell (by assumption) (by assumption), keep_cell (by assumption) (by assumption), keep_cell (by assumption) (by assumption), keep_cell (by assumption) (by assumption)⟩))
    (first | (go_at_call 27; with_reducible refine (HG.out _).mono ?_; rintro e w4 ⟨rfl, hb4⟩) | (go_at_call 27; with_reducible refine (HP.out _).mono ?_; rintro e w5 ⟨rfl, hb5⟩))
  have bel := bel_drew bel hb4
  have bel := then_below bel hb5
  clear c0 c1 c2 c3 c4 c5 c6
  obtain ⟨c0, c1, c2, c3, c4, c5, c6⟩ : w5.cell? ⟨w.heap.size, 0, none⟩ = some (.int .u64 d) ∧ w5.cell? ⟨w.heap.size, 1, none⟩ = some (.int .u64 s) ∧ w5.cell? ⟨w.heap.size, 2, none⟩ = some (.bool true) ∧ w5.cell? ⟨w.heap.size, 3, none⟩ = some (.int .i64 p) ∧ w5.cell? ⟨w.heap.size, 4, none⟩ = some (.int .i64 v) ∧ w5.cell? ⟨w.heap.size, 5, none⟩ = some (.int .i64 t) ∧ w5.cell? ⟨w.heap.size, 6, none⟩ = some (.string b) := by assumption
  clear hb4 hb5
  go_wp2_with fail
  go_region_held3 (fun w' => w'.cell? ⟨w.heap.size, 0, none⟩ = some (.int .u64 d) ∧ w'.cell? ⟨w.heap.size, 1, none⟩ = some (.int .u64 s) ∧ w'.cell? ⟨w.heap.size, 2, none⟩ = some (.bool true) ∧ w'.cell? ⟨w.heap.size, 3, none⟩ = some (.int .i64 p) ∧ w'.cell? ⟨w.heap.size, 4, none⟩ = some (.int .i64 v) ∧ w'.cell? ⟨w.heap.size, 5, none⟩ = some (.int .i64 t) ∧ w'.cell? ⟨w.heap.size, 6, none⟩ = some (.string b))
    (first | go_keep | (go_split_ands; exact ⟨keep_cell (by assumption) (by assumption), keep_cell (by assumption) (by assumption), keep_cell (by assumption) (by assumption), keep_cell (by assumption) (by assumption), keep_cell (by assumption) (by assumption), keep_cell (by assumption) (by assumption), keep_cell (by assumption) (by assumption)⟩))
    (first | (go_at_call 27; with_reducible refine (HT.out _).mono ?_; rintro e w6 ⟨rfl, hb6⟩))
  go_wp2
  go_ret2
  exact ⟨rfl, bel_drew bel hb6⟩

set_option maxHeartbeats 1000000 in
theorem rbytes_no (d s p v t : Int) (b D S T : ByteArray) (w : World) (hb : b.size ≤ 9202)
    (HR : Hid (∀ w, Calls Try.prog 14 #[fr d s false p v t b] w fun e w' => e = .returned (.bool true) ∧ Below w.heap.size w w'))
    (HD : Hid (∀ w, Calls Try.prog 26 #[.int .u64 d] w fun e w' => e = .returned (.string D) ∧ Below w.heap.size w w'))
    (HS : Hid (∀ w, Calls Try.prog 26 #[.int .u64 s] w fun e w' => e = .returned (.string S) ∧ Below w.heap.size w w'))
    (HT : Hid (∀ w, Calls Try.prog 27 #[.int .u64 t, .int .i64 2] w fun e w' => e = .returned (.string T) ∧ Below w.heap.size w w'))
     (q4 : IntKind.u64.wrap t = t) (zD : D.size = 6) (zS : S.size = 6) (zT : T.size = 2) :
    Calls Try.prog 10 #[fr d s false p v t b] w fun e w' => e = .returned (.tuple #[.string (D ++ S ++ T ++ b), .int .i64 0]) ∧ Below w.heap.size w w' := by
  have z1 : ¬ (18 + b.size > 9223372036854775807) := by omega
  have z2 : ¬ (14 + b.size > 9223372036854775807) := by omega
  go_enter Try.func10, Try.ntmps10
  go_wp2_with fail
  refine (HR.out _).mono ?_; rintro e w1 ⟨rfl, hb1⟩
  have bel := then_below (box_below w (Obj.cells #[Value.int IntKind.u64 d, Value.int IntKind.u64 s, Value.bool false, Value.int IntKind.i64 p, Value.int IntKind.i64 v, Value.int IntKind.i64 t, Value.string b] 25)) hb1
  obtain ⟨c0, c1, c2, c3, c4, c5, c6⟩ := (Has.alloc w d s false p v t b).keep hb1
  clear hb1
  go_wp2_with fail
  go_region_held3 (fun w' => w'.cell? ⟨w.heap.size, 0, none⟩ = some (.int .u64 d) ∧ w'.cell? ⟨w.heap.size, 1, none⟩ = some (.int .u64 s) ∧ w'.cell? ⟨w.heap.size, 2, none⟩ = some (.bool false) ∧ w'.cell? ⟨w.heap.size, 3, none⟩ = some (.int .i64 p) ∧ w'.cell? ⟨w.heap.size, 4, none⟩ = some (.int .i64 v) ∧ w'.cell? ⟨w.heap.size, 5, none⟩ = some (.int .i64 t) ∧ w'.cell? ⟨w.heap.size, 6, none⟩ = some (.string b))
    (first | go_keep | (go_split_ands; exact ⟨keep_cell (by assumption) (by assumption), keep_cell (by assumption) (by assumption), keep_cell (by assumption) (by assumption), keep_cell (by assumption) (by assumption), keep_cell (by assumption) (by assumption), keep_cell (by assumption) (by assumption), keep_cell (by assumption) (by assumption)⟩))
    (first | (go_at_call 26; with_reducible refine (HD.out _).mono ?_; rintro e w2 ⟨rfl, hb2⟩) | (go_at_call 26; with_reducible refine (HS.out _).mono ?_; rintro e w3 ⟨rfl, hb3⟩))
  have bel := bel_drew bel hb2
  have bel := then_below bel hb3
  clear c0 c1 c2 c3 c4 c5 c6
  obtain ⟨c0, c1, c2, c3, c4, c5, c6⟩ : w3.cell? ⟨w.heap.size, 0, none⟩ = some (.int .u64 d) ∧ w3.cell? ⟨w.heap.size, 1, none⟩ = some (.int .u64 s) ∧ w3.cell? ⟨w.heap.size, 2, none⟩ = some (.bool false) ∧ w3.cell? ⟨w.heap.size, 3, none⟩ = some (.int .i64 p) ∧ w3.cell? ⟨w.heap.size, 4, none⟩ = some (.int .i64 v) ∧ w3.cell? ⟨w.heap.size, 5, none⟩ = some (.int .i64 t) ∧ w3.cell? ⟨w.heap.size, 6, none⟩ = some (.string b) := by assumption
  clear hb2 hb3
  go_wp2_with fail
  go_region_held3 (fun w' => w'.cell? ⟨w.heap.size, 0, none⟩ = some (.int .u64 d) ∧ w'.cell? ⟨w.heap.size, 1, none⟩ = some (.int .u64 s) ∧ w'.cell? ⟨w.heap.size, 2, none⟩ = some (.bool false) ∧ w'.cell? ⟨w.heap.size, 3, none⟩ = some (.int .i64 p) ∧ w'.cell? ⟨w.heap.size, 4, none⟩ = some (.int .i64 v) ∧ w'.cell? ⟨w.heap.size, 5, none⟩ = some (.int .i64 t) ∧ w'.cell? ⟨w.heap.size, 6, none⟩ = some (.string b))
    (first | go_keep | (go_split_ands; exact ⟨keep_cell (by assumption) (by assumption), keep_cell (by assumption) (by assumption), keep_cell (by assumption) (by assumption), keep_cell (by assumption) (by assumption), keep_cell (by assumption) (by assumption), keep_cell (by assumption) (by assumption), keep_cell (by assumption) (by assumption)⟩))
    (first | (go_at_call 27; with_reducible refine (HT.out _).mono ?_; rintro e w6 ⟨rfl, hb6⟩))
  go_wp2
  go_ret2
  exact ⟨rfl, bel_drew bel hb6⟩

end Eth
end Go.Proofs.Ytebdpgdpddocfaa
