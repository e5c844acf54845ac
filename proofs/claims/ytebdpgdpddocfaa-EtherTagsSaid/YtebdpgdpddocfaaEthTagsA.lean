/-
  The law EtherTags.
-/
import Derived.Test.YtebdpgdpddocfaaEthAwake
import Derived.Test.YtebdpgdpddocfaaEthOpen
import Derived.Test.YtebdpgdpddocfaaEthBox
import Derived.Test.YtebdpgdpddocfaaRows
import Derived.Deep.DeepCutAuto
namespace Go.Proofs.Ytebdpgdpddocfaa
open Go.RowKit
namespace Eth
open Oct Mac

set_option maxRecDepth 100000 in
set_option maxHeartbeats 4000000 in
theorem tags_core (d s p v t n own m : Int) (g : Bool) (b : ByteArray) (w : World) (hm : wrap64 (1 + wrap64 ((IntKind.u64.wrap n).tmod 4094)) = m) (hm0 : 0 < m) :
    Calls Try.prog 5 #[fr d s g p v t b, .int .i64 n, .int .i64 own] w fun e w' => e = .returned (.bool true) ∧ Below w.heap.size w w' := by
  have von := fun w => vlan_any d s true p m t b own w
  rw [show vlanN true m own = m by unfold vlanN; rw [if_pos ⟨rfl, hm0⟩]] at von
  have voff := fun w => vlan_any d s false 0 0 t b own w
  rw [show vlanN false 0 own = own by unfold vlanN; rw [if_neg (by simp)]] at voff
  replace von := Lib.hid von
  replace voff := Lib.hid voff
  have HM := Lib.hid hm
  clear hm
  go_enter Try.func5, Try.ntmps5
  go_upto_region 2 with fail
  rw [HM.out]
  go_cut [7, 8] (fun s7 s8 wx => ∃ k k2 : Nat, s7 = .pointer (some ⟨k, 0, none⟩) ∧ s8 = .pointer (some ⟨k2, 0, none⟩) ∧ Below w.heap.size w wx ∧ Has wx w.heap.size d s g p v t b ∧ Has wx k d s true p m t b ∧ Has wx k2 d s false 0 0 t b)
  case first =>
    have HS := cell_set
    go_region_held3 (fun w' => w'.cell? ⟨w.heap.size, 0, none⟩ = some (.int .u64 d) ∧ w'.cell? ⟨w.heap.size, 1, none⟩ = some (.int .u64 s) ∧ w'.cell? ⟨w.heap.size, 2, none⟩ = some (.bool g) ∧ w'.cell? ⟨w.heap.size, 3, none⟩ = some (.int .i64 p) ∧ w'.cell? ⟨w.heap.size, 4, none⟩ = some (.int .i64 v) ∧ w'.cell? ⟨w.heap.size, 5, none⟩ = some (.int .i64 t) ∧ w'.cell? ⟨w.heap.size, 6, none⟩ = some (.string b))
      (with_reducible refine Has.out ?_; (repeat (first | with_reducible refine Has.draw ?_ | (with_reducible refine Has.new ?_; first | with_reducible rfl | (simp; done)) | with_reducible refine Has.put ?_ _ _ _ _ _ _ _ | with_reducible refine Has.more ?_ _ | (with_reducible refine Has.apart7 ?_ ?_; omega) | with_reducible refine Has.keep ?_ hb2 | with_reducible refine Has.keep ?_ hb1)); done)
      (first | (go_at_call 17; with_reducible refine (retag_any d s g p v t b true m _).mono ?_; rintro e w1 ⟨rfl, hb1⟩; obtain ⟨hc1, hf1⟩ := bcell hb1; (try (have za1 : w.heap.size < w1.heap.size := by (have zz := hb1.size; (try simp at zz); omega))); (try (have za2 : w.heap.size + 1 < w1.heap.size := by (have zz := hb1.size; (try simp at zz); omega))); (try (have za3 : w.heap.size + 1 + 1 < w1.heap.size := by (have zz := hb1.size; (try simp at zz); omega)))) | (go_at_call 17; with_reducible refine (retag_any d s g p v t b false m _).mono ?_; rintro e w2 ⟨rfl, hb2⟩; obtain ⟨hc2, hf2⟩ := bcell hb2; (try (have zb1 : w.heap.size < w2.heap.size := by (have zz := hb2.size; (try simp at zz); omega))); (try (have zb2 : w.heap.size + 1 < w2.heap.size := by (have zz := hb2.size; (try simp at zz); omega))); (try (have zb3 : w.heap.size + 1 + 1 < w2.heap.size := by (have zz := hb2.size; (try simp at zz); omega))); (try (have zb4 : w1.heap.size < w2.heap.size := by (have zz := hb2.size; (try simp at zz); omega))); (try (have zb5 : w1.heap.size + 1 < w2.heap.size := by (have zz := hb2.size; (try simp at zz); omega))); (try (have zb6 : w1.heap.size ≤ w2.heap.size := by (have zz := hb2.size; (try simp at zz); omega))); (try (have n0 : ¬ w1.heap.size = w2.heap.size := by omega)); (try (have m0 : ¬ w2.heap.size = w1.heap.size := by omega)); (try (have n1 : ¬ w1.heap.size + 1 = w2.heap.size := by omega)); (try (have m1 : ¬ w2.heap.size = w1.heap.size + 1 := by omega)); (try (have n2 : ¬ w1.heap.size = w2.heap.size + 1 := by omega)); (try (have m2 : ¬ w2.heap.size + 1 = w1.heap.size := by omega)); (try (have n3 : ¬ w1.heap.size + 1 = w2.heap.size + 1 := by omega)); (try (have m3 : ¬ w2.heap.size + 1 = w1.heap.size + 1 := by omega)); (try (have n4 : ¬ w.heap.size + 1 = w2.heap.size := by omega)); (try (have m4 : ¬ w2.heap.size = w.heap.size + 1 := by omega)); (try (have n5 : ¬ w.heap.size + 1 + 1 = w2.heap.size := by omega)); (try (have m5 : ¬ w2.heap.size = w.heap.size + 1 + 1 := by omega)); (try (have n6 : ¬ w.heap.size + 1 = w1.heap.size := by omega)); (try (have m6 : ¬ w1.heap.size = w.heap.size + 1 := by omega)); (try (have n7 : ¬ w.heap.size + 1 + 1 = w1.heap.size := by omega)); (try (have m7 : ¬ w1.heap.size = w.heap.size + 1 + 1 := by omega)); (try (have n8 : ¬ w.heap.size + 1 = w1.heap.size + 1 := by omega)); (try (have m8 : ¬ w1.heap.size + 1 = w.heap.size + 1 := by omega))))
    all_goals (go_wp2_with fail; go_meet; refine ⟨_, _, rfl, rfl, ?_, ?_, ?_, ?_⟩)
    all_goals (try clear HS hc1 hf1 hc2 hf2)
    all_goals first | ((repeat (first | with_reducible refine bel_draw ?_ | with_reducible refine bel_alloc ?_ _ | (with_reducible refine bel_set7 ?_ ?_; omega) | with_reducible refine then_below ?_ hb2 | with_reducible refine then_below ?_ hb1 | with_reducible exact Below.refl _ _)); done) | ((repeat (first | with_reducible refine Has.draw ?_ | (with_reducible refine Has.new ?_; first | with_reducible rfl | (simp; done)) | with_reducible refine Has.put ?_ _ _ _ _ _ _ _ | with_reducible refine Has.more ?_ _ | (with_reducible refine Has.apart7 ?_ ?_; omega) | with_reducible refine Has.keep ?_ hb2 | with_reducible refine Has.keep ?_ hb1)); done)
  case rest =>
    obtain ⟨k, k2, rfl, rfl, bel, hA, hB, hC⟩ := hcut
    obtain ⟨e0, e1, e2, e3, e4, e5, e6⟩ := hB
    go_wp2_with fail
    refine (retag_any d s true p m t b false 0 _).mono ?_; rintro e w3 ⟨rfl, hb3⟩
    have bel := then_below (then_below bel hb3) (box_below w3 (Obj.cells #[Value.int IntKind.u64 d, Value.int IntKind.u64 s, Value.bool false, Value.int IntKind.i64 0, Value.int IntKind.i64 0, Value.int IntKind.i64 t, Value.string b] 25))
    have hA := (hA.keep hb3).more (Obj.cells #[Value.int IntKind.u64 d, Value.int IntKind.u64 s, Value.bool false, Value.int IntKind.i64 0, Value.int IntKind.i64 0, Value.int IntKind.i64 t, Value.string b] 25)
    have hB := (Has.keep (k := k) ⟨e0, e1, e2, e3, e4, e5, e6⟩ hb3).more (Obj.cells #[Value.int IntKind.u64 d, Value.int IntKind.u64 s, Value.bool false, Value.int IntKind.i64 0, Value.int IntKind.i64 0, Value.int IntKind.i64 t, Value.string b] 25)
    have hC := (hC.keep hb3).more (Obj.cells #[Value.int IntKind.u64 d, Value.int IntKind.u64 s, Value.bool false, Value.int IntKind.i64 0, Value.int IntKind.i64 0, Value.int IntKind.i64 t, Value.string b] 25)
    have hD := Has.alloc w3 d s false 0 0 t b
    clear e0 e1 e2 e3 e4 e5 e6 hb3
    obtain ⟨e0, e1, e2, e3, e4, e5, e6⟩ := hB
    go_wp2_with fail
    refine (von.out _).mono ?_; rintro e w4 ⟨rfl, hb4⟩
    have bel := then_below bel hb4
    have hA := hA.keep hb4
    have hB := Has.keep (k := k) ⟨e0, e1, e2, e3, e4, e5, e6⟩ hb4
    have hC := hC.keep hb4
    have hD := hD.keep hb4
    clear e0 e1 e2 e3 e4 e5 e6 hb4
    obtain ⟨f0, f1, f2, f3, f4, f5, f6⟩ := hC
    go_wp2_with fail
    refine (voff.out _).mono ?_; rintro e w5 ⟨rfl, hb5⟩
    have bel := then_below bel hb5
    obtain ⟨c0, c1, c2, c3, c4, c5, c6⟩ := hA.keep hb5
    have hC := Has.keep (k := k2) ⟨f0, f1, f2, f3, f4, f5, f6⟩ hb5
    clear f0 f1 f2 f3 f4 f5 f6
    obtain ⟨e0, e1, e2, e3, e4, e5, e6⟩ := hB.keep hb5
    obtain ⟨f0, f1, f2, f3, f4, f5, f6⟩ := hC
    obtain ⟨j0, j1, j2, j3, j4, j5, j6⟩ := hD.keep hb5
    clear hb5 hA hB hD
    go_wp2_with fail
    refine (eawake_any _).mono ?_; rintro e w6 ⟨rfl, hb6⟩
    go_wp2_with fail
    go_ret
    exact ⟨rfl, then_below bel hb6⟩

end Eth
end Go.Proofs.Ytebdpgdpddocfaa
