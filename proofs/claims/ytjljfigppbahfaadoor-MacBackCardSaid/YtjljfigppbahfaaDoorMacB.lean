/-
  What mac.Reserved, mac.Text and mac.Parse answer, in every memory that holds the table of reserved addresses as the program's text lays it; and that they change nothing that was there.
-/
import Derived.Test.YtjljfigppbahfaaDoorMacA
import Derived.Test.YtjljfigppbahfaaDoorOctAwake
import Derived.Deep.MidRow
namespace Go.Proofs.YtjljfigppbahfaaDoor
open Go.RowKit
namespace Mac
open Oct

/-- The memory holds the table of reserved addresses, and the library's own bound. -/
def Home (w : World) : Prop := (∀ j : Nat, j < 16 → w.cell? ⟨0, j, none⟩ = some (.int .u64 ((1652522221568 + j : Nat) : Int))) ∧ (∃ m : Int, w.cell? ⟨1, 0, none⟩ = some (.int .i64 m)) ∧ 0 < w.heap.size ∧ 1 < w.heap.size

theorem Home.below {w w' : World} (h : Home w) (hb : Below w.heap.size w w') : Home w' := by
  obtain ⟨h1, ⟨m, h2⟩, h3, h4⟩ := h
  refine ⟨fun j hj => ?_, ⟨m, ?_⟩, Nat.lt_of_lt_of_le h3 hb.size, Nat.lt_of_lt_of_le h4 hb.size⟩
  · rw [hb.cell (p := ⟨0, j, none⟩) h3]; exact h1 j hj
  · rw [hb.cell (p := ⟨1, 0, none⟩) h4]; exact h2

theorem info_res : (Tryd.prog.info? 43).map (·.size) = some 16 := by kernel_rfl
theorem info_mac : (Tryd.prog.info? 23).map (·.size) = some 1 := by kernel_rfl

theorem run_index_tab (w : World) (cs : List Value) (k : Nat) (hk : k < 16) (v : Value) (hv : cs[k]? = some v) :
    (Instr.index 43 (.agg cs.toArray) (.int .i64 (k : Int))).run Tryd.prog w = .ok v w := by
  have hk2 : (0 : Int) ≤ (k : Int) ∧ (k : Int) < ((16 : Nat) : Int) := ⟨by omega, by omega⟩
  have hz : (sizeOf 23).run Tryd.prog w = .ok 1 w := by kernel_rfl
  unfold Instr.index
  simp [asIntOf, run_underlying Tryd.underlying43, hz, part, hk, hv]

theorem reserved_core (m : Nat) (w : World) (cs : List Value) (hl : cs.length = 16) (hc : w.rangeAt 0 0 cs)
    (hcs : ∀ k : Nat, k < 16 → cs[k]? = some (.int .u64 ((1652522221568 + k : Nat) : Int))) : Calls Tryd.prog 16 #[.int .u64 m] w fun e w' => e = .returned (.bool (reservedB m)) ∧ w = w' := by
  have HI : (Tryd.prog.info? 43).map (·.size) = some cs.length := by rw [hl]; exact info_res
  have HI' := Lib.hid HI
  have HC := Lib.hid hcs
  have HL := Lib.hid hl
  have HR := Lib.hid hc
  clear HI hcs hl hc
  go_enter Tryd.func16, Tryd.ntmps16
  go_wp2_with (refine wpList_load_mid rfl 43 (.global 0) rfl 0 0 rfl cs (.array 16 23) HR.out Tryd.underlying43 rfl HI'.out ?_)
  go_loop [4, 6] (fun _ i => ∃ k : Nat, k ≤ 16 ∧ i = .int .i64 k ∧ Aside (∀ j : Nat, j < k → m ≠ 1652522221568 + j)) (fun _ i => 16 - (intOf i).toNat)
  case atStart => exact ⟨0, by omega, rfl, fun j h => by omega⟩
  case round =>
    obtain ⟨k, hk, rfl, HN⟩ := hrel
    by_cases hlt : k < 16
    · have hx := run_index_tab w cs k hlt _ (HC.out k hlt)
      by_cases he : m = 1652522221568 + k
      · have hq : ((m : Int) == ((1652522221568 + k : Nat) : Int)) = true := by rw [he]; simp
        have HE := Lib.hid (show reservedB m = true by unfold reservedB; rw [he]; simp; omega)
        clear he
        generalize ((1652522221568 + k : Nat) : Int) = z at *
        go_wp2
        go_ret
        exact ⟨ret_bool HE.out.symm, rfl⟩
      · have hq : ((m : Int) == ((1652522221568 + k : Nat) : Int)) = false := by simp; omega
        have HE := Lib.hid he
        clear he
        generalize ((1652522221568 + k : Nat) : Int) = z at *
        go_wp2
        go_round
        case rel =>
          refine ⟨k + 1, by omega, by go_num, fun j hj => ?_⟩
          by_cases h : j = k
          · subst h; exact HE.out
          · exact HN.out j (by omega)
        case measure => simp [intOf]; omega
    · have HE := Lib.hid (show reservedB m = false by
        unfold reservedB
        have h16 := HN.out
        have : ¬ (m / 16 = 103282638848) := fun h => h16 (m % 16) (by omega) (by omega)
        simp [this])
      go_wp2
      go_ret
      exact ⟨ret_bool HE.out.symm, rfl⟩

theorem reserved_any (m : Nat) (w : World) (h : Home w) : Calls Tryd.prog 16 #[.int .u64 m] w fun e w' => e = .returned (.bool (reservedB m)) ∧ w = w' := by
  refine reserved_core m w ((List.range 16).map fun k => .int .u64 ((1652522221568 + k : Nat) : Int)) (by simp) ?_ ?_
  · intro j v hj
    have hlt : j < 16 := by
      have := (List.getElem?_eq_some_iff.1 hj).1
      simpa using this
    rw [Nat.zero_add, h.1 j hlt]
    simp [hlt] at hj
    rw [← hj]
    simp
  · intro k hk
    simp [hk]

end Mac
end Go.Proofs.YtjljfigppbahfaaDoor
