/-
  Packed in one text: OctAwake, MacB, FwdA.
-/
import Derived.Test.YtmojegnflcokjaaDoorPkOctNum
import Derived.Deep.MidRow
import Derived.Test.YtmojegnflcokjaaDoorPkMemW
/-
  The check of single answers that the statements of layer 1 end with (tipstafflaw01.awake) comes out true, whatever the memory, and changes nothing that was there.
-/
namespace Go.Proofs.YtmojegnflcokjaaDoor
open Go.RowKit
namespace Oct

theorem below_then {a b c : World} (h1 : Below a.heap.size a b) (h2 : Below b.heap.size b c) : Below a.heap.size a c := h1.trans (h2.mono h1.size)

end Oct
end Go.Proofs.YtmojegnflcokjaaDoor

/-
  What mac.Reserved, mac.Text and mac.Parse answer, in every memory that holds the table of reserved addresses as the program's text lays it; and that they change nothing that was there.
-/
namespace Go.Proofs.YtmojegnflcokjaaDoor
open Go.RowKit
namespace Mac
open Oct

theorem info_res : (Tryd.prog.info? 102).map (·.size) = some 16 := by kernel_rfl
theorem info_mac : (Tryd.prog.info? 30).map (·.size) = some 1 := by kernel_rfl

theorem run_index_tab (w : World) (cs : List Value) (k : Nat) (hk : k < 16) (v : Value) (hv : cs[k]? = some v) :
    (Instr.index 102 (.agg cs.toArray) (.int .i64 (k : Int))).run Tryd.prog w = .ok v w := by
  have hk2 : (0 : Int) ≤ (k : Int) ∧ (k : Int) < ((16 : Nat) : Int) := ⟨by omega, by omega⟩
  have hz : (sizeOf 30).run Tryd.prog w = .ok 1 w := by kernel_rfl
  unfold Instr.index
  simp [asIntOf, run_underlying Tryd.underlying102, hz, part, hk, hv]

set_option maxRecDepth 40000 in
theorem reserved_core (m : Nat) (w : World) (cs : List Value) (hl : cs.length = 16) (hc : w.rangeAt 0 0 cs)
    (hcs : ∀ k : Nat, k < 16 → cs[k]? = some (.int .u64 ((1652522221568 + k : Nat) : Int))) : Calls Tryd.prog 39 #[.int .u64 m] w fun e w' => e = .returned (.bool (reservedB m)) ∧ w = w' := by
  have HI : (Tryd.prog.info? 102).map (·.size) = some cs.length := by rw [hl]; exact info_res
  have HI' := Lib.hid HI
  have HC := Lib.hid hcs
  have HL := Lib.hid hl
  have HR := Lib.hid hc
  clear HI hcs hl hc
  go_enter Tryd.func39, Tryd.ntmps39
  go_wp2_with (refine wpList_load_mid rfl 102 (.global 0) rfl 0 0 rfl cs (.array 16 30) HR.out Tryd.underlying102 rfl HI'.out ?_)
  go_loop [4, 6] (fun _ i => ∃ k : Nat, k ≤ 16 ∧ i = .int .i64 k ∧ Aside (∀ j : Nat, j < k → m ≠ 1652522221568 + j)) (fun _ i => 16 - (intOf i).toNat)
  case atStart => exact ⟨0, by omega, rfl, fun j h => by omega⟩
  case round =>
    obtain ⟨k, hk, rfl, HN⟩ := hrel
    by_cases hlt : k < 16
    · have hx := run_index_tab w cs k hlt _ (HC.out k hlt)
      by_cases he : m = 1652522221568 + k
      · have hq : ((m : Int) == ((1652522221568 + k : Nat) : Int)) = true := by rw [he]; simp
        have HE := Lib.hid (show reservedB m = true by unfold reservedB; rw [he]; simp; omega)
        clear he
        generalize ((1652522221568 + k : Nat) : Int) = z at *
        go_wp2
        go_ret
        exact ⟨ret_bool HE.out.symm, rfl⟩
      · have hq : ((m : Int) == ((1652522221568 + k : Nat) : Int)) = false := by simp; omega
        have HE := Lib.hid he
        clear he
        generalize ((1652522221568 + k : Nat) : Int) = z at *
        go_wp2
        go_round
        case rel =>
          refine ⟨k + 1, by omega, by go_num, fun j hj => ?_⟩
          by_cases h : j = k
          · subst h; exact HE.out
          · exact HN.out j (by omega)
        case measure => simp [intOf]; omega
    · have HE := Lib.hid (show reservedB m = false by
        unfold reservedB
        have h16 := HN.out
        have : ¬ (m / 16 = 103282638848) := fun h => h16 (m % 16) (by omega) (by omega)
        simp [this])
      go_wp2
      go_ret
      exact ⟨ret_bool HE.out.symm, rfl⟩

end Mac
end Go.Proofs.YtmojegnflcokjaaDoor

/-
  What decide.Kind and the document answer of any frame, in every memory that holds the table of reserved addresses as the program's text lays it.
-/
namespace Go.Proofs.YtmojegnflcokjaaDoor
open Go.RowKit
namespace Fwd
open Oct Eth

/-- The memory holds the table of reserved addresses. -/
def Home (w : World) : Prop := (∀ j : Nat, j < 16 → w.cell? ⟨0, j, none⟩ = some (.int .u64 ((1652522221568 + j : Nat) : Int))) ∧ 0 < w.heap.size

theorem Home.below {w w' : World} (h : Home w) (hb : Below w.heap.size w w') : Home w' := by
  obtain ⟨h1, h3⟩ := h
  refine ⟨fun j hj => ?_, Nat.lt_of_lt_of_le h3 hb.size⟩
  rw [hb.cell (p := ⟨0, j, none⟩) h3]
  exact h1 j hj

theorem reserved_any (m : Nat) (w : World) (h : Home w) : Calls Tryd.prog 39 #[.int .u64 m] w fun e w' => e = .returned (.bool (Mac.reservedB m)) ∧ w = w' := by
  refine Mac.reserved_core m w ((List.range 16).map fun k => .int .u64 ((1652522221568 + k : Nat) : Int)) (by simp) ?_ ?_
  · intro j v hj
    have hlt : j < 16 := by
      have := (List.getElem?_eq_some_iff.1 hj).1
      simpa using this
    rw [Nat.zero_add, h.1 j hlt]
    simp [hlt] at hj
    rw [← hj]
    simp
  · intro k hk
    simp [hk]

set_option maxRecDepth 20000 in
theorem kind_any (d : Nat) (s : Int) (g : Bool) (p v t : Int) (b : ByteArray) (w : World) (h : Home w) :
    Calls Tryd.prog 12 #[fr d s g p v t b] w fun e w' => e = .returned (.int .i64 (kindN t d)) ∧ Below w.heap.size w w' := by
  have bel := Lib.hid (Bx.box_below w (Mem.fo d s g p v t b))
  have HR := Lib.hid (reserved_any d _ (h.below bel.out))
  unfold kindN
  by_cases h1 : t = 34958
  · subst h1
    go_enter Tryd.func12, Tryd.ntmps12
    go_wp2
    go_ret
    exact ⟨rfl, bel.out⟩
  · have e1 : (t == 34958) = false := by simpa using h1
    rw [if_neg h1]
    by_cases h2 : d = 1652522221568
    · subst h2
      go_enter Tryd.func12, Tryd.ntmps12
      go_wp2
      go_ret
      exact ⟨rfl, bel.out⟩
    · have e2 : ((d : Int) == 1652522221568) = false := by simp; omega
      rw [if_neg h2]
      clear h2
      cases hr : Mac.reservedB d with
      | true =>
        rw [hr] at HR
        go_enter Tryd.func12, Tryd.ntmps12
        go_wp2_with fail
        refine HR.out.mono ?_; rintro e w1 ⟨rfl, rfl⟩
        go_wp2
        go_ret
        exact ⟨rfl, bel.out⟩
      | false =>
        rw [hr] at HR
        go_enter Tryd.func12, Tryd.ntmps12
        go_wp2_with fail
        refine HR.out.mono ?_; rintro e w1 ⟨rfl, rfl⟩
        go_wp2
        go_ret
        exact ⟨rfl, bel.out⟩

set_option maxRecDepth 20000 in
theorem rkind_any (d : Nat) (hd : d < 18446744073709551616) (s : Int) (g : Bool) (p v t : Int) (b : ByteArray) (w : World) :
    Calls Tryd.prog 13 #[fr d s g p v t b] w fun e w' => e = .returned (.int .i64 (kindN t d)) ∧ Below w.heap.size w w' := by
  have bel := Lib.hid (Bx.box_below w (Mem.fo d s g p v t b))
  have HR := Lib.hid (fun w => Mac.rreserved_any d hd w)
  unfold kindN
  by_cases h1 : t = 34958
  · subst h1
    go_enter Tryd.func13, Tryd.ntmps13
    go_wp2
    go_ret
    exact ⟨rfl, bel.out⟩
  · have e1 : (t == 34958) = false := by simpa using h1
    rw [if_neg h1]
    by_cases h2 : d = 1652522221568
    · subst h2
      go_enter Tryd.func13, Tryd.ntmps13
      go_wp2
      go_ret
      exact ⟨rfl, bel.out⟩
    · have e2 : ((d : Int) == 1652522221568) = false := by simp; omega
      rw [if_neg h2]
      clear h2
      cases hr : Mac.reservedB d with
      | true =>
        rw [hr] at HR
        go_enter Tryd.func13, Tryd.ntmps13
        go_wp2_with fail
        refine (HR.out _).mono ?_; rintro e w1 ⟨rfl, rfl⟩
        go_wp2
        go_ret
        exact ⟨rfl, bel.out⟩
      | false =>
        rw [hr] at HR
        go_enter Tryd.func13, Tryd.ntmps13
        go_wp2_with fail
        refine (HR.out _).mono ?_; rintro e w1 ⟨rfl, rfl⟩
        go_wp2
        go_ret
        exact ⟨rfl, bel.out⟩

end Fwd
end Go.Proofs.YtmojegnflcokjaaDoor
