/-
  What decide.Kind and the document answer of any frame, in every memory that holds the table of reserved addresses as the program's text lays it.
-/
import Derived.Test.YtmojegnflcokjaaDoorPkDict
namespace Go.Proofs.YtmojegnflcokjaaDoor
open Go.RowKit
namespace Fwd
open Oct Eth

/-- The memory holds the table of reserved addresses. -/
def Home (w : World) : Prop := (∀ j : Nat, j < 16 → w.cell? ⟨0, j, none⟩ = some (.int .u64 ((1652522221568 + j : Nat) : Int))) ∧ 0 < w.heap.size

theorem Home.below {w w' : World} (h : Home w) (hb : Below w.heap.size w w') : Home w' := by
  obtain ⟨h1, h3⟩ := h
  refine ⟨fun j hj => ?_, Nat.lt_of_lt_of_le h3 hb.size⟩
  rw [hb.cell (p := ⟨0, j, none⟩) h3]
  exact h1 j hj

theorem reserved_any (m : Nat) (w : World) (h : Home w) : Calls Tryd.prog 39 #[.int .u64 m] w fun e w' => e = .returned (.bool (Mac.reservedB m)) ∧ w = w' := by
  refine Mac.reserved_core m w ((List.range 16).map fun k => .int .u64 ((1652522221568 + k : Nat) : Int)) (by simp) ?_ ?_
  · intro j v hj
    have hlt : j < 16 := by
      have := (List.getElem?_eq_some_iff.1 hj).1
      simpa using this
    rw [Nat.zero_add, h.1 j hlt]
    simp [hlt] at hj
    rw [← hj]
    simp
  · intro k hk
    simp [hk]

set_option maxRecDepth 20000 in
theorem kind_any (d : Nat) (s : Int) (g : Bool) (p v t : Int) (b : ByteArray) (w : World) (h : Home w) :
    Calls Tryd.prog 12 #[fr d s g p v t b] w fun e w' => e = .returned (.int .i64 (kindN t d)) ∧ Below w.heap.size w w' := by
  have bel := Lib.hid (Bx.box_below w (Mem.fo d s g p v t b))
  have HR := Lib.hid (reserved_any d _ (h.below bel.out))
  unfold kindN
  by_cases h1 : t = 34958
  · subst h1
    go_enter Tryd.func12, Tryd.ntmps12
    go_wp2
    go_ret
    exact ⟨rfl, bel.out⟩
  · have e1 : (t == 34958) = false := by simpa using h1
    rw [if_neg h1]
    by_cases h2 : d = 1652522221568
    · subst h2
      go_enter Tryd.func12, Tryd.ntmps12
      go_wp2
      go_ret
      exact ⟨rfl, bel.out⟩
    · have e2 : ((d : Int) == 1652522221568) = false := by simp; omega
      rw [if_neg h2]
      clear h2
      cases hr : Mac.reservedB d with
      | true =>
        rw [hr] at HR
        go_enter Tryd.func12, Tryd.ntmps12
        go_wp2_with fail
        refine HR.out.mono ?_; rintro e w1 ⟨rfl, rfl⟩
        go_wp2
        go_ret
        exact ⟨rfl, bel.out⟩
      | false =>
        rw [hr] at HR
        go_enter Tryd.func12, Tryd.ntmps12
        go_wp2_with fail
        refine HR.out.mono ?_; rintro e w1 ⟨rfl, rfl⟩
        go_wp2
        go_ret
        exact ⟨rfl, bel.out⟩

set_option maxRecDepth 20000 in
theorem rkind_any (d : Nat) (hd : d < 18446744073709551616) (s : Int) (g : Bool) (p v t : Int) (b : ByteArray) (w : World) :
    Calls Tryd.prog 13 #[fr d s g p v t b] w fun e w' => e = .returned (.int .i64 (kindN t d)) ∧ Below w.heap.size w w' := by
  have bel := Lib.hid (Bx.box_below w (Mem.fo d s g p v t b))
  have HR := Lib.hid (fun w => Mac.rreserved_any d hd w)
  unfold kindN
  by_cases h1 : t = 34958
  · subst h1
    go_enter Tryd.func13, Tryd.ntmps13
    go_wp2
    go_ret
    exact ⟨rfl, bel.out⟩
  · have e1 : (t == 34958) = false := by simpa using h1
    rw [if_neg h1]
    by_cases h2 : d = 1652522221568
    · subst h2
      go_enter Tryd.func13, Tryd.ntmps13
      go_wp2
      go_ret
      exact ⟨rfl, bel.out⟩
    · have e2 : ((d : Int) == 1652522221568) = false := by simp; omega
      rw [if_neg h2]
      clear h2
      cases hr : Mac.reservedB d with
      | true =>
        rw [hr] at HR
        go_enter Tryd.func13, Tryd.ntmps13
        go_wp2_with fail
        refine (HR.out _).mono ?_; rintro e w1 ⟨rfl, rfl⟩
        go_wp2
        go_ret
        exact ⟨rfl, bel.out⟩
      | false =>
        rw [hr] at HR
        go_enter Tryd.func13, Tryd.ntmps13
        go_wp2_with fail
        refine (HR.out _).mono ?_; rintro e w1 ⟨rfl, rfl⟩
        go_wp2
        go_ret
        exact ⟨rfl, bel.out⟩

end Fwd
end Go.Proofs.YtmojegnflcokjaaDoor
