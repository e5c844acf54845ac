/-
  slices.Index at vectors, prefer.Least and the document's Least.
-/
import Derived.Test.YtkggphonoihidaaDoorPreB
namespace Go.Proofs.YtkggphonoihidaaDoor
open Go.RowKit
namespace Pre
open Oct

set_option maxRecDepth 20000 in
set_option maxHeartbeats 4000000 in
theorem index_any (x : Vc) (l : List Vc) (hl : l.length ≤ 100000) (hin : ∃ k : Nat, l[k]? = some x) (A : Option Addr) (c : Nat) (w : World) (hA : Vs w A l) :
    Calls Tryd.prog 25 #[.slice A l.length c, vv x] w fun e w' => (∃ k : Nat, e = .returned (.int .i64 k) ∧ l[k]? = some x ∧ ∀ (j : Nat) (y : Vc), j < k → l[j]? = some y → ¬ y = x) ∧ Below w.heap.size w w' := by
  have B0 := Lib.hid (Bx.box_below w (vo x))
  have HA := Lib.hid (hA.below B0.out)
  have M0 := Lib.hid (Bx.Blk.new w (enc x) 30)
  have HI := Lib.hid hin
  clear hA hin
  go_enter Tryd.func25, Tryd.ntmps25
  go_wp2
  have HB1 : Hid (w.heap.size < (w.alloc (vo x)).heap.size) := Lib.hid (by simp)
  go_loopw [5, 8] (fun _ ix wr => ∃ k : Nat, k ≤ l.length ∧ ix = .int .i64 k ∧ Aside (∀ (j : Nat) (y : Vc), j < k → l[j]? = some y → ¬ y = x) ∧ Aside (Below (w.alloc (vo x)).heap.size (w.alloc (vo x)) wr)) (fun _ ix _ => l.length - (intOf ix).toNat)
  case atStart => exact ⟨0, Nat.zero_le _, rfl, fun j y hj => absurd hj (Nat.not_lt_zero _), Below.refl _ _⟩
  case round =>
    obtain ⟨k, hk, rfl, HN, HB⟩ := hrel
    by_cases hlt : k < l.length
    · obtain ⟨b, o, rfl, _, d0, d1, d2, d3⟩ := (HA.out.below HB.out).at hlt
      have HY := Lib.hid (show l[k]? = some l[k] from List.getElem?_eq_getElem hlt)
      generalize l[k] = y at *
      obtain ⟨m0, m1, m2, m3⟩ := (M0.out.keep HB.out).all4
      obtain ⟨p1, p2, p3, p4⟩ := y
      obtain ⟨q1, q2, q3, q4⟩ := x
      simp only at d0 d1 d2 d3 m0 m1 m2 m3
      have hgd : ∀ (op : BinOp) (a b : Operand) (w : World), Sem.run Tryd.prog (eqGuard op 30 a b (.agg #[.int .u64 q1, .int .u64 q2, .int .u64 q3, .int .i64 q4]) (.agg #[.int .u64 p1, .int .u64 p2, .int .u64 p3, .int .i64 p4])) w = .ok () w := fun op a b w => guard_at op a b q1 q2 q3 q4 p1 p2 p3 p4 w
      by_cases hxy : (⟨q1, q2, q3, q4⟩ : Vc) = ⟨p1, p2, p3, p4⟩
      · have heq : ∀ w, (binOp .eql 30 (.agg #[.int .u64 q1, .int .u64 q2, .int .u64 q3, .int .i64 q4]) (.agg #[.int .u64 p1, .int .u64 p2, .int .u64 p3, .int .i64 p4])).run Tryd.prog w = .ok (.bool true) w := fun w => by rw [eql_at, decide_eq_true hxy]
        have B2 := Lib.hid (B0.out.trans (HB.out.mono (Nat.le_of_lt HB1.out)))
        have HXY := Lib.hid hxy
        clear hxy
        go_wp2
        go_quiet (fail)
        go_wp2
        go_ret
        exact ⟨⟨k, rfl, by rw [HXY.out]; exact HY.out, HN.out⟩, below_drewN B2.out _⟩
      · have heq : ∀ w, (binOp .eql 30 (.agg #[.int .u64 q1, .int .u64 q2, .int .u64 q3, .int .i64 q4]) (.agg #[.int .u64 p1, .int .u64 p2, .int .u64 p3, .int .i64 p4])).run Tryd.prog w = .ok (.bool false) w := fun w => by rw [eql_at, decide_eq_false hxy]
        have HN2 : Hid (∀ (j : Nat) (y : Vc), j < k + 1 → l[j]? = some y → ¬ y = ⟨q1, q2, q3, q4⟩) := Lib.hid fun j y hj hy => by
          by_cases e : j = k
          · subst e
            have := HY.out
            rw [hy] at this
            cases this
            exact fun e => hxy e.symm
          · exact HN.out j y (by omega) hy
        clear hxy
        go_wp2
        go_quiet (fail)
        go_wp2
        go_roundw
        case rel => exact ⟨k + 1, by omega, by go_num, HN2.out, below_drewN HB.out _⟩
        case measure => simp [intOf]; omega
    · exfalso
      obtain ⟨j, hj⟩ := HI.out
      exact HN.out j x (by have := (List.getElem?_eq_some_iff.1 hj).1; omega) hj rfl

set_option maxRecDepth 20000 in
set_option maxHeartbeats 4000000 in
theorem least_any (l : List Vc) (hl : l.length ≤ 100000) (A : Option Addr) (c : Nat) (w : World) (hA : Vs w A l) :
    Calls Tryd.prog 12 #[.slice A l.length c] w fun e w' => (∃ z : Int, e = .returned (.int .i64 z) ∧ FstZ l z) ∧ Below w.heap.size w w' := by
  cases l with
  | nil =>
    go_enter Tryd.func12, Tryd.ntmps12
    go_wp2
    go_ret
    exact ⟨⟨-1, rfl, .inl ⟨rfl, rfl⟩⟩, Below.refl _ _⟩
  | cons x0 l =>
    have hl' : l.length ≤ 100000 := by simp at hl; omega
    have HM := Lib.hid (best_any x0 l hl' A c)
    have HI := Lib.hid (fun w' => index_any (leastV x0 l) (x0 :: l) hl (least_at x0 l) A c w')
    have HF := Lib.hid (first_of_least x0 l)
    have HA := Lib.hid hA
    clear hA hl
    have hz : (((l.length : Int) + 1) == 0) = false := beq_eq_false_iff_ne.2 (by omega)
    have hz2 : ¬ ((l.length : Int) + 1 = 0) := by omega
    generalize leastV x0 l = m at *
    show Calls _ _ #[.slice A (l.length + 1) c] _ _
    have HI' : Hid (∀ w', Vs w' A (x0 :: l) → Calls Tryd.prog 25 #[.slice A (l.length + 1) c, vv m] w' fun e w'' => (∃ k : Nat, e = .returned (.int .i64 k) ∧ (x0 :: l)[k]? = some m ∧ ∀ (j : Nat) (y : Vc), j < k → (x0 :: l)[j]? = some y → ¬ y = m) ∧ Below w'.heap.size w' w'') := HI
    clear HI
    go_enter Tryd.func12, Tryd.ntmps12
    go_wp2_with fail
    refine (HM.out w HA.out).mono ?_; rintro e w1 ⟨rfl, hb1⟩
    have A1 := Lib.hid (HA.out.below hb1)
    have B1 := Lib.hid hb1
    clear hb1
    go_wp2_with fail
    refine (HI'.out w1 A1.out).mono ?_; rintro e w2 ⟨⟨k, rfl, hk, hf⟩, hb2⟩
    have B2 := Lib.hid (Bx.then_below B1.out hb2)
    have HK := Lib.hid (HF.out k hk hf)
    clear hb2 hk hf
    go_wp2
    go_ret
    exact ⟨⟨k, rfl, .inr ⟨k, rfl, HK.out⟩⟩, B2.out⟩

/-- The document's place so far. -/
def atZ (l : List Vc) (n : Nat) (z : Int) : Prop := (n = 0 ∧ z = -1) ∨ ∃ k : Nat, z = k ∧ Fto l n k

end Pre
end Go.Proofs.YtkggphonoihidaaDoor
