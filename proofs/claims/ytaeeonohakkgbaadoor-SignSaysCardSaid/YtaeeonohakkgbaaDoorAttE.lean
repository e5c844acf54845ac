/-
  What attr.Same (through slices.Equal), and the document's answer beside it, say of any two slices of attributes.
-/
import Derived.Test.YtaeeonohakkgbaaDoorAttA
import Derived.Laws.StructEq
import Derived.Shelf.SlicesQ.Load
import Derived.Shelf.SlicesE.Equal
namespace Go.Proofs.YtaeeonohakkgbaaDoor
open Go.RowKit Go.Lib
namespace Att
open Oct

theorem neq_at (x y : At) (w : World) : (binOp .neq 39 (.agg (enc x).toArray) (.agg (enc y).toArray)).run Tryd.prog w = .ok (.bool (!decide (x = y))) w := by
  have u3 := Tryd.underlying3
  have u9 := Tryd.underlying9
  have hS : Tryd.prog.underlying 39 = some (.struct (Tryd.prog.fieldsOf 39)) := by kernel_rfl
  have hp : Tryd.prog.stoodInHeld 39 = false := by kernel_rfl
  obtain ⟨x1, x2⟩ := x
  obtain ⟨y1, y2⟩ := y
  have e2 : (x2.toList == y2.toList) = decide (x2 = y2) := by
    rw [Bool.eq_iff_iff, beq_iff_eq, decide_eq_true_iff, ByteArray.toList_eq, ByteArray.toList_eq]
    exact ⟨fun h => ByteArray.ext (Array.toList_inj.1 h), fun h => by rw [h]⟩
  simp only [enc]
  rw [run_neq_struct, show (10000 : Nat) = 9999 + 1 from rfl, run_equalIn_agg w 9999 39 _ _ hS hp]
  simp only [Program.fieldsOf, Tryd.underlying39]
  go_simp
  by_cases h1 : x1 = y1 <;> by_cases h2 : x2 = y2 <;> simp [h1, h2]

theorem guard_at (op : BinOp) (a b : Operand) (x y : At) (w : World) : Sem.run Tryd.prog (eqGuard op 39 a b (.agg (enc x).toArray) (.agg (enc y).toArray)) w = .ok () w :=
  run_eqGuard_agg w op 39 a b (enc x).toArray (enc y).toArray (by kernel_rfl)

/-- A whole attribute loaded. -/
theorem load_at {w : World} {A : Option Addr} {l : List At} (h : Ats w A l) {k : Nat} (hk : k < l.length) : ∃ b o, A = some ⟨b, o, none⟩ ∧ ∀ m, Sem.run Tryd.prog (loadCellsFrom ⟨b, o + k * 2, none⟩ 0 2 #[]) (w.drewN m) = .ok (enc l[k]).toArray (w.drewN m) := by
  obtain ⟨b, o, e, _, c0, c1⟩ := h.at hk
  refine ⟨b, o, e, fun m => run_loadCellsFrom_list Tryd.prog _ _ (enc l[k]) 2 rfl (fun i v hi => ?_)⟩
  rw [World.cell?_drewN, Addr.add_lit]
  match i, hi with
  | 0, hi => simp [enc] at hi; subst hi; exact c0
  | 1, hi => simp [enc] at hi; subst hi; exact c1

set_option maxHeartbeats 2000000 in
set_option maxRecDepth 100000 in
theorem rsame_any (l m : List At) (hl : l.length ≤ maxLen) (hm : m.length ≤ maxLen) (A B : Option Addr) (c d : Nat) (w : World) (hA : Ats w A l) (hB : Ats w B m) :
    Calls Tryd.prog 34 #[.slice A l.length c, .slice B m.length d] w fun e w' => e = .returned (.bool (decide (l = m))) ∧ ∃ q, w' = w.drewN q := by
  have hl' : l.length ≤ 9223372036854775807 := hl
  have hm' : m.length ≤ 9223372036854775807 := hm
  by_cases hlen : l.length = m.length
  · have HA := Lib.hid hA
    have HB := Lib.hid hB
    clear hA hB
    generalize hn : l.length = n at *
    generalize hn2 : m.length = n2 at *
    subst hlen
    go_enter Tryd.func34, Tryd.ntmps34
    go_wp2
    go_loopg [13] n (fun g s13 wr => ∃ kk q : Nat, kk ≤ n ∧ n - kk ≤ g ∧ s13 = .int .i64 kk ∧ wr = w.drewN q ∧ Aside (∀ j, j < kk → l[j]? = m[j]?))
    case atStart => exact ⟨0, 0, Nat.zero_le _, by omega, rfl, rfl, fun j hj => absurd hj (Nat.not_lt_zero _)⟩
    case round =>
      obtain ⟨kk, q, hkk, hg, rfl, rfl, HE⟩ := hrel
      by_cases hlt : kk < n
      · obtain ⟨b1, o1, rfl, _, a0, a1⟩ := HA.out.at (k := kk) (by omega)
        obtain ⟨b2, o2, rfl, _, c0, c1⟩ := HB.out.at (k := kk) (by omega)
        have HX := Lib.hid (show l[kk]? = some l[kk] from List.getElem?_eq_getElem (by omega))
        have HY := Lib.hid (show m[kk]? = some m[kk] from List.getElem?_eq_getElem (by omega))
        generalize l[kk] = x at *
        generalize m[kk] = y at *
        obtain ⟨x1, x2⟩ := x
        obtain ⟨y1, y2⟩ := y
        have hne : ∀ w, (binOp .neq 39 (.agg #[.int .i64 x1, .string x2]) (.agg #[.int .i64 y1, .string y2])).run Tryd.prog w = .ok (.bool (!decide ((x1, x2) = (y1, y2)))) w := fun w => neq_at (x1, x2) (y1, y2) w
        have hgd : ∀ (op : BinOp) (a b : Operand) (w : World), Sem.run Tryd.prog (eqGuard op 39 a b (.agg #[.int .i64 x1, .string x2]) (.agg #[.int .i64 y1, .string y2])) w = .ok () w := fun op a b w => guard_at op a b (x1, x2) (y1, y2) w
        change (w.drewN q).cell? _ = _ at a0 a1 c0 c1
        generalize hwq : w.drewN q = wq at a0 a1 c0 c1 ⊢
        simp only at a0 a1 c0 c1
        by_cases hxy : (x1, x2) = (y1, y2)
        · rw [decide_eq_true hxy] at hne
          go_wp2
          go_quiet (fail)
          go_wp2
          go_roundg (n - (kk + 1))
          case measure => omega
          case rel =>
            refine ⟨kk + 1, q + nq, by omega, by omega, by go_num, by rw [← hwq, World.drewN_drewN], (show Aside _ from fun j hj => ?_)⟩
            by_cases e : j = kk
            · subst e
              rw [HX.out, HY.out, hxy]
            · exact HE.out j (by omega)
        · rw [decide_eq_false hxy] at hne
          go_wp2
          go_quiet (fail)
          go_wp2
          go_ret
          have hlm : ¬ l = m := fun h => hxy (by have := HX.out; rw [h, HY.out] at this; exact (Option.some.inj this).symm)
          exact ⟨ret_bool (decide_eq_false hlm).symm, q + nq, by rw [← hwq, World.drewN_drewN]⟩
      · go_wp2
        go_ret
        have hlm : l = m := List.ext_getElem? (fun j => by
          by_cases h : j < kk
          · exact HE.out j h
          · rw [List.getElem?_eq_none (by omega), List.getElem?_eq_none (by omega)])
        exact ⟨ret_bool (decide_eq_true hlm).symm, q, rfl⟩
  · have hlen' : ¬ (l.length : Int) = (m.length : Int) := by omega
    have hlm : ¬ l = m := fun h => hlen (by rw [h])
    go_enter Tryd.func34, Tryd.ntmps34
    go_wp2
    go_ret
    exact ⟨ret_bool (decide_eq_false hlm).symm, 0, rfl⟩

set_option maxHeartbeats 2000000 in
set_option maxRecDepth 100000 in
theorem equal_any (l m : List At) (hl : l.length ≤ maxLen) (hm : m.length ≤ maxLen) (A B : Option Addr) (c d : Nat) (w : World) (hA : Ats w A l) (hB : Ats w B m) :
    Calls Tryd.prog 42 #[.slice A l.length c, .slice B m.length d] w fun e w' => e = .returned (.bool (decide (l = m))) ∧ ∃ q, w' = w.drewN q := by
  have hl' : l.length ≤ 9223372036854775807 := hl
  have hm' : m.length ≤ 9223372036854775807 := hm
  by_cases hlen : l.length = m.length
  · have HA := Lib.hid hA
    have HB := Lib.hid hB
    clear hA hB
    generalize hn : l.length = n at *
    generalize hn2 : m.length = n2 at *
    subst hlen
    go_enter Tryd.func42, Tryd.ntmps42
    go_wp2
    go_loopg [13] n (fun g s13 wr => ∃ kk q : Nat, kk ≤ n ∧ n - kk ≤ g ∧ s13 = .int .i64 kk ∧ wr = w.drewN q ∧ Aside (∀ j, j < kk → l[j]? = m[j]?))
    case atStart => exact ⟨0, 0, Nat.zero_le _, by omega, rfl, rfl, fun j hj => absurd hj (Nat.not_lt_zero _)⟩
    case round =>
      obtain ⟨kk, q, hkk, hg, rfl, rfl, HE⟩ := hrel
      by_cases hlt : kk < n
      · obtain ⟨b1, o1, rfl, _, a0, a1⟩ := HA.out.at (k := kk) (by omega)
        obtain ⟨b2, o2, rfl, _, c0, c1⟩ := HB.out.at (k := kk) (by omega)
        have HX := Lib.hid (show l[kk]? = some l[kk] from List.getElem?_eq_getElem (by omega))
        have HY := Lib.hid (show m[kk]? = some m[kk] from List.getElem?_eq_getElem (by omega))
        generalize l[kk] = x at *
        generalize m[kk] = y at *
        obtain ⟨x1, x2⟩ := x
        obtain ⟨y1, y2⟩ := y
        have hne : ∀ w, (binOp .neq 39 (.agg #[.int .i64 x1, .string x2]) (.agg #[.int .i64 y1, .string y2])).run Tryd.prog w = .ok (.bool (!decide ((x1, x2) = (y1, y2)))) w := fun w => neq_at (x1, x2) (y1, y2) w
        have hgd : ∀ (op : BinOp) (a b : Operand) (w : World), Sem.run Tryd.prog (eqGuard op 39 a b (.agg #[.int .i64 x1, .string x2]) (.agg #[.int .i64 y1, .string y2])) w = .ok () w := fun op a b w => guard_at op a b (x1, x2) (y1, y2) w
        change (w.drewN q).cell? _ = _ at a0 a1 c0 c1
        generalize hwq : w.drewN q = wq at a0 a1 c0 c1 ⊢
        simp only at a0 a1 c0 c1
        by_cases hxy : (x1, x2) = (y1, y2)
        · rw [decide_eq_true hxy] at hne
          go_wp2
          go_quiet (fail)
          go_wp2
          go_roundg (n - (kk + 1))
          case measure => omega
          case rel =>
            refine ⟨kk + 1, q + nq, by omega, by omega, by go_num, by rw [← hwq, World.drewN_drewN], (show Aside _ from fun j hj => ?_)⟩
            by_cases e : j = kk
            · subst e
              rw [HX.out, HY.out, hxy]
            · exact HE.out j (by omega)
        · rw [decide_eq_false hxy] at hne
          go_wp2
          go_quiet (fail)
          go_wp2
          go_ret
          have hlm : ¬ l = m := fun h => hxy (by have := HX.out; rw [h, HY.out] at this; exact (Option.some.inj this).symm)
          exact ⟨ret_bool (decide_eq_false hlm).symm, q + nq, by rw [← hwq, World.drewN_drewN]⟩
      · go_wp2
        go_ret
        have hlm : l = m := List.ext_getElem? (fun j => by
          by_cases h : j < kk
          · exact HE.out j h
          · rw [List.getElem?_eq_none (by omega), List.getElem?_eq_none (by omega)])
        exact ⟨ret_bool (decide_eq_true hlm).symm, q, rfl⟩
  · have hlen' : ¬ (l.length : Int) = (m.length : Int) := by omega
    have hlm : ¬ l = m := fun h => hlen (by rw [h])
    go_enter Tryd.func42, Tryd.ntmps42
    go_wp2
    go_ret
    exact ⟨ret_bool (decide_eq_false hlm).symm, 0, rfl⟩

theorem same_any (l m : List At) (hl : l.length ≤ maxLen) (hm : m.length ≤ maxLen) (A B : Option Addr) (c d : Nat) (w : World) (hA : Ats w A l) (hB : Ats w B m) :
    Calls Tryd.prog 19 #[.slice A l.length c, .slice B m.length d] w fun e w' => e = .returned (.bool (decide (l = m))) ∧ ∃ q, w' = w.drewN q := by
  have HL := Lib.hid (fun w hA hB => equal_any l m hl hm A B c d w hA hB)
  generalize decide (l = m) = r at *
  go_enter Tryd.func19, Tryd.ntmps19
  go_wp2_with fail
  refine (HL.out _ hA hB).mono ?_; rintro e w1 ⟨rfl, q, rfl⟩
  go_wp2_with fail
  go_ret
  exact ⟨rfl, q, rfl⟩

theorem drew_below (w : World) (q : Nat) : Below w.heap.size w (w.drewN q) := by
  induction q with
  | zero => exact Below.refl _ _
  | succ n ih => exact ih.drew

end Att
end Go.Proofs.YtaeeonohakkgbaaDoor
