/-
  Two plans that read alike are the same, as the law finds.
-/
import Derived.Test.YtbighadkcmhplaaMemW
import Derived.Laws.StructEq
import Derived.ChangeKeysEq
namespace Go.Proofs.Ytbighadkcmhplaa
open Go.RowKit
namespace Mem
open Oct Eth

theorem neq_vl (x : Vl) (w : World) : (binOp .neq 38 (.agg #[.int .i64 x.v, .int .i64 x.t, .int .i64 x.u]) (.agg #[.int .i64 x.v, .int .i64 x.t, .int .i64 x.u])).run Try.prog w = .ok (.bool false) w := by
  have u3 := Try.underlying3
  have hS : Try.prog.underlying 38 = some (.struct (Try.prog.fieldsOf 38)) := by kernel_rfl
  have hp : Try.prog.stoodInHeld 38 = false := by kernel_rfl
  obtain ⟨x1, x2, x3⟩ := x
  simp only
  rw [run_neq_struct, show (10000 : Nat) = 9999 + 1 from rfl, run_equalIn_agg w 9999 38 _ _ hS hp]
  simp only [Program.fieldsOf, Try.underlying38]
  go_simp

theorem guard_vl (op : BinOp) (a b : Operand) (xs ys : Array Value) (w : World) : Sem.run Try.prog (eqGuard op 38 a b (.agg xs) (.agg ys)) w = .ok () w :=
  run_eqGuard_agg w op 38 a b xs ys (by kernel_rfl)

theorem guard_row (op : BinOp) (a b : Operand) (xs ys : Array Value) (w : World) : Sem.run Try.prog (eqGuard op 22 a b (.agg xs) (.agg ys)) w = .ok () w :=
  run_eqGuard_agg w op 22 a b xs ys (by kernel_rfl)

theorem part_int (xs : Array Value) (j : Nat) (v : Int) (h : xs[j]? = some (.int .i64 v)) (w : World) : (part 3 xs j).run Try.prog w = .ok (.int .i64 v) w := by
  have ha : (isAgg 3).run Try.prog w = .ok false w := by simp [go_sem]
  simp only [part, Sem.run_bind, ha, Result.andThen_ok, h]
  simp

theorem neq_row (o : Nat → Int) (w : World) : (binOp .neq 22 (.agg #[.int .i64 (o 0), .int .i64 (o 1), .int .i64 (o 2), .int .i64 (o 3), .int .i64 (o 4), .int .i64 (o 5), .int .i64 (o 6), .int .i64 (o 7)]) (.agg #[.int .i64 (o 0), .int .i64 (o 1), .int .i64 (o 2), .int .i64 (o 3), .int .i64 (o 4), .int .i64 (o 5), .int .i64 (o 6), .int .i64 (o 7)])).run Try.prog w = .ok (.bool false) w := by
  have hn : (Try.prog.info? 3).isSome = true := by kernel_rfl
  obtain ⟨i, hi⟩ := Option.isSome_iff_exists.1 hn
  have hc : Try.prog.cellsOf 3 = 1 := by kernel_rfl
  have he : ∀ x y : Int, (Op.equalIn 9999 3 (.int .i64 x) (.int .i64 y)).run Try.prog w = .ok (x == y) w := fun x y => run_equalIn_int w 9998 3 .i64 .i64 x y Try.underlying3
  rw [run_neq_struct, run_equalIn_array w 9999 (n := 8) (e := 3) _ _ Try.underlying22 hi, hc]
  simp only [List.range, List.range.loop, Op.eqItems, Nat.mul_one]
  have X := fun j v h => part_int #[.int .i64 (o 0), .int .i64 (o 1), .int .i64 (o 2), .int .i64 (o 3), .int .i64 (o 4), .int .i64 (o 5), .int .i64 (o 6), .int .i64 (o 7)] j v h w
  simp only [Sem.run_bind, Sem.run_ite, Sem.run_pure, X 0 (o 0) rfl, X 1 (o 1) rfl, X 2 (o 2) rfl, X 3 (o 3) rfl, X 4 (o 4) rfl, X 5 (o 5) rfl, X 6 (o 6) rfl, X 7 (o 7) rfl, Result.andThen_ok, he]
  simp

/-- A row of eight numbers. -/
abbrev rc (o : Nat → Int) : List Value := [.int .i64 (o 0), .int .i64 (o 1), .int .i64 (o 2), .int .i64 (o 3), .int .i64 (o 4), .int .i64 (o 5), .int .i64 (o 6), .int .i64 (o 7)]
abbrev rv (o : Nat → Int) : Value := .agg #[.int .i64 (o 0), .int .i64 (o 1), .int .i64 (o 2), .int .i64 (o 3), .int .i64 (o 4), .int .i64 (o 5), .int .i64 (o 6), .int .i64 (o 7)]

theorem range_own {W : World} {b : Nat} {o k : Nat → Int} {A : Option Addr} {n c : Nat} (h : Bx.Blk W b (pc o k A n c)) : W.rangeAt b 0 (rc o) := fun j v hv => by
  have hj : j < 8 := by
    have := (List.getElem?_eq_some_iff.1 hv).1
    simpa using this
  have e : (rc o)[j]? = some (.int .i64 (o j)) := by
    have : j = 0 ∨ j = 1 ∨ j = 2 ∨ j = 3 ∨ j = 4 ∨ j = 5 ∨ j = 6 ∨ j = 7 := by omega
    rcases this with rfl | rfl | rfl | rfl | rfl | rfl | rfl | rfl <;> rfl
  rw [e] at hv
  rw [Nat.zero_add, ← Option.some.inj hv]
  exact h.at j (pc_own o k A n c hj)

theorem range_take {W : World} {b : Nat} {o k : Nat → Int} {A : Option Addr} {n c : Nat} (h : Bx.Blk W b (pc o k A n c)) : W.rangeAt b 8 (rc k) := fun j v hv => by
  have hj : j < 8 := by
    have := (List.getElem?_eq_some_iff.1 hv).1
    simpa using this
  have e : (rc k)[j]? = some (.int .i64 (k j)) := by
    have : j = 0 ∨ j = 1 ∨ j = 2 ∨ j = 3 ∨ j = 4 ∨ j = 5 ∨ j = 6 ∨ j = 7 := by omega
    rcases this with rfl | rfl | rfl | rfl | rfl | rfl | rfl | rfl <;> rfl
  rw [e] at hv
  rw [← Option.some.inj hv]
  exact h.at (8 + j) (pc_take o k A n c hj)

theorem info_row : (Try.prog.info? 22).map (·.size) = some 8 := by kernel_rfl

theorem row_at {ops : Array Oper} {rest : List Oper} {op : Oper} {a : Act} {W : World} {Q : Exit → Act → World → Prop} (ho : op.op = .load 22 (opA op.op)) (hgd : Region.wanted op (yielded ops a.tmps) = true) (b off : Nat) (hx : a.eval (opA op.op) = .pointer (some ⟨b, off, none⟩)) (o : Nat → Int) (hR : W.rangeAt b off (rc o))
    (h : wpList Try.prog ops Q rest (a.put op.dst (rv o)) W) : wpList Try.prog ops Q (op :: rest) a W :=
  BigFrame.wpList_want hgd fun _ hK => wp_load_mid _ _ ho b off hx (rc o) _ hR Try.underlying22 rfl info_row (hK _ _ h)

theorem below_drewN (w : World) (q : Nat) : Below w.heap.size w (w.drewN q) := by
  induction q with
  | zero => exact Below.refl _ _
  | succ n ih => exact ih.drew

set_option maxHeartbeats 4000000 in
set_option maxRecDepth 100000 in
theorem same_any (o k : Nat → Int) (l : List Vl) (hl : l.length ≤ maxLen) (A B : Option Addr) (c d : Nat) (w : World) (hA : Vls w A l) (hB : Vls w B l) :
    Calls Try.prog 17 #[pv o k A l.length c, pv o k B l.length d] w fun e w' => e = .returned (.bool true) ∧ Below w.heap.size w w' := by
  have bel := Lib.hid (Bx.bel_box (Bx.box_below w (po o k A l.length c)) (po o k B l.length d))
  have HA := Lib.hid (hA.below bel.out)
  have HB := Lib.hid (hB.below bel.out)
  have PA := Lib.hid ((Bx.Blk.new w (pc o k A l.length c) 25).more (po o k B l.length d))
  have PB := Lib.hid (Bx.Blk.new_at (W := w.alloc (po o k A l.length c)) (k := w.heap.size + 1) (pc o k B l.length d) 25 (by simp))
  have hl' : l.length ≤ 9223372036854775807 := hl
  clear hA hB
  go_enter Try.func17, Try.ntmps17
  have hno := neq_row o
  have hnk := neq_row k
  have hgr := guard_row
  have RO := Lib.hid (range_own PA.out)
  have RK := Lib.hid (range_take PA.out)
  have SO := Lib.hid (range_own PB.out)
  have SK := Lib.hid (range_take PB.out)
  have p16 := PA.out.at 16 rfl
  have q16 := PB.out.at 16 rfl
  go_wp2_with (first | ((with_reducible refine row_at ?_ ?_ w.heap.size 0 ?_ o ?_ ?_); (· rfl); (· rfl); (· rfl); (· exact RO.out)) | ((with_reducible refine row_at ?_ ?_ (w.heap.size + 1) 0 ?_ o ?_ ?_); (· rfl); (· rfl); (· rfl); (· exact SO.out)) | ((with_reducible refine row_at ?_ ?_ w.heap.size 8 ?_ k ?_ ?_); (· rfl); (· rfl); (· rfl); (· exact RK.out)) | ((with_reducible refine row_at ?_ ?_ (w.heap.size + 1) 8 ?_ k ?_ ?_); (· rfl); (· rfl); (· rfl); (· exact SK.out)))
  clear hno hnk hgr RO RK SO SK p16 q16
  generalize hg : (w.alloc (po o k A l.length c)).alloc (po o k B l.length d) = W0 at *
  clear hg
  go_loopw [5, 30] (fun _ ix wr => ∃ i : Nat, i ≤ l.length ∧ ix = .int .i64 i ∧ Aside (Below W0.heap.size W0 wr)) (fun _ ix _ => l.length - (intOf ix).toNat)
  case atStart => exact ⟨0, Nat.zero_le _, rfl, Below.refl _ _⟩
  case round =>
    obtain ⟨i, hi, rfl, HW⟩ := hrel
    by_cases hlt : i < l.length
    · obtain ⟨b1, o1, rfl, _, a0, a1, a2⟩ := (HA.out.below HW.out).at hlt
      obtain ⟨b2, o2, rfl, _, c0, c1, c2⟩ := (HB.out.below HW.out).at hlt
      have p16 := (PA.out.keep HW.out).at 16 rfl
      have q16 := (PB.out.keep HW.out).at 16 rfl
      have hne := neq_vl l[i]
      have hgv := guard_vl
      generalize l[i] = x at *
      obtain ⟨x1, x2, x3⟩ := x
      simp only at a0 a1 a2 c0 c1 c2 hne
      go_wp2
      go_quiet (fail)
      go_wp2
      go_roundw
      case rel => exact ⟨i + 1, by omega, by go_num, Bx.then_below HW.out (below_drewN _ _)⟩
      case measure => simp [intOf]; omega
    · have HF := Lib.hid (Bx.then_below bel.out HW.out)
      go_wp2
      go_ret
      exact ⟨rfl, HF.out⟩

end Mem
end Go.Proofs.Ytbighadkcmhplaa
