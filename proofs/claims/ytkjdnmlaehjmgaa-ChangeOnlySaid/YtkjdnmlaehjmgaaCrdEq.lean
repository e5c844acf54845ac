/-
  Vectors, times and ports compared.
-/
import Derived.Test.YtkjdnmlaehjmgaaCrd
namespace Go.Proofs.Ytkjdnmlaehjmgaa
open Go.RowKit
namespace Crd
open Pre

theorem teql_at (x y : Tm) (w : World) : (binOp .eql 24 (tmv x) (tmv y)).run Try.prog w = .ok (.bool (decide (x = y))) w := by
  have u3 := Try.underlying3
  have hS : Try.prog.underlying 24 = some (.struct (Try.prog.fieldsOf 24)) := by kernel_rfl
  have hp : Try.prog.stoodInHeld 24 = false := by kernel_rfl
  obtain ⟨x1, x2, x3, x4⟩ := x
  obtain ⟨y1, y2, y3, y4⟩ := y
  rw [run_eql_struct, show (10000 : Nat) = 9999 + 1 from rfl, run_equalIn_agg w 9999 24 _ _ hS hp]
  simp only [Program.fieldsOf, Try.underlying24]
  go_simp
  by_cases h1 : x1 = y1 <;> by_cases h2 : x2 = y2 <;> by_cases h3 : x3 = y3 <;> by_cases h4 : x4 = y4 <;> simp [h1, h2, h3, h4]

theorem tneq_at (x y : Tm) (w : World) : (binOp .neq 24 (tmv x) (tmv y)).run Try.prog w = .ok (.bool (!decide (x = y))) w := by
  have u3 := Try.underlying3
  have hS : Try.prog.underlying 24 = some (.struct (Try.prog.fieldsOf 24)) := by kernel_rfl
  have hp : Try.prog.stoodInHeld 24 = false := by kernel_rfl
  obtain ⟨x1, x2, x3, x4⟩ := x
  obtain ⟨y1, y2, y3, y4⟩ := y
  rw [run_neq_struct, show (10000 : Nat) = 9999 + 1 from rfl, run_equalIn_agg w 9999 24 _ _ hS hp]
  simp only [Program.fieldsOf, Try.underlying24]
  go_simp
  by_cases h1 : x1 = y1 <;> by_cases h2 : x2 = y2 <;> by_cases h3 : x3 = y3 <;> by_cases h4 : x4 = y4 <;> simp [h1, h2, h3, h4]

theorem tguard_at (op : BinOp) (a b : Operand) (x y : Tm) (w : World) : Sem.run Try.prog (eqGuard op 24 a b (tmv x) (tmv y)) w = .ok () w :=
  run_eqGuard_agg w op 24 a b _ _ (by kernel_rfl)

theorem veql_at (x y : Vc) (w : World) : (binOp .eql 26 (vv x) (vv y)).run Try.prog w = .ok (.bool (decide (x = y))) w := eql_at x.r x.c x.b x.p y.r y.c y.b y.p w
theorem vneq_at (x y : Vc) (w : World) : (binOp .neq 26 (vv x) (vv y)).run Try.prog w = .ok (.bool (!decide (x = y))) w := neq_at x.r x.c x.b x.p y.r y.c y.b y.p w
theorem vguard_at (op : BinOp) (a b : Operand) (x y : Vc) (w : World) : Sem.run Try.prog (eqGuard op 26 a b (vv x) (vv y)) w = .ok () w := guard_at op a b x.r x.c x.b x.p y.r y.c y.b y.p w

theorem cguard_at (op : BinOp) (a b : Operand) (x y : Cd) (w : World) : Sem.run Try.prog (eqGuard op 28 a b (cdv x) (cdv y)) w = .ok () w :=
  run_eqGuard_agg w op 28 a b _ _ (by kernel_rfl)

set_option maxRecDepth 40000 in
theorem cself_at (x : Cd) (w : World) : (binOp .eql 28 (cdv x) (cdv x)).run Try.prog w = .ok (.bool true) w := by
  rw [run_eql_struct]
  simp [go_sem]

end Crd
end Go.Proofs.Ytkjdnmlaehjmgaa
