/-
  Vectors in a slice; slices.MinFunc, prefer.best and Better, and the document's Better.
-/
import Derived.Test.YtakbmdamegjdeaaPreA
import Derived.Deep.LoopGhost
import Derived.WalkSmall
import Derived.Shelf.Abstract
namespace Go.Proofs.Ytakbmdamegjdeaa
open Go.RowKit
namespace Pre
open Oct

/-- The slice that begins at A reads as the vectors l. -/
def Vs (w : World) (A : Option Addr) (l : List Vc) : Prop := ∀ j x, l[j]? = some x → ∃ b o, A = some ⟨b, o, none⟩ ∧ b < w.heap.size ∧ w.cell? ⟨b, o + j * 4, none⟩ = some (.int .u64 x.r) ∧ w.cell? ⟨b, o + j * 4 + 1, none⟩ = some (.int .u64 x.c) ∧ w.cell? ⟨b, o + j * 4 + 2, none⟩ = some (.int .u64 x.b) ∧ w.cell? ⟨b, o + j * 4 + 3, none⟩ = some (.int .i64 x.p)

theorem Vs.below {w w' : World} {A : Option Addr} {l : List Vc} (h : Vs w A l) (hb : Below w.heap.size w w') : Vs w' A l := fun j x hj => by
  obtain ⟨b, o, e, h1, h2, h3, h4, h5⟩ := h j x hj
  exact ⟨b, o, e, Nat.lt_of_lt_of_le h1 hb.size, Bx.keep_cell hb h2, Bx.keep_cell hb h3, Bx.keep_cell hb h4, Bx.keep_cell hb h5⟩

theorem Vs.nil (w : World) (A : Option Addr) : Vs w A [] := fun j x h => by simp at h

theorem Vs.at {w : World} {A : Option Addr} {l : List Vc} (h : Vs w A l) {k : Nat} (hk : k < l.length) : ∃ b o, A = some ⟨b, o, none⟩ ∧ b < w.heap.size ∧ w.cell? ⟨b, o + k * 4, none⟩ = some (.int .u64 l[k].r) ∧ w.cell? ⟨b, o + k * 4 + 1, none⟩ = some (.int .u64 l[k].c) ∧ w.cell? ⟨b, o + k * 4 + 2, none⟩ = some (.int .u64 l[k].b) ∧ w.cell? ⟨b, o + k * 4 + 3, none⟩ = some (.int .i64 l[k].p) := h k l[k] (List.getElem?_eq_getElem hk)

theorem take_least (x : Vc) (l : List Vc) (k : Nat) (h1 : 1 ≤ k) (h : k < (x :: l).length) : leastV x (l.take (k + 1 - 1)) = minV (leastV x (l.take (k - 1))) (x :: l)[k] := by
  obtain ⟨j, rfl⟩ : ∃ j, k = j + 1 := ⟨k - 1, by omega⟩
  have h' : j < l.length := by simpa using h
  rw [List.getElem_cons_succ, show j + 1 + 1 - 1 = j + 1 by omega, show j + 1 - 1 = j by omega, List.take_succ_eq_append_getElem h', least_next]

theorem ord_neg {x y : Vc} (h : ltV x y = true) : ordV x y < 0 := by rw [← ord_lt] at h; simpa using h
theorem ord_not {x y : Vc} (h : ltV x y = false) : ¬ ordV x y < 0 := by rw [← ord_lt] at h; simpa using h

/-- What a comparison is: a function value called with two vectors. -/
def CmpIs (g : Nat) (r : Array Value) : Prop := (∀ args w, (callFunc g args).run Try.prog w = .ok (.enter g args) w) ∧ ∀ (x y : Vc) (w : World), Calls Try.prog g (r ++ #[vv x, vv y]) w fun e w' => e = .returned (.int .i64 (ordV x y)) ∧ Below w.heap.size w w'

theorem least_two (x y : Vc) : leastV x [y] = if ltV y x then y else x := rfl

theorem neq_false {x y : Vc} (h : x ≠ y) : ¬ ((x.r : Int) = y.r ∧ (x.c : Int) = y.c ∧ (x.b : Int) = y.b ∧ x.p = y.p) := fun e => h ((eq_iff x y).2 ⟨by omega, by omega, by omega, e.2.2.2⟩)

theorem Vs.two {w : World} {b : Nat} {x y : Vc} (h : Bx.Blk w b [.int .u64 x.r, .int .u64 x.c, .int .u64 x.b, .int .i64 x.p, .int .u64 y.r, .int .u64 y.c, .int .u64 y.b, .int .i64 y.p]) : Vs w (some ⟨b, 0, none⟩) [x, y] := fun j z hz => by
  have hb := h.lt (by simp)
  match j, hz with
  | 0, hz => cases hz; exact ⟨b, 0, rfl, hb, h.at 0 rfl, h.at 1 rfl, h.at 2 rfl, h.at 3 rfl⟩
  | 1, hz => cases hz; exact ⟨b, 0, rfl, hb, h.at 4 rfl, h.at 5 rfl, h.at 6 rfl, h.at 7 rfl⟩

theorem neq_at (x1 x2 x3 : Nat) (x4 : Int) (y1 y2 y3 : Nat) (y4 : Int) (w : World) : (binOp .neq 24 (.agg #[.int .u64 x1, .int .u64 x2, .int .u64 x3, .int .i64 x4]) (.agg #[.int .u64 y1, .int .u64 y2, .int .u64 y3, .int .i64 y4])).run Try.prog w = .ok (.bool (!decide ((⟨x1, x2, x3, x4⟩ : Vc) = ⟨y1, y2, y3, y4⟩))) w := by
  have u3 := Try.underlying3
  have u9 := Try.underlying22
  have hS : Try.prog.underlying 24 = some (.struct (Try.prog.fieldsOf 24)) := by kernel_rfl
  have hp : Try.prog.stoodInHeld 24 = false := by kernel_rfl
  rw [run_neq_struct, show (10000 : Nat) = 9999 + 1 from rfl, run_equalIn_agg w 9999 24 _ _ hS hp]
  simp only [Program.fieldsOf, Try.underlying24]
  go_simp
  by_cases h1 : x1 = y1 <;> by_cases h2 : x2 = y2 <;> by_cases h3 : x3 = y3 <;> by_cases h4 : x4 = y4 <;> first | (simp [h1, h2, h3, h4]; done) | (simp [h1, h2, h3, h4]; omega)

theorem eql_at (x1 x2 x3 : Nat) (x4 : Int) (y1 y2 y3 : Nat) (y4 : Int) (w : World) : (binOp .eql 24 (.agg #[.int .u64 x1, .int .u64 x2, .int .u64 x3, .int .i64 x4]) (.agg #[.int .u64 y1, .int .u64 y2, .int .u64 y3, .int .i64 y4])).run Try.prog w = .ok (.bool (decide ((⟨x1, x2, x3, x4⟩ : Vc) = ⟨y1, y2, y3, y4⟩))) w := by
  have u3 := Try.underlying3
  have u9 := Try.underlying22
  have hS : Try.prog.underlying 24 = some (.struct (Try.prog.fieldsOf 24)) := by kernel_rfl
  have hp : Try.prog.stoodInHeld 24 = false := by kernel_rfl
  rw [run_eql_struct, show (10000 : Nat) = 9999 + 1 from rfl, run_equalIn_agg w 9999 24 _ _ hS hp]
  simp only [Program.fieldsOf, Try.underlying24]
  go_simp
  by_cases h1 : x1 = y1 <;> by_cases h2 : x2 = y2 <;> by_cases h3 : x3 = y3 <;> by_cases h4 : x4 = y4 <;> first | (simp [h1, h2, h3, h4]; done) | (simp [h1, h2, h3, h4]; omega)

theorem guard_at (op : BinOp) (a b : Operand) (x1 x2 x3 : Nat) (x4 : Int) (y1 y2 y3 : Nat) (y4 : Int) (w : World) : Sem.run Try.prog (eqGuard op 24 a b (.agg #[.int .u64 x1, .int .u64 x2, .int .u64 x3, .int .i64 x4]) (.agg #[.int .u64 y1, .int .u64 y2, .int .u64 y3, .int .i64 y4])) w = .ok () w :=
  run_eqGuard_agg w op 24 a b #[.int .u64 x1, .int .u64 x2, .int .u64 x3, .int .i64 x4] #[.int .u64 y1, .int .u64 y2, .int .u64 y3, .int .i64 y4] (by kernel_rfl)

end Pre
end Go.Proofs.Ytakbmdamegjdeaa
