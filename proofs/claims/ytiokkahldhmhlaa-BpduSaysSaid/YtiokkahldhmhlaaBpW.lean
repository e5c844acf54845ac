/-
  What is told, in memory: its sixteen cells read and written at once.
-/
import Derived.Test.YtiokkahldhmhlaaBpA
import Derived.Test.YtiokkahldhmhlaaWhole
namespace Go.Proofs.Ytiokkahldhmhlaa
open Go.RowKit
namespace Bpd
open Oct Mac Eth Epl

abbrev bpl (b : Bp) : List Value := [.int .i64 b.k, .bool b.ch, .bool b.pr, .int .i64 b.ro, .bool b.le, .bool b.fo, .bool b.ag, .bool b.ac, .int .u64 b.r, .int .u64 b.c, .int .u64 b.g, .int .i64 b.p, .int .i64 b.a, .int .i64 b.m, .int .i64 b.h, .int .i64 b.d]

theorem bpl_one (b : Bp) : ∀ v ∈ bpl b, v.oneCell' = true := by simp [Value.oneCell']

theorem info_bp : (Try.prog.info? 26).map (·.size) = some 16 := by kernel_rfl

theorem under_bp : Try.prog.underlying 26 = some (.struct (Try.prog.fieldsOf 26)) := by kernel_rfl

/-- The operands of a load and of a store. -/
def opA : Op → Operand
  | .load _ x => x
  | .store _ x _ => x
  | _ => .tmp 0
def opB : Op → Operand
  | .store _ _ y => y
  | _ => .tmp 0

section
variable {ops : Array Oper} {rest : List Oper} {op : Oper} {a : Act} {W : World} {Q : Exit → Act → World → Prop}

theorem load_bp (x : Operand) (ho : op.op = .load 26 x) (hgd : Region.wanted op (yielded ops a.tmps) = true) (k : Nat) (hx : a.eval x = .pointer (some ⟨k, 0, none⟩)) (b : Bp) (hB : Bx.Blk W k (bpl b))
    (h : wpList Try.prog ops Q rest (a.put op.dst (bp b)) W) : wpList Try.prog ops Q (op :: rest) a W :=
  Bx.step_load hgd _ x ho k hx (bpl b) _ under_bp rfl info_bp hB h

theorem new_bp (x y : Operand) (ho : op.op = .store 26 x y) (hgd : Region.wanted op (yielded ops a.tmps) = true) (z b : Bp) (hx : a.eval x = .pointer (some ⟨W.heap.size, 0, none⟩)) (hy : a.eval y = bp b)
    (h : wpList Try.prog ops Q rest (a.put op.dst undef) (W.alloc (.cells (bpl b).toArray 26))) : wpList Try.prog ops Q (op :: rest) a (W.alloc (.cells (bpl z).toArray 26)) :=
  Bx.step_new hgd _ x y ho (bpl z) (bpl b) _ hx hy rfl info_bp (bpl_one b) h

theorem new_bp_at {Wx : World} (x y : Operand) (ho : op.op = .store 26 x y) (hgd : Region.wanted op (yielded ops a.tmps) = true) (k : Nat) (z b : Bp) (hx : a.eval x = .pointer (some ⟨k, 0, none⟩)) (hy : a.eval y = bp b) (W : World) (hw : Wx = W.alloc (.cells (bpl z).toArray 26)) (hk : k = W.heap.size)
    (h : wpList Try.prog ops Q rest (a.put op.dst undef) (W.alloc (.cells (bpl b).toArray 26))) : wpList Try.prog ops Q (op :: rest) a Wx := by
  subst hk hw
  exact new_bp x y ho hgd z b hx hy h

theorem store_bp (x y : Operand) (ho : op.op = .store 26 x y) (hgd : Region.wanted op (yielded ops a.tmps) = true) (k : Nat) (z b : Bp) (hx : a.eval x = .pointer (some ⟨k, 0, none⟩)) (hy : a.eval y = bp b) (hO : Bx.Own W k (bpl z))
    (h : wpList Try.prog ops Q rest (a.put op.dst undef) (W.setCells k 0 (bpl b))) : wpList Try.prog ops Q (op :: rest) a W :=
  Bx.step_store hgd _ x y ho k (bpl z) (bpl b) hx hy rfl info_bp (bpl_one b) hO h

theorem load_at (ho : op.op = .load 26 (opA op.op)) (hgd : Region.wanted op (yielded ops a.tmps) = true) (k : Nat) (hx : a.eval (opA op.op) = .pointer (some ⟨k, 0, none⟩)) (b : Bp) (hB : Bx.Blk W k (bpl b))
    (h : wpList Try.prog ops Q rest (a.put op.dst (bp b)) W) : wpList Try.prog ops Q (op :: rest) a W := load_bp _ ho hgd k hx b hB h

theorem store_at (ho : op.op = .store 26 (opA op.op) (opB op.op)) (hgd : Region.wanted op (yielded ops a.tmps) = true) (k : Nat) (z b : Bp) (hx : a.eval (opA op.op) = .pointer (some ⟨k, 0, none⟩)) (hy : a.eval (opB op.op) = bp b) (hO : Bx.Own W k (bpl z))
    (h : wpList Try.prog ops Q rest (a.put op.dst undef) (W.setCells k 0 (bpl b))) : wpList Try.prog ops Q (op :: rest) a W := store_bp _ _ ho hgd k z b hx hy hO h

theorem new_at {Wx : World} (ho : op.op = .store 26 (opA op.op) (opB op.op)) (hgd : Region.wanted op (yielded ops a.tmps) = true) (k : Nat) (z b : Bp) (hx : a.eval (opA op.op) = .pointer (some ⟨k, 0, none⟩)) (hy : a.eval (opB op.op) = bp b) (W : World) (hw : Wx = W.alloc (.cells (bpl z).toArray 26)) (hk : k = W.heap.size)
    (h : wpList Try.prog ops Q rest (a.put op.dst undef) (W.alloc (.cells (bpl b).toArray 26))) : wpList Try.prog ops Q (op :: rest) a Wx := new_bp_at _ _ ho hgd k z b hx hy W hw hk h
end

theorem wp_store_bp {op : Oper} {a : Act} {W : World} {K : Act → World → Prop} {Q : Exit → Act → World → Prop} (x y : Operand) (ho : op.op = .store 26 x y) (k : Nat) (z b : Bp) (hx : a.eval x = .pointer (some ⟨k, 0, none⟩)) (hy : a.eval y = bp b) (hO : Bx.Own W k (bpl z))
    (h : K (a.put op.dst undef) (W.setCells k 0 (bpl b))) : op.wp Try.prog a W K Q :=
  wp_store_mid _ x y ho k 0 (bpl b).toArray hx hy hO.2 info_bp (all_oneCell_toArray (bpl_one b)) h

theorem yields_bp {ops : Array Oper} {S : World → Prop} {op : Oper} {a : Act} (hw : Region.wanted op (yielded ops a.tmps) = true) (x : Operand) (ho : op.op = .load 26 x) (k : Nat) (hx : a.eval x = .pointer (some ⟨k, 0, none⟩)) (b : Bp) (hS : ∀ w, S w → Bx.Blk w k (bpl b)) : YieldsIf Try.prog ops S op (bp b) a :=
  yieldsIf_load_mid hw _ x ho k 0 hx (bpl b) _ (fun w h => (hS w h).range) under_bp rfl info_bp

theorem var_bp {W : World} {k : Nat} {b : Bp} (hB : Bx.Blk W k (bpl b)) : (loadVar 26 ⟨k, 0, none⟩).run Try.prog W = .ok (bp b) W :=
  run_loadVar_mid W k 0 _ (bpl b) _ hB.range under_bp rfl info_bp

theorem results_bp {fn : Func} {p q : Tmp} (h : fn.results = #[.cell p 26, .tmp q]) {tmps : Array Value} {W : World} {k : Nat} {b : Bp} {v : Value} (hp : tmps.getD p undef = .pointer (some ⟨k, 0, none⟩)) (hq : tmps.getD q undef = v) (hB : Bx.Blk W k (bpl b)) :
    (results fn tmps).run Try.prog W = .ok (.tuple #[bp b, v]) W := by
  have hp' : tmps[p]?.getD undef = .pointer (some ⟨k, 0, none⟩) := by simpa using hp
  have hq' : tmps[q]?.getD undef = v := by simpa using hq
  simp [results, h, hp', hq', asAddr, var_bp hB]

theorem at_bp {W : World} {k : Nat} {b : Bp} (hB : Bx.Blk W k (bpl b)) : (Instr.loadAt 26 (.pointer (some ⟨k, 0, none⟩))).run Try.prog W = .ok (bp b) W :=
  run_loadAt_mid W k 0 _ (bpl b) _ hB.range under_bp rfl info_bp

end Bpd
end Go.Proofs.Ytiokkahldhmhlaa
