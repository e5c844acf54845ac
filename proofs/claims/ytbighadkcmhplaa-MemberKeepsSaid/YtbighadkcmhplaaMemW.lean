/-
  A plan in memory: its seventeen cells read and written at once.
-/
import Derived.Test.YtbighadkcmhplaaMemA
import Derived.Test.YtbighadkcmhplaaWhole
import Derived.Test.YtbighadkcmhplaaFre
namespace Go.Proofs.Ytbighadkcmhplaa
open Go.RowKit
namespace Mem
open Oct Eth

theorem pc_one (o k : Nat → Int) (A : Option Addr) (n c : Nat) : ∀ v ∈ pc o k A n c, v.oneCell' = true := by simp [Value.oneCell']

theorem info_pl : (Try.prog.info? 25).map (·.size) = some 17 := by kernel_rfl

theorem under_pl : Try.prog.underlying 25 = some (.struct (Try.prog.fieldsOf 25)) := by kernel_rfl

/-- The operands of a load and of a store. -/
def opA : Op → Operand
  | .load _ x => x
  | .store _ x _ => x
  | _ => .tmp 0
def opB : Op → Operand
  | .store _ _ y => y
  | _ => .tmp 0

section
variable {ops : Array Oper} {rest : List Oper} {op : Oper} {a : Act} {W : World} {Q : Exit → Act → World → Prop}

theorem load_at (ho : op.op = .load 25 (opA op.op)) (hgd : Region.wanted op (yielded ops a.tmps) = true) (b : Nat) (hx : a.eval (opA op.op) = .pointer (some ⟨b, 0, none⟩)) (o k : Nat → Int) (A : Option Addr) (n c : Nat) (hB : Bx.Blk W b (pc o k A n c))
    (h : wpList Try.prog ops Q rest (a.put op.dst (pv o k A n c)) W) : wpList Try.prog ops Q (op :: rest) a W :=
  Bx.step_load hgd _ _ ho b hx (pc o k A n c) _ under_pl rfl info_pl hB h

theorem store_at (ho : op.op = .store 25 (opA op.op) (opB op.op)) (hgd : Region.wanted op (yielded ops a.tmps) = true) (b : Nat) (zs : List Value) (hz : zs.length = 17) (o k : Nat → Int) (A : Option Addr) (n c : Nat) (hx : a.eval (opA op.op) = .pointer (some ⟨b, 0, none⟩)) (hy : a.eval (opB op.op) = pv o k A n c) (hO : Bx.Own W b zs)
    (h : wpList Try.prog ops Q rest (a.put op.dst undef) (W.setCells b 0 (pc o k A n c))) : wpList Try.prog ops Q (op :: rest) a W :=
  Bx.step_store hgd _ _ _ ho b zs (pc o k A n c) hx hy (by simp [hz]) info_pl (pc_one o k A n c) hO h

theorem new_at {Wx : World} (ho : op.op = .store 25 (opA op.op) (opB op.op)) (hgd : Region.wanted op (yielded ops a.tmps) = true) (b : Nat) (zs : List Value) (hz : zs.length = 17) (o k : Nat → Int) (A : Option Addr) (n c : Nat) (hx : a.eval (opA op.op) = .pointer (some ⟨b, 0, none⟩)) (hy : a.eval (opB op.op) = pv o k A n c) (W : World) (hw : Wx = W.alloc (.cells zs.toArray 25)) (hk : b = W.heap.size)
    (h : wpList Try.prog ops Q rest (a.put op.dst undef) (W.alloc (.cells (pc o k A n c).toArray 25))) : wpList Try.prog ops Q (op :: rest) a Wx := by
  subst hk hw
  exact Bx.step_new hgd _ _ _ ho zs (pc o k A n c) _ hx hy (by simp [hz]) info_pl (pc_one o k A n c) h
end

theorem var_pl {W : World} {b : Nat} {o k : Nat → Int} {A : Option Addr} {n c : Nat} (hB : Bx.Blk W b (pc o k A n c)) : (loadVar 25 ⟨b, 0, none⟩).run Try.prog W = .ok (pv o k A n c) W :=
  run_loadVar_mid W b 0 _ (pc o k A n c) _ hB.range under_pl rfl info_pl

theorem at_pl {W : World} {b : Nat} {o k : Nat → Int} {A : Option Addr} {n c : Nat} (hB : Bx.Blk W b (pc o k A n c)) : (Instr.loadAt 25 (.pointer (some ⟨b, 0, none⟩))).run Try.prog W = .ok (pv o k A n c) W :=
  run_loadAt_mid W b 0 _ (pc o k A n c) _ hB.range under_pl rfl info_pl

end Mem
end Go.Proofs.Ytbighadkcmhplaa
