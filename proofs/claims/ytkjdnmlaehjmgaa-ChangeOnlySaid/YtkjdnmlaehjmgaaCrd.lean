/-
  A port of the tree (api.Cord, 31 cells) and a BPDU (api.Bpdu, 16 cells) as values and in memory: read and written whole.
-/
import Derived.Test.YtkjdnmlaehjmgaaPreD
import Derived.Test.YtkjdnmlaehjmgaaWhole
import Derived.Test.YtkjdnmlaehjmgaaFreAt
namespace Go.Proofs.Ytkjdnmlaehjmgaa
open Go.RowKit
namespace Crd
open Pre

/-- A port of the tree. -/
structure Cd where
  up : Bool
  adm : Bool
  edge : Bool
  cost : Nat
  info : Int
  v : Vc
  t : Tm
  role : Int
  st : Int
  agd : Bool
  agr : Bool
  png : Bool
  prd : Bool
  syn : Bool
  syd : Bool
  rap : Bool
  tel : Bool
  ack : Bool
  hrd : Int
  wai : Int
  rcn : Int
  chg : Int
  qui : Int
  sen : Int
  hel : Int
  deriving DecidableEq

/-- What a bridge tells. -/
structure Bd where
  k : Int
  ch : Bool
  pr : Bool
  ro : Int
  le : Bool
  fo : Bool
  ag : Bool
  ac : Bool
  v : Vc
  t : Tm
  deriving DecidableEq

abbrev cdl (x : Cd) : List Value := [.bool x.up, .bool x.adm, .bool x.edge, .int .u64 x.cost, .int .i64 x.info, .int .u64 x.v.r, .int .u64 x.v.c, .int .u64 x.v.b, .int .i64 x.v.p, .int .i64 x.t.a, .int .i64 x.t.m, .int .i64 x.t.h, .int .i64 x.t.d, .int .i64 x.role, .int .i64 x.st, .bool x.agd, .bool x.agr, .bool x.png, .bool x.prd, .bool x.syn, .bool x.syd, .bool x.rap, .bool x.tel, .bool x.ack, .int .i64 x.hrd, .int .i64 x.wai, .int .i64 x.rcn, .int .i64 x.chg, .int .i64 x.qui, .int .i64 x.sen, .int .i64 x.hel]
abbrev cdv (x : Cd) : Value := .agg #[.bool x.up, .bool x.adm, .bool x.edge, .int .u64 x.cost, .int .i64 x.info, .int .u64 x.v.r, .int .u64 x.v.c, .int .u64 x.v.b, .int .i64 x.v.p, .int .i64 x.t.a, .int .i64 x.t.m, .int .i64 x.t.h, .int .i64 x.t.d, .int .i64 x.role, .int .i64 x.st, .bool x.agd, .bool x.agr, .bool x.png, .bool x.prd, .bool x.syn, .bool x.syd, .bool x.rap, .bool x.tel, .bool x.ack, .int .i64 x.hrd, .int .i64 x.wai, .int .i64 x.rcn, .int .i64 x.chg, .int .i64 x.qui, .int .i64 x.sen, .int .i64 x.hel]
abbrev cdo (x : Cd) : Obj := .cells #[.bool x.up, .bool x.adm, .bool x.edge, .int .u64 x.cost, .int .i64 x.info, .int .u64 x.v.r, .int .u64 x.v.c, .int .u64 x.v.b, .int .i64 x.v.p, .int .i64 x.t.a, .int .i64 x.t.m, .int .i64 x.t.h, .int .i64 x.t.d, .int .i64 x.role, .int .i64 x.st, .bool x.agd, .bool x.agr, .bool x.png, .bool x.prd, .bool x.syn, .bool x.syd, .bool x.rap, .bool x.tel, .bool x.ack, .int .i64 x.hrd, .int .i64 x.wai, .int .i64 x.rcn, .int .i64 x.chg, .int .i64 x.qui, .int .i64 x.sen, .int .i64 x.hel] 28

abbrev bdl (x : Bd) : List Value := [.int .i64 x.k, .bool x.ch, .bool x.pr, .int .i64 x.ro, .bool x.le, .bool x.fo, .bool x.ag, .bool x.ac, .int .u64 x.v.r, .int .u64 x.v.c, .int .u64 x.v.b, .int .i64 x.v.p, .int .i64 x.t.a, .int .i64 x.t.m, .int .i64 x.t.h, .int .i64 x.t.d]
abbrev bdv (x : Bd) : Value := .agg #[.int .i64 x.k, .bool x.ch, .bool x.pr, .int .i64 x.ro, .bool x.le, .bool x.fo, .bool x.ag, .bool x.ac, .int .u64 x.v.r, .int .u64 x.v.c, .int .u64 x.v.b, .int .i64 x.v.p, .int .i64 x.t.a, .int .i64 x.t.m, .int .i64 x.t.h, .int .i64 x.t.d]
abbrev bdo (x : Bd) : Obj := .cells #[.int .i64 x.k, .bool x.ch, .bool x.pr, .int .i64 x.ro, .bool x.le, .bool x.fo, .bool x.ag, .bool x.ac, .int .u64 x.v.r, .int .u64 x.v.c, .int .u64 x.v.b, .int .i64 x.v.p, .int .i64 x.t.a, .int .i64 x.t.m, .int .i64 x.t.h, .int .i64 x.t.d] 33

abbrev Cd.zero : Cd := ⟨false, false, false, 0, 0, ⟨0, 0, 0, 0⟩, ⟨0, 0, 0, 0⟩, 0, 0, false, false, false, false, false, false, false, false, false, 0, 0, 0, 0, 0, 0, 0⟩
abbrev Bd.zero : Bd := ⟨0, false, false, 0, false, false, false, false, ⟨0, 0, 0, 0⟩, ⟨0, 0, 0, 0⟩⟩

/-- The operands of a load and of a store. -/
def opA : Op → Operand
  | .load _ x => x
  | .store _ x _ => x
  | _ => .tmp 0
def opB : Op → Operand
  | .store _ _ y => y
  | _ => .tmp 0

theorem vec_info : (Try.prog.info? 26).map (·.size) = some 4 := by kernel_rfl

section
variable {ops : Array Oper} {rest : List Oper} {op : Oper} {a : Act} {W : World} {Q : Exit → Act → World → Prop}

/-- The step over a store of four cells at a place within a block. -/
theorem vec_wp {K : Act → World → Prop} (ho : op.op = .store 26 (opA op.op) (opB op.op)) (k o : Nat) (hx : a.eval (opA op.op) = .pointer (some ⟨k, o, none⟩)) (x : Vc) (hy : a.eval (opB op.op) = vv x) (zs : List Value) (hz : o + 4 ≤ zs.length) (hF : Bx.Fre W k zs)
    (h : K (a.put op.dst undef) (W.setCells k o (enc x))) : op.wp Try.prog a W K Q :=
  Bx.wp_store_at _ _ _ ho k o zs (enc x) hx hy vec_info (by simp [enc, Value.oneCell']) hz hF h

theorem vec_put (ho : op.op = .store 26 (opA op.op) (opB op.op)) (hgd : Region.wanted op (yielded ops a.tmps) = true) (k o : Nat) (hx : a.eval (opA op.op) = .pointer (some ⟨k, o, none⟩)) (x : Vc) (hy : a.eval (opB op.op) = vv x) (zs : List Value) (hz : o + 4 ≤ zs.length) (hF : Bx.Fre W k zs)
    (h : wpList Try.prog ops Q rest (a.put op.dst undef) (W.setCells k o (enc x))) : wpList Try.prog ops Q (op :: rest) a W :=
  Bx.step_store_at hgd _ _ _ ho k o zs (enc x) hx hy vec_info (by simp [enc, Value.oneCell']) hz hF h
end

theorem tm_info : (Try.prog.info? 24).map (·.size) = some 4 := by kernel_rfl

section
variable {ops : Array Oper} {rest : List Oper} {op : Oper} {a : Act} {W : World} {Q : Exit → Act → World → Prop}

/-- The step over a store of four cells at a place within a block. -/
theorem tm_wp {K : Act → World → Prop} (ho : op.op = .store 24 (opA op.op) (opB op.op)) (k o : Nat) (hx : a.eval (opA op.op) = .pointer (some ⟨k, o, none⟩)) (x : Tm) (hy : a.eval (opB op.op) = tmv x) (zs : List Value) (hz : o + 4 ≤ zs.length) (hF : Bx.Fre W k zs)
    (h : K (a.put op.dst undef) (W.setCells k o (tenc x))) : op.wp Try.prog a W K Q :=
  Bx.wp_store_at _ _ _ ho k o zs (tenc x) hx hy tm_info (by simp [tenc, Value.oneCell']) hz hF h

theorem tm_put (ho : op.op = .store 24 (opA op.op) (opB op.op)) (hgd : Region.wanted op (yielded ops a.tmps) = true) (k o : Nat) (hx : a.eval (opA op.op) = .pointer (some ⟨k, o, none⟩)) (x : Tm) (hy : a.eval (opB op.op) = tmv x) (zs : List Value) (hz : o + 4 ≤ zs.length) (hF : Bx.Fre W k zs)
    (h : wpList Try.prog ops Q rest (a.put op.dst undef) (W.setCells k o (tenc x))) : wpList Try.prog ops Q (op :: rest) a W :=
  Bx.step_store_at hgd _ _ _ ho k o zs (tenc x) hx hy tm_info (by simp [tenc, Value.oneCell']) hz hF h
end

theorem cd_one (x : Cd) : ∀ v ∈ cdl x, v.oneCell' = true := by simp [Value.oneCell']

theorem cd_info : (Try.prog.info? 28).map (·.size) = some 31 := by kernel_rfl

theorem cd_under : Try.prog.underlying 28 = some (.struct (Try.prog.fieldsOf 28)) := by kernel_rfl

section
variable {ops : Array Oper} {rest : List Oper} {op : Oper} {a : Act} {W : World} {Q : Exit → Act → World → Prop}

theorem cd_load (ho : op.op = .load 28 (opA op.op)) (hgd : Region.wanted op (yielded ops a.tmps) = true) (k : Nat) (hx : a.eval (opA op.op) = .pointer (some ⟨k, 0, none⟩)) (x : Cd) (hB : Bx.Blk W k (cdl x))
    (h : wpList Try.prog ops Q rest (a.put op.dst (cdv x)) W) : wpList Try.prog ops Q (op :: rest) a W :=
  Bx.step_load hgd _ _ ho k hx (cdl x) _ cd_under rfl cd_info hB h

theorem cd_store (ho : op.op = .store 28 (opA op.op) (opB op.op)) (hgd : Region.wanted op (yielded ops a.tmps) = true) (k : Nat) (x : Cd) (hx : a.eval (opA op.op) = .pointer (some ⟨k, 0, none⟩)) (hy : a.eval (opB op.op) = cdv x) (zs : List Value) (hz : zs.length = 31) (hO : Bx.Own W k zs)
    (h : wpList Try.prog ops Q rest (a.put op.dst undef) (W.setCells k 0 (cdl x))) : wpList Try.prog ops Q (op :: rest) a W :=
  Bx.step_store hgd _ _ _ ho k zs (cdl x) hx hy (by simp [hz]) cd_info (cd_one x) hO h

theorem cd_fresh {Wx : World} (ho : op.op = .store 28 (opA op.op) (opB op.op)) (hgd : Region.wanted op (yielded ops a.tmps) = true) (k : Nat) (x : Cd) (hx : a.eval (opA op.op) = .pointer (some ⟨k, 0, none⟩)) (hy : a.eval (opB op.op) = cdv x) (W : World) (zs : List Value) (hz : zs.length = 31) (hw : Wx = W.alloc (.cells zs.toArray 28)) (hk : k = W.heap.size)
    (h : wpList Try.prog ops Q rest (a.put op.dst undef) (W.alloc (cdo x))) : wpList Try.prog ops Q (op :: rest) a Wx := by
  subst hk hw
  exact Bx.step_new hgd _ _ _ ho zs (cdl x) _ hx hy (by simp [hz]) cd_info (cd_one x) h
end

theorem cd_var {W : World} {k : Nat} {x : Cd} (hB : Bx.Blk W k (cdl x)) : (loadVar 28 ⟨k, 0, none⟩).run Try.prog W = .ok (cdv x) W :=
  run_loadVar_mid W k 0 _ (cdl x) _ hB.range cd_under rfl cd_info

theorem cd_at {W : World} {k : Nat} {x : Cd} (hB : Bx.Blk W k (cdl x)) : (Instr.loadAt 28 (.pointer (some ⟨k, 0, none⟩))).run Try.prog W = .ok (cdv x) W :=
  run_loadAt_mid W k 0 _ (cdl x) _ hB.range cd_under rfl cd_info

theorem cd_yields {ops : Array Oper} {S : World → Prop} {op : Oper} {a : Act} (hw : Region.wanted op (yielded ops a.tmps) = true) (ho : op.op = .load 28 (opA op.op)) (k : Nat) (hx : a.eval (opA op.op) = .pointer (some ⟨k, 0, none⟩)) (x : Cd) (hS : ∀ w, S w → Bx.Blk w k (cdl x)) : YieldsIf Try.prog ops S op (cdv x) a :=
  yieldsIf_load_mid hw _ _ ho k 0 hx (cdl x) _ (fun w h => (hS w h).range) cd_under rfl cd_info

theorem cd_result {fn : Func} {p : Tmp} (h : fn.results = #[.cell p 28]) {tmps : Array Value} {W : World} {k : Nat} {x : Cd} (hp : tmps.getD p undef = .pointer (some ⟨k, 0, none⟩)) (hB : Bx.Blk W k (cdl x)) :
    (results fn tmps).run Try.prog W = .ok (cdv x) W := by
  have hp' : tmps[p]?.getD undef = .pointer (some ⟨k, 0, none⟩) := by simpa using hp
  simp [results, h, hp', asAddr, cd_var hB]

theorem cd_result2 {fn : Func} {p q : Tmp} (h : fn.results = #[.cell p 28, .tmp q]) {tmps : Array Value} {W : World} {k : Nat} {x : Cd} {v : Value} (hp : tmps.getD p undef = .pointer (some ⟨k, 0, none⟩)) (hq : tmps.getD q undef = v) (hB : Bx.Blk W k (cdl x)) :
    (results fn tmps).run Try.prog W = .ok (.tuple #[cdv x, v]) W := by
  have hp' : tmps[p]?.getD undef = .pointer (some ⟨k, 0, none⟩) := by simpa using hp
  have hq' : tmps[q]?.getD undef = v := by simpa using hq
  simp [results, h, hp', hq', asAddr, cd_var hB]

theorem bd_one (x : Bd) : ∀ v ∈ bdl x, v.oneCell' = true := by simp [Value.oneCell']

theorem bd_info : (Try.prog.info? 33).map (·.size) = some 16 := by kernel_rfl

theorem bd_under : Try.prog.underlying 33 = some (.struct (Try.prog.fieldsOf 33)) := by kernel_rfl

section
variable {ops : Array Oper} {rest : List Oper} {op : Oper} {a : Act} {W : World} {Q : Exit → Act → World → Prop}

theorem bd_load (ho : op.op = .load 33 (opA op.op)) (hgd : Region.wanted op (yielded ops a.tmps) = true) (k : Nat) (hx : a.eval (opA op.op) = .pointer (some ⟨k, 0, none⟩)) (x : Bd) (hB : Bx.Blk W k (bdl x))
    (h : wpList Try.prog ops Q rest (a.put op.dst (bdv x)) W) : wpList Try.prog ops Q (op :: rest) a W :=
  Bx.step_load hgd _ _ ho k hx (bdl x) _ bd_under rfl bd_info hB h

theorem bd_store (ho : op.op = .store 33 (opA op.op) (opB op.op)) (hgd : Region.wanted op (yielded ops a.tmps) = true) (k : Nat) (x : Bd) (hx : a.eval (opA op.op) = .pointer (some ⟨k, 0, none⟩)) (hy : a.eval (opB op.op) = bdv x) (zs : List Value) (hz : zs.length = 16) (hO : Bx.Own W k zs)
    (h : wpList Try.prog ops Q rest (a.put op.dst undef) (W.setCells k 0 (bdl x))) : wpList Try.prog ops Q (op :: rest) a W :=
  Bx.step_store hgd _ _ _ ho k zs (bdl x) hx hy (by simp [hz]) bd_info (bd_one x) hO h

theorem bd_fresh {Wx : World} (ho : op.op = .store 33 (opA op.op) (opB op.op)) (hgd : Region.wanted op (yielded ops a.tmps) = true) (k : Nat) (x : Bd) (hx : a.eval (opA op.op) = .pointer (some ⟨k, 0, none⟩)) (hy : a.eval (opB op.op) = bdv x) (W : World) (zs : List Value) (hz : zs.length = 16) (hw : Wx = W.alloc (.cells zs.toArray 33)) (hk : k = W.heap.size)
    (h : wpList Try.prog ops Q rest (a.put op.dst undef) (W.alloc (bdo x))) : wpList Try.prog ops Q (op :: rest) a Wx := by
  subst hk hw
  exact Bx.step_new hgd _ _ _ ho zs (bdl x) _ hx hy (by simp [hz]) bd_info (bd_one x) h
end

theorem bd_var {W : World} {k : Nat} {x : Bd} (hB : Bx.Blk W k (bdl x)) : (loadVar 33 ⟨k, 0, none⟩).run Try.prog W = .ok (bdv x) W :=
  run_loadVar_mid W k 0 _ (bdl x) _ hB.range bd_under rfl bd_info

theorem bd_at {W : World} {k : Nat} {x : Bd} (hB : Bx.Blk W k (bdl x)) : (Instr.loadAt 33 (.pointer (some ⟨k, 0, none⟩))).run Try.prog W = .ok (bdv x) W :=
  run_loadAt_mid W k 0 _ (bdl x) _ hB.range bd_under rfl bd_info

theorem bd_yields {ops : Array Oper} {S : World → Prop} {op : Oper} {a : Act} (hw : Region.wanted op (yielded ops a.tmps) = true) (ho : op.op = .load 33 (opA op.op)) (k : Nat) (hx : a.eval (opA op.op) = .pointer (some ⟨k, 0, none⟩)) (x : Bd) (hS : ∀ w, S w → Bx.Blk w k (bdl x)) : YieldsIf Try.prog ops S op (bdv x) a :=
  yieldsIf_load_mid hw _ _ ho k 0 hx (bdl x) _ (fun w h => (hS w h).range) bd_under rfl bd_info

theorem bd_result {fn : Func} {p : Tmp} (h : fn.results = #[.cell p 33]) {tmps : Array Value} {W : World} {k : Nat} {x : Bd} (hp : tmps.getD p undef = .pointer (some ⟨k, 0, none⟩)) (hB : Bx.Blk W k (bdl x)) :
    (results fn tmps).run Try.prog W = .ok (bdv x) W := by
  have hp' : tmps[p]?.getD undef = .pointer (some ⟨k, 0, none⟩) := by simpa using hp
  simp [results, h, hp', asAddr, bd_var hB]

theorem bd_result2 {fn : Func} {p q : Tmp} (h : fn.results = #[.cell p 33, .tmp q]) {tmps : Array Value} {W : World} {k : Nat} {x : Bd} {v : Value} (hp : tmps.getD p undef = .pointer (some ⟨k, 0, none⟩)) (hq : tmps.getD q undef = v) (hB : Bx.Blk W k (bdl x)) :
    (results fn tmps).run Try.prog W = .ok (.tuple #[bdv x, v]) W := by
  have hp' : tmps[p]?.getD undef = .pointer (some ⟨k, 0, none⟩) := by simpa using hp
  have hq' : tmps[q]?.getD undef = v := by simpa using hq
  simp [results, h, hp', hq', asAddr, bd_var hB]

end Crd
end Go.Proofs.Ytkjdnmlaehjmgaa
