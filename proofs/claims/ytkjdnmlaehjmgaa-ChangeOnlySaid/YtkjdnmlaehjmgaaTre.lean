/-
  A bridge of the tree (api.Tree, 262 cells) as a value and in memory: read and written whole; its ports' array, read whole and by number; a port stored into it.
-/
import Derived.Test.YtkjdnmlaehjmgaaTreNum
import Derived.ChangeKeysEq
namespace Go.Proofs.Ytkjdnmlaehjmgaa
open Go.RowKit
namespace Tre
open Pre Crd

abbrev tdv (x : Td) : Value := .agg (tdl x).toArray
abbrev tdo (x : Td) : Obj := .cells (tdl x).toArray 31
abbrev csv (f : Nat → Cd) : Value := .agg (flat f).toArray
abbrev i8v (g : Nat → Int) : Value := .agg (i8 g).toArray
abbrev i8o (g : Nat → Int) : Obj := .cells (i8 g).toArray 57
abbrev Td.zero : Td := ⟨0, ⟨0, 0, 0, 0⟩, ⟨0, 0, 0, 0⟩, ⟨0, 0, 0, 0⟩, 0, fun _ => Cd.zero⟩

theorem td_info (x : Td) : (Try.prog.info? 31).map (·.size) = some (tdl x).length := by rw [tdl_len]; kernel_rfl

theorem td_under : Try.prog.underlying 31 = some (.struct (Try.prog.fieldsOf 31)) := by kernel_rfl

section
variable {ops : Array Oper} {rest : List Oper} {op : Oper} {a : Act} {W : World} {Q : Exit → Act → World → Prop}

theorem td_load (ho : op.op = .load 31 (opA op.op)) (hgd : Region.wanted op (yielded ops a.tmps) = true) (k : Nat) (hx : a.eval (opA op.op) = .pointer (some ⟨k, 0, none⟩)) (x : Td) (hB : Bx.Blk W k (tdl x))
    (h : wpList Try.prog ops Q rest (a.put op.dst (tdv x)) W) : wpList Try.prog ops Q (op :: rest) a W :=
  Bx.step_load hgd _ _ ho k hx (tdl x) _ td_under rfl (td_info x) hB h

theorem td_store (ho : op.op = .store 31 (opA op.op) (opB op.op)) (hgd : Region.wanted op (yielded ops a.tmps) = true) (k : Nat) (x : Td) (hx : a.eval (opA op.op) = .pointer (some ⟨k, 0, none⟩)) (hy : a.eval (opB op.op) = tdv x) (zs : List Value) (hz : zs.length = 262) (hO : Bx.Own W k zs)
    (h : wpList Try.prog ops Q rest (a.put op.dst undef) (W.setCells k 0 (tdl x))) : wpList Try.prog ops Q (op :: rest) a W :=
  Bx.step_store hgd _ _ _ ho k zs (tdl x) hx hy (by rw [hz, tdl_len]) (td_info x) (tdl_one x) hO h

theorem td_fresh {Wx : World} (ho : op.op = .store 31 (opA op.op) (opB op.op)) (hgd : Region.wanted op (yielded ops a.tmps) = true) (k : Nat) (x : Td) (hx : a.eval (opA op.op) = .pointer (some ⟨k, 0, none⟩)) (hy : a.eval (opB op.op) = tdv x) (W : World) (zs : List Value) (hz : zs.length = 262) (hw : Wx = W.alloc (.cells zs.toArray 31)) (hk : k = W.heap.size)
    (h : wpList Try.prog ops Q rest (a.put op.dst undef) (W.alloc (tdo x))) : wpList Try.prog ops Q (op :: rest) a Wx := by
  subst hk hw
  exact Bx.step_new hgd _ _ _ ho zs (tdl x) _ hx hy (by rw [hz, tdl_len]) (td_info x) (tdl_one x) h
end

theorem td_var {W : World} {k : Nat} {x : Td} (hB : Bx.Blk W k (tdl x)) : (loadVar 31 ⟨k, 0, none⟩).run Try.prog W = .ok (tdv x) W :=
  run_loadVar_mid W k 0 _ (tdl x) _ hB.range td_under rfl (td_info x)

theorem td_at {W : World} {k : Nat} {x : Td} (hB : Bx.Blk W k (tdl x)) : (Instr.loadAt 31 (.pointer (some ⟨k, 0, none⟩))).run Try.prog W = .ok (tdv x) W :=
  run_loadAt_mid W k 0 _ (tdl x) _ hB.range td_under rfl (td_info x)

theorem td_yields {ops : Array Oper} {S : World → Prop} {op : Oper} {a : Act} (hw : Region.wanted op (yielded ops a.tmps) = true) (ho : op.op = .load 31 (opA op.op)) (k : Nat) (hx : a.eval (opA op.op) = .pointer (some ⟨k, 0, none⟩)) (x : Td) (hS : ∀ w, S w → Bx.Blk w k (tdl x)) : YieldsIf Try.prog ops S op (tdv x) a :=
  yieldsIf_load_mid hw _ _ ho k 0 hx (tdl x) _ (fun w h => (hS w h).range) td_under rfl (td_info x)

theorem td_result {fn : Func} {p : Tmp} (h : fn.results = #[.cell p 31]) {tmps : Array Value} {W : World} {k : Nat} {x : Td} (hp : tmps.getD p undef = .pointer (some ⟨k, 0, none⟩)) (hB : Bx.Blk W k (tdl x)) :
    (results fn tmps).run Try.prog W = .ok (tdv x) W := by
  have hp' : tmps[p]?.getD undef = .pointer (some ⟨k, 0, none⟩) := by simpa using hp
  simp [results, h, hp', asAddr, td_var hB]

theorem td_result2 {fn : Func} {p q : Tmp} (h : fn.results = #[.cell p 31, .tmp q]) {tmps : Array Value} {W : World} {k : Nat} {x : Td} {v : Value} (hp : tmps.getD p undef = .pointer (some ⟨k, 0, none⟩)) (hq : tmps.getD q undef = v) (hB : Bx.Blk W k (tdl x)) :
    (results fn tmps).run Try.prog W = .ok (.tuple #[tdv x, v]) W := by
  have hp' : tmps[p]?.getD undef = .pointer (some ⟨k, 0, none⟩) := by simpa using hp
  have hq' : tmps[q]?.getD undef = v := by simpa using hq
  simp [results, h, hp', hq', asAddr, td_var hB]

theorem cs_info (f : Nat → Cd) : (Try.prog.info? 29).map (·.size) = some (flat f).length := by rw [flat_len]; kernel_rfl

theorem cs_under : Try.prog.underlying 29 = some (.array 8 28) := by kernel_rfl

theorem i8_info : (Try.prog.info? 57).map (·.size) = some 8 := by kernel_rfl

theorem i8_under : Try.prog.underlying 57 = some (.array 8 3) := by kernel_rfl

theorem i8_one (g : Nat → Int) : ∀ v ∈ i8 g, v.oneCell' = true := by simp [i8, Value.oneCell']

theorem cs_range {W : World} {k : Nat} {x : Td} (h : Bx.Blk W k (tdl x)) : W.rangeAt k 14 (flat x.cs) := fun j v hv => h (14 + j) v (by rw [tdl_flat]; exact hv)

theorem cc_range {W : World} {k : Nat} {x : Td} (h : Bx.Blk W k (tdl x)) (i : Nat) (hi : i < 8) : W.rangeAt k (14 + i * 31) (cdl (x.cs i)) := fun j v hv => h (14 + i * 31 + j) v (by
  have hj : j < 31 := (List.getElem?_eq_some_iff.1 hv).1
  rw [tdl_cs x i j hi hj]
  exact hv)

section
variable {ops : Array Oper} {rest : List Oper} {op : Oper} {a : Act} {W : World} {Q : Exit → Act → World → Prop}

/-- The step over a load of all ports. -/
theorem cs_load (ho : op.op = .load 29 (opA op.op)) (hgd : Region.wanted op (yielded ops a.tmps) = true) (k : Nat) (hx : a.eval (opA op.op) = .pointer (some ⟨k, 14, none⟩)) (x : Td) (hB : Bx.Blk W k (tdl x))
    (h : wpList Try.prog ops Q rest (a.put op.dst (csv x.cs)) W) : wpList Try.prog ops Q (op :: rest) a W :=
  BigFrame.wpList_want hgd fun _ hK => wp_load_mid _ _ ho k 14 hx (flat x.cs) _ (cs_range hB) cs_under rfl (cs_info x.cs) (hK _ _ h)

/-- The step over a load of one port out of a bridge. -/
theorem cc_load (ho : op.op = .load 28 (opA op.op)) (hgd : Region.wanted op (yielded ops a.tmps) = true) (k i : Nat) (hi : i < 8) (hx : a.eval (opA op.op) = .pointer (some ⟨k, 14 + i * 31, none⟩)) (x : Td) (hB : Bx.Blk W k (tdl x))
    (h : wpList Try.prog ops Q rest (a.put op.dst (cdv (x.cs i))) W) : wpList Try.prog ops Q (op :: rest) a W :=
  BigFrame.wpList_want hgd fun _ hK => wp_load_mid _ _ ho k (14 + i * 31) hx (cdl (x.cs i)) _ (cc_range hB i hi) cd_under rfl cd_info (hK _ _ h)

/-- The step over a store of one port into a bridge. -/
theorem cc_store (ho : op.op = .store 28 (opA op.op) (opB op.op)) (hgd : Region.wanted op (yielded ops a.tmps) = true) (k i : Nat) (hi : i < 8) (hx : a.eval (opA op.op) = .pointer (some ⟨k, 14 + i * 31, none⟩)) (c : Cd) (hy : a.eval (opB op.op) = cdv c) (x : Td) (hF : Bx.Fre W k (tdl x))
    (h : wpList Try.prog ops Q rest (a.put op.dst undef) (W.setCells k (14 + i * 31) (cdl c))) : wpList Try.prog ops Q (op :: rest) a W :=
  Bx.step_store_at hgd _ _ _ ho k (14 + i * 31) (tdl x) (cdl c) hx hy cd_info (cd_one c) (by rw [tdl_len]; show 14 + i * 31 + 31 ≤ 262; omega) hF h

theorem ccr_wp {K : Act → World → Prop} (ho : op.op = .load 28 (opA op.op)) (k i : Nat) (hi : i < 8) (hx : a.eval (opA op.op) = .pointer (some ⟨k, 14 + i * 31, none⟩)) (x : Td) (hB : Bx.Blk W k (tdl x))
    (h : K (a.put op.dst (cdv (x.cs i))) W) : op.wp Try.prog a W K Q :=
  wp_load_mid _ _ ho k (14 + i * 31) hx (cdl (x.cs i)) _ (cc_range hB i hi) cd_under rfl cd_info h

theorem cc_wp {K : Act → World → Prop} (ho : op.op = .store 28 (opA op.op) (opB op.op)) (k i : Nat) (hi : i < 8) (hx : a.eval (opA op.op) = .pointer (some ⟨k, 14 + i * 31, none⟩)) (c : Cd) (hy : a.eval (opB op.op) = cdv c) (x : Td) (hF : Bx.Fre W k (tdl x))
    (h : K (a.put op.dst undef) (W.setCells k (14 + i * 31) (cdl c))) : op.wp Try.prog a W K Q :=
  Bx.wp_store_at _ _ _ ho k (14 + i * 31) (tdl x) (cdl c) hx hy cd_info (cd_one c) (by rw [tdl_len]; show 14 + i * 31 + 31 ≤ 262; omega) hF h

/-- The step over a load of a port out of its own block. -/
theorem cdr_wp {K : Act → World → Prop} (ho : op.op = .load 28 (opA op.op)) (k : Nat) (hx : a.eval (opA op.op) = .pointer (some ⟨k, 0, none⟩)) (c : Cd) (hB : Bx.Blk W k (cdl c))
    (h : K (a.put op.dst (cdv c)) W) : op.wp Try.prog a W K Q :=
  wp_load_mid _ _ ho k 0 hx (cdl c) _ hB.range cd_under rfl cd_info h

/-- The step over a store of a port into a port's own block. -/
theorem cdw_wp {K : Act → World → Prop} (ho : op.op = .store 28 (opA op.op) (opB op.op)) (k : Nat) (hx : a.eval (opA op.op) = .pointer (some ⟨k, 0, none⟩)) (c : Cd) (hy : a.eval (opB op.op) = cdv c) (zs : List Value) (hz : zs.length = 31) (hF : Bx.Fre W k zs)
    (h : K (a.put op.dst undef) (W.setCells k 0 (cdl c))) : op.wp Try.prog a W K Q :=
  Bx.wp_store_at _ _ _ ho k 0 zs (cdl c) hx hy cd_info (cd_one c) (by rw [hz]; exact Nat.le_refl _) hF h

/-- The step over a load, a store and a new block of eight numbers. -/
theorem i8_load (ho : op.op = .load 57 (opA op.op)) (hgd : Region.wanted op (yielded ops a.tmps) = true) (k : Nat) (hx : a.eval (opA op.op) = .pointer (some ⟨k, 0, none⟩)) (g : Nat → Int) (hB : Bx.Blk W k (i8 g))
    (h : wpList Try.prog ops Q rest (a.put op.dst (i8v g)) W) : wpList Try.prog ops Q (op :: rest) a W :=
  Bx.step_load hgd _ _ ho k hx (i8 g) _ i8_under rfl i8_info hB h

theorem i8_store (ho : op.op = .store 57 (opA op.op) (opB op.op)) (hgd : Region.wanted op (yielded ops a.tmps) = true) (k : Nat) (g : Nat → Int) (hx : a.eval (opA op.op) = .pointer (some ⟨k, 0, none⟩)) (hy : a.eval (opB op.op) = i8v g) (zs : List Value) (hz : zs.length = 8) (hO : Bx.Own W k zs)
    (h : wpList Try.prog ops Q rest (a.put op.dst undef) (W.setCells k 0 (i8 g))) : wpList Try.prog ops Q (op :: rest) a W :=
  Bx.step_store hgd _ _ _ ho k zs (i8 g) hx hy hz i8_info (i8_one g) hO h

theorem i8_fresh {Wx : World} (ho : op.op = .store 57 (opA op.op) (opB op.op)) (hgd : Region.wanted op (yielded ops a.tmps) = true) (k : Nat) (g : Nat → Int) (hx : a.eval (opA op.op) = .pointer (some ⟨k, 0, none⟩)) (hy : a.eval (opB op.op) = i8v g) (W : World) (zs : List Value) (hz : zs.length = 8) (hw : Wx = W.alloc (.cells zs.toArray 57)) (hk : k = W.heap.size)
    (h : wpList Try.prog ops Q rest (a.put op.dst undef) (W.alloc (i8o g))) : wpList Try.prog ops Q (op :: rest) a Wx := by
  subst hk hw
  exact Bx.step_new hgd _ _ _ ho zs (i8 g) _ hx hy hz i8_info (i8_one g) h
end

theorem i8_var {W : World} {k : Nat} {g : Nat → Int} (hB : Bx.Blk W k (i8 g)) : (loadVar 57 ⟨k, 0, none⟩).run Try.prog W = .ok (i8v g) W :=
  run_loadVar_mid W k 0 _ (i8 g) _ hB.range i8_under rfl i8_info

theorem part_at (f : Nat → Cd) (i : Nat) (hi : i < 8) (w : World) : (part 28 (flat f).toArray (i * 31)).run Try.prog w = .ok (cdv (f i)) w := by
  have hag : (isAgg 28).run Try.prog w = .ok true w := by
    unfold isAgg
    rw [Sem.run_bind, run_underlying cd_under w]
    rfl
  have hsz : (sizeOf 28).run Try.prog w = .ok 31 w := by
    unfold sizeOf typeInfo
    have := cd_info
    cases hq : Try.prog.info? 28 with
    | none => simp [hq] at this
    | some s => simp [hq] at this; simp [hq, this]
  have h3 := flat_drop f i hi
  simp only [part, Sem.run_bind, hag, Result.andThen_ok, if_true, hsz, Sem.run_pure]
  rw [List.extract_toArray, List.extract_eq_take_drop, Nat.add_sub_cancel_left, h3]

/-- One port out of all. -/
theorem index_at (f : Nat → Cd) (i : Nat) (hi : i < 8) (w : World) : (Instr.index 29 (csv f) (.int .i64 (i : Int))).run Try.prog w = .ok (cdv (f i)) w := by
  have hsz : (sizeOf 28).run Try.prog w = .ok 31 w := by
    unfold sizeOf typeInfo
    have := cd_info
    cases hq : Try.prog.info? 28 with
    | none => simp [hq] at this
    | some s => simp [hq] at this; simp [hq, this]
  have h1 : (0 : Int) ≤ i := by omega
  have hp := part_at f i hi w
  simp [Instr.index, run_underlying cs_under, asIntOf, h1, hi, hsz, hp]

theorem cord_cell {W : World} {k : Nat} {x : Td} (hB : Bx.Blk W k (tdl x)) (i j : Nat) (hi : i < 8) (hj : j < 31) {v : Value} (h : (cdl (x.cs i))[j]? = some v) : W.cell? ⟨k, 14 + i * 31 + j, none⟩ = some v := hB _ v (by rw [tdl_cs x i j hi hj]; exact h)

/-- A row as an answer; three answers. -/
theorem row_result {fn : Func} {p : Tmp} {t : TypeId} (h : fn.results = #[.cell p t]) {tmps : Array Value} {W : World} {k : Nat} {v : Value} (hp : tmps.getD p undef = .pointer (some ⟨k, 0, none⟩)) (hl : (loadVar t ⟨k, 0, none⟩).run Try.prog W = .ok v W) :
    (results fn tmps).run Try.prog W = .ok v W := by
  have hp' : tmps[p]?.getD undef = .pointer (some ⟨k, 0, none⟩) := by simpa using hp
  simp [results, h, hp', asAddr, hl]

theorem vec_var {W : World} {k : Nat} {x : Vc} (hB : Bx.Blk W k (enc x)) : (loadVar 26 ⟨k, 0, none⟩).run Try.prog W = .ok (vv x) W :=
  run_loadVar_mid W k 0 _ (enc x) (.struct (Try.prog.fieldsOf 26)) hB.range (by kernel_rfl) rfl vec_info

theorem tm_var {W : World} {k : Nat} {x : Tm} (hB : Bx.Blk W k (tenc x)) : (loadVar 24 ⟨k, 0, none⟩).run Try.prog W = .ok (tmv x) W :=
  run_loadVar_mid W k 0 _ (tenc x) (.struct (Try.prog.fieldsOf 24)) hB.range (by kernel_rfl) rfl tm_info

theorem root_result {fn : Func} {p q r : Tmp} (h : fn.results = #[.cell p 26, .cell q 24, .tmp r]) {tmps : Array Value} {W : World} {k m : Nat} {x : Vc} {y : Tm} {v : Value} (hp : tmps.getD p undef = .pointer (some ⟨k, 0, none⟩)) (hq : tmps.getD q undef = .pointer (some ⟨m, 0, none⟩)) (hr : tmps.getD r undef = v) (hB : Bx.Blk W k (enc x)) (hC : Bx.Blk W m (tenc y)) :
    (results fn tmps).run Try.prog W = .ok (.tuple #[vv x, tmv y, v]) W := by
  have hp' : tmps[p]?.getD undef = .pointer (some ⟨k, 0, none⟩) := by simpa using hp
  have hq' : tmps[q]?.getD undef = .pointer (some ⟨m, 0, none⟩) := by simpa using hq
  have hr' : tmps[r]?.getD undef = v := by simpa using hr
  simp [results, h, hp', hq', hr', asAddr, vec_var hB, tm_var hC]

/-- A new bridge, all zero. -/
theorem zero_at (w : World) : (zeroValue 31).run Try.prog w = .ok (tdv Td.zero) w := by kernel_rfl

set_option maxRecDepth 40000 in
theorem cself_in (c : Cd) (w : World) : (Op.equalIn 9998 28 (cdv c) (cdv c)).run Try.prog w = .ok true w := by
  simp [go_sem]

theorem items_self (f : Nat → Cd) (w : World) : ∀ is : List Nat, (∀ i ∈ is, i < 8) → (Op.eqItems 9998 28 31 (flat f).toArray (flat f).toArray is).run Try.prog w = .ok true w
  | [], _ => by simp [Op.eqItems]
  | i :: is, h => by
    simp only [Op.eqItems, Sem.run_bind, part_at f i (h i (by simp)), cself_in, Result.andThen_ok]
    simpa using items_self f w is (fun j hj => h j (by simp [hj]))

theorem ports_self (f : Nat → Cd) (w : World) : (Op.equalIn 9999 29 (csv f) (csv f)).run Try.prog w = .ok true w := by
  obtain ⟨i, hi, hs⟩ := Option.map_eq_some_iff.1 cd_info
  rw [show (9999 : Nat) = 9998 + 1 from rfl, run_equalIn_array (w := w) 9998 (flat f).toArray (flat f).toArray cs_under hi]
  rw [show Try.prog.cellsOf 28 = 31 by kernel_rfl]
  exact items_self f w _ (fun j hj => List.mem_range.1 hj)

theorem flat_take (f : Nat → Cd) : List.take 248 (flat f) = flat f := List.take_of_length_le (by rw [flat_len]; exact Nat.le_refl _)

set_option maxRecDepth 40000 in
/-- Struct equality of a bridge with itself. -/
theorem tself_at (x : Td) (w : World) : (binOp .eql 31 (tdv x) (tdv x)).run Try.prog w = .ok (.bool true) w := by
  have hS : Try.prog.underlying 31 = some (.struct (Try.prog.fieldsOf 31)) := by kernel_rfl
  have hp : Try.prog.stoodInHeld 31 = false := by kernel_rfl
  have hf := ports_self x.cs
  have ht := flat_take x.cs
  rw [run_eql_struct, show (10000 : Nat) = 9999 + 1 from rfl, run_equalIn_agg w 9999 31 _ _ hS hp]
  simp only [Program.fieldsOf, Try.underlying31]
  unfold tdl
  simp [go_sem, ht, hf]

theorem tguard_at (op : BinOp) (a b : Operand) (x y : Td) (w : World) : Sem.run Try.prog (eqGuard op 31 a b (tdv x) (tdv y)) w = .ok () w :=
  run_eqGuard_agg w op 31 a b _ _ (by kernel_rfl)

end Tre
end Go.Proofs.Ytkjdnmlaehjmgaa
