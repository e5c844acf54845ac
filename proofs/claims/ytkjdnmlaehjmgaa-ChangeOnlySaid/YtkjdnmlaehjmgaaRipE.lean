/-
  Two bridges compared.
-/
import Derived.Test.YtkjdnmlaehjmgaaRipNum
import Derived.Test.YtkjdnmlaehjmgaaTre
import Derived.Test.YtkjdnmlaehjmgaaCrdEq
namespace Go.Proofs.Ytkjdnmlaehjmgaa
open Go.RowKit
namespace Rip
open Pre Crd Tre Elt

theorem ite_no {α : Type} {p : Prop} [Decidable p] {a b : α} (h : p → a = b) : (if p then a else b) = b := by
  split
  · exact h (by assumption)
  · rfl

theorem vc_ext (a b : Vc) (h1 : a.r = b.r) (h2 : a.c = b.c) (h3 : a.b = b.b) (h4 : a.p = b.p) : a = b := by
  cases a; cases b; simp only at h1 h2 h3 h4; subst h1 h2 h3 h4; rfl

theorem tm_ext (a b : Tm) (h1 : a.a = b.a) (h2 : a.m = b.m) (h3 : a.h = b.h) (h4 : a.d = b.d) : a = b := by
  cases a; cases b; simp only at h1 h2 h3 h4; subst h1 h2 h3 h4; rfl

theorem cd_ext (a b : Cd) (g0 : a.up = b.up) (g1 : a.adm = b.adm) (g2 : a.edge = b.edge) (g3 : a.cost = b.cost) (g4 : a.info = b.info) (g5 : a.v = b.v) (g6 : a.t = b.t) (g7 : a.role = b.role) (g8 : a.st = b.st) (g9 : a.agd = b.agd) (g10 : a.agr = b.agr) (g11 : a.png = b.png) (g12 : a.prd = b.prd) (g13 : a.syn = b.syn) (g14 : a.syd = b.syd) (g15 : a.rap = b.rap) (g16 : a.tel = b.tel) (g17 : a.ack = b.ack) (g18 : a.hrd = b.hrd) (g19 : a.wai = b.wai) (g20 : a.rcn = b.rcn) (g21 : a.chg = b.chg) (g22 : a.qui = b.qui) (g23 : a.sen = b.sen) (g24 : a.hel = b.hel) : a = b := by
  cases a; cases b; simp only at g0 g1 g2 g3 g4 g5 g6 g7 g8 g9 g10 g11 g12 g13 g14 g15 g16 g17 g18 g19 g20 g21 g22 g23 g24; subst g0 g1 g2 g3 g4 g5 g6 g7 g8 g9 g10 g11 g12 g13 g14 g15 g16 g17 g18 g19 g20 g21 g22 g23 g24; rfl

set_option maxRecDepth 40000 in
theorem ceql_in (c d : Cd) (w : World) : (Op.equalIn 9998 28 (cdv c) (cdv d)).run Try.prog w = .ok (decide (c = d)) w := by
  simp [go_sem]
  by_cases e : c = d
  · subst e; simp
  · rw [decide_eq_false e]
    exact ite_no fun h0 => ite_no fun h1 => ite_no fun h2 => ite_no fun h3 => ite_no fun h4 => ite_no fun h5 => ite_no fun h6 => ite_no fun h7 => ite_no fun h8 => ite_no fun h9 => ite_no fun h10 => ite_no fun h11 => ite_no fun h12 => ite_no fun h13 => ite_no fun h14 => ite_no fun h15 => ite_no fun h16 => ite_no fun h17 => ite_no fun h18 => ite_no fun h19 => ite_no fun h20 => ite_no fun h21 => ite_no fun h22 => ite_no fun h23 => ite_no fun h24 => ite_no fun h25 => ite_no fun h26 => ite_no fun h27 => ite_no fun h28 => ite_no fun h29 => ite_no fun h30 => absurd (cd_ext c d h0 h1 h2 (by have := h3; omega) h4 (vc_ext _ _ (by have := h5; omega) (by have := h6; omega) (by have := h7; omega) h8) (tm_ext _ _ h9 h10 h11 h12) h13 h14 h15 h16 h17 h18 h19 h20 h21 h22 h23 h24 h25 h26 h27 h28 h29 h30) e

theorem items_eql (f g : Nat → Cd) (w : World) : ∀ is : List Nat, (∀ i ∈ is, i < 8) → (Op.eqItems 9998 28 31 (flat f).toArray (flat g).toArray is).run Try.prog w = .ok (is.all fun i => decide (f i = g i)) w
  | [], _ => by simp [Op.eqItems]
  | i :: is, h => by
    simp only [Op.eqItems, Sem.run_bind, part_at f i (h i (by simp)), part_at g i (h i (by simp)), ceql_in, Result.andThen_ok]
    have ih := items_eql f g w is (fun j hj => h j (by simp [hj]))
    by_cases e : f i = g i
    · simp [e, ih]
    · simp [e]

/-- Whether all eight ports are the same. -/
def sam8 (f g : Nat → Cd) : Bool := (List.range 8).all fun i => decide (f i = g i)

theorem ports_eql (f g : Nat → Cd) (w : World) : (Op.equalIn 9999 29 (csv f) (csv g)).run Try.prog w = .ok (sam8 f g) w := by
  obtain ⟨i, hi, hs⟩ := Option.map_eq_some_iff.1 cd_info
  rw [show (9999 : Nat) = 9998 + 1 from rfl, run_equalIn_array (w := w) 9998 (flat f).toArray (flat g).toArray cs_under hi]
  rw [show Try.prog.cellsOf 28 = 31 by kernel_rfl]
  exact items_eql f g w _ (fun j hj => List.mem_range.1 hj)

def samT (x y : Td) : Bool := decide (x.id = y.id) && decide (x.own = y.own) && decide (x.root = y.root) && decide (x.times = y.times) && decide (x.port = y.port) && sam8 x.cs y.cs

theorem sam_eq {x y : Td} (h : samT x y = true) : Eq8 x y := by
  unfold samT sam8 at h
  simp only [Bool.and_eq_true, decide_eq_true_eq, List.all_eq_true, List.mem_range] at h
  obtain ⟨⟨⟨⟨⟨a, b⟩, c⟩, d⟩, e⟩, f⟩ := h
  exact ⟨a.symm, b.symm, c.symm, d.symm, e.symm, fun j hj => (f j hj).symm⟩

set_option maxRecDepth 40000 in
set_option maxHeartbeats 4000000 in
theorem teq_in (x y : Td) (w : World) : (Op.equalIn 10000 31 (tdv x) (tdv y)).run Try.prog w = .ok (samT x y) w := by
  have hS : Try.prog.underlying 31 = some (.struct (Try.prog.fieldsOf 31)) := by kernel_rfl
  have hp : Try.prog.stoodInHeld 31 = false := by kernel_rfl
  have hf := ports_eql x.cs y.cs
  have ht := flat_take x.cs
  have ht2 := flat_take y.cs
  rw [show (10000 : Nat) = 9999 + 1 from rfl, run_equalIn_agg w 9999 31 _ _ hS hp]
  simp only [Program.fieldsOf, Try.underlying31]
  unfold tdl
  simp [go_sem, ht, ht2, hf]
  cases e : samT x y with
  | true =>
    unfold samT at e
    simp only [Bool.and_eq_true, decide_eq_true_eq] at e
    obtain ⟨⟨⟨⟨⟨a, b⟩, c⟩, d⟩, f⟩, g⟩ := e
    simp [a, b, c, d, f, g]
  | false =>
    refine ite_no fun j0 => ite_no fun j1 => ite_no fun j2 => ite_no fun j3 => ite_no fun j4 => ite_no fun j5 => ite_no fun j6 => ite_no fun j7 => ite_no fun j8 => ite_no fun j9 => ite_no fun j10 => ite_no fun j11 => ite_no fun j12 => ite_no fun j13 => ?_
    have a : x.id = y.id := by omega
    have b : x.own = y.own := tm_ext _ _ j1 j2 j3 j4
    have c : x.root = y.root := vc_ext _ _ (by omega) (by omega) (by omega) j8
    have d : x.times = y.times := tm_ext _ _ j9 j10 j11 j12
    unfold samT at e
    rw [decide_eq_true a, decide_eq_true b, decide_eq_true c, decide_eq_true d, decide_eq_true j13] at e
    simp only [Bool.true_and] at e
    rw [if_pos e]

theorem teql_any (x y : Td) (w : World) : (binOp .eql 31 (tdv x) (tdv y)).run Try.prog w = .ok (.bool (samT x y)) w := by
  rw [run_eql_struct, teq_in]
  rfl

theorem tneq_any (x y : Td) (w : World) : (binOp .neq 31 (tdv x) (tdv y)).run Try.prog w = .ok (.bool (!samT x y)) w := by
  rw [run_neq_struct, teq_in]
  rfl

end Rip
end Go.Proofs.Ytkjdnmlaehjmgaa
