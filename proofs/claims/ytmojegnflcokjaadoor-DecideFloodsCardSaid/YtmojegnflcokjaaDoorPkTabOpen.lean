/-
  Packed in one text: TabOpen, TabIn, Whole, EthA, MemNum, MemA, OpenArr, MemOpen, EthOpen, Card, FwdB, TabInv.
-/
import Derived.Test.YtmojegnflcokjaaDoorTabK
import Derived.Test.YtmojegnflcokjaaDoorPkFrame
import Derived.WideShapes
import Derived.Test.YtmojegnflcokjaaDoorBox
import Derived.Deep.MidRow
import Derived.BigFrame
import Derived.Test.YtmojegnflcokjaaDoorPkOctNum
import Derived.Test.YtmojegnflcokjaaDoorPorNum
import Derived.Test.YtmojegnflcokjaaDoorPorA
import Derived.Deep.RegionHeld3
import Derived.LaidMore
import Derived.Lay
import Derived.Stop.Joined
import Derived.Test.YtmojegnflcokjaaDoorTabI
/-
  A list of what happens that came in: in memory, each step field by field.
-/
namespace Go.Proofs.YtmojegnflcokjaaDoor
open Go.ChangeShapes Go.WideShapes Go.ChangeAt Go.RowKit Go.Deep
namespace Tab

/-- The slice that begins at A reads as the steps l. -/
def Ops (w : World) (A : Option Addr) (l : List Ev) : Prop := ∀ j x, l[j]? = some x → ∃ b o, A = some ⟨b, o, none⟩ ∧ b < w.heap.size ∧ w.cell? ⟨b, o + j * 5, none⟩ = some (.int .i64 x.k) ∧ w.cell? ⟨b, o + j * 5 + 1, none⟩ = some (.int .i64 x.v) ∧ w.cell? ⟨b, o + j * 5 + 2, none⟩ = some (.int .u64 x.m) ∧ w.cell? ⟨b, o + j * 5 + 3, none⟩ = some (.int .i64 x.p) ∧ w.cell? ⟨b, o + j * 5 + 4, none⟩ = some (.int .i64 x.s)

theorem Ops.below {w w' : World} {A : Option Addr} {l : List Ev} (h : Ops w A l) (hb : Below w.heap.size w w') : Ops w' A l := fun j x hj => by
  obtain ⟨b, o, e, h1, h2, h3, h4, h5, h6⟩ := h j x hj
  exact ⟨b, o, e, Nat.lt_of_lt_of_le h1 hb.size, Bx.keep_cell hb h2, Bx.keep_cell hb h3, Bx.keep_cell hb h4, Bx.keep_cell hb h5, Bx.keep_cell hb h6⟩

theorem Ops.at {w : World} {A : Option Addr} {l : List Ev} (h : Ops w A l) {k : Nat} (hk : k < l.length) : ∃ b o, A = some ⟨b, o, none⟩ ∧ b < w.heap.size ∧ w.cell? ⟨b, o + k * 5, none⟩ = some (.int .i64 l[k].k) ∧ w.cell? ⟨b, o + k * 5 + 1, none⟩ = some (.int .i64 l[k].v) ∧ w.cell? ⟨b, o + k * 5 + 2, none⟩ = some (.int .u64 l[k].m) ∧ w.cell? ⟨b, o + k * 5 + 3, none⟩ = some (.int .i64 l[k].p) ∧ w.cell? ⟨b, o + k * 5 + 4, none⟩ = some (.int .i64 l[k].s) := h k l[k] (List.getElem?_eq_getElem hk)

theorem nat_u64 {n : Int} (h : (Lit.int .u64 n).wf = true) : ∃ m : Nat, n = m ∧ m < 18446744073709551616 := by
  have h0 : IntKind.u64.min = 0 := by decide
  have h1 : IntKind.u64.max = 18446744073709551615 := by decide
  simp [Lit.wf, h0, h1] at h
  exact ⟨n.toNat, by omega, by omega⟩

set_option maxRecDepth 40000 in
theorem open_ops {H : Type} {enc : TypeId × Value → H} {W : World} {base b0 : Nat} {spare : Nat → Bool} {held : Bool} {r : Reach} {v : Value} {d : DataW H} {p : List MemPlace}
    (hv : Value.okWide Tryd.prog W r b0 50 v) (h : DataW.Trod enc Tryd.prog W base spare held 50 v d p) :
    ∃ (A : Option Addr) (l : List Ev) (cap : Nat), v = .slice A l.length cap ∧ l.length ≤ maxLen ∧ Ops W A l ∧ ∀ x ∈ l, x.m < 18446744073709551616 := by
  obtain ⟨a0, len, cap, rfl⟩ := okWide_slice Tryd.underlying50 hv
  obtain ⟨fuel, hf⟩ := h
  have hS : Tryd.prog.underlying 55 = some (.struct (Tryd.prog.fieldsOf 55)) := by kernel_rfl
  have h5 : (Tryd.prog.fieldsOf 55).size = 5 := by kernel_rfl
  rcases Fr.open_rows Tryd.underlying50 hS (by kernel_rfl) (by kernel_rfl) hf with hcs | ⟨a, len', cap', n, hcs, hl, hm, hcell⟩
  · simp [Value.cells] at hcs
    obtain ⟨rfl, rfl, rfl⟩ := hcs
    exact ⟨none, [], 0, rfl, Nat.zero_le _, (fun j x h => by simp at h), fun x hx => by simp at hx⟩
  · simp [Value.cells] at hcs
    obtain ⟨rfl, rfl, rfl⟩ := hcs
    rw [h5] at hcell
    have fld : ∀ (j : Nat) (f : Field), (Tryd.prog.fieldsOf 55)[j]? = some f → ∀ i, i < len → ∃ c y, W.cell? (a.add (i * 5 + j)) = some c ∧ DataW.trod enc Tryd.prog W base spare held n f.type [c] = some y := fun j f hj i hi => hcell i hi j f hj
    have each : ∀ i, i < len → ∃ x : Ev, W.cell? (a.add (i * 5 + 0)) = some (.int .i64 x.k) ∧ W.cell? (a.add (i * 5 + 1)) = some (.int .i64 x.v) ∧ W.cell? (a.add (i * 5 + 2)) = some (.int .u64 x.m) ∧ W.cell? (a.add (i * 5 + 3)) = some (.int .i64 x.p) ∧ W.cell? (a.add (i * 5 + 4)) = some (.int .i64 x.s) ∧ x.m < 18446744073709551616 := by
      intro i hi
      obtain ⟨c0, y0, e0, t0⟩ := fld 0 ((Tryd.prog.fieldsOf 55)[0]'(by rw [h5]; decide)) (Array.getElem?_eq_getElem _) i hi
      obtain ⟨c1, y1, e1, t1⟩ := fld 1 ((Tryd.prog.fieldsOf 55)[1]'(by rw [h5]; decide)) (Array.getElem?_eq_getElem _) i hi
      obtain ⟨c2, y2, e2, t2⟩ := fld 2 ((Tryd.prog.fieldsOf 55)[2]'(by rw [h5]; decide)) (Array.getElem?_eq_getElem _) i hi
      obtain ⟨c3, y3, e3, t3⟩ := fld 3 ((Tryd.prog.fieldsOf 55)[3]'(by rw [h5]; decide)) (Array.getElem?_eq_getElem _) i hi
      obtain ⟨c4, y4, e4, t4⟩ := fld 4 ((Tryd.prog.fieldsOf 55)[4]'(by rw [h5]; decide)) (Array.getElem?_eq_getElem _) i hi
      obtain ⟨x0, g0, _, _⟩ := DataW.trod_int Tryd.underlying3 t0
      obtain ⟨x1, g1, _, _⟩ := DataW.trod_int Tryd.underlying3 t1
      obtain ⟨x2, g2, _, w2⟩ := DataW.trod_int Tryd.underlying30 t2
      obtain ⟨x3, g3, _, _⟩ := DataW.trod_int Tryd.underlying3 t3
      obtain ⟨x4, g4, _, _⟩ := DataW.trod_int Tryd.underlying3 t4
      simp at g0 g1 g2 g3 g4
      obtain ⟨m, rfl, hm⟩ := nat_u64 w2
      subst g0 g1 g2 g3 g4
      exact ⟨⟨x0, x1, m, x3, x4⟩, e0, e1, e2, e3, e4, hm⟩
    haveI : Inhabited Ev := ⟨⟨0, 0, 0, 0, 0⟩⟩
    obtain ⟨q, hq⟩ := choose_lt each
    have hget : ∀ j x, ((List.range len).map q)[j]? = some x → j < len ∧ x = q j := by
      intro j x hj
      rw [List.getElem?_map] at hj
      cases hr : (List.range len)[j]? with
      | none => rw [hr] at hj; cases hj
      | some k =>
        rw [hr] at hj
        obtain ⟨h1, h2⟩ := List.getElem?_eq_some_iff.1 hr
        rw [List.getElem_range] at h2
        rw [List.length_range] at h1
        subst h2
        exact ⟨h1, (Option.some.inj hj).symm⟩
    refine ⟨some a, (List.range len).map q, cap, by simp, by simp; omega, fun j x hj => ?_, fun x hx => ?_⟩
    · obtain ⟨hj1, rfl⟩ := hget j x hj
      obtain ⟨c0, c1, c2, c3, c4, _⟩ := hq j hj1
      obtain ⟨b, o, sp⟩ := a
      cases sp with
      | none =>
        rw [Addr.add_lit] at c0 c1 c2 c3 c4
        exact ⟨b, o, rfl, World.block_lt_of_cell? _ _ c0, c0, c1, c2, c3, c4⟩
      | some s =>
        exfalso
        obtain ⟨c00, _⟩ := hq 0 (by omega)
        rw [show Addr.add ⟨b, o, some s⟩ (0 * 5 + 0) = ⟨b, o, some s⟩ from rfl, Fr.no_spot] at c00
        cases c00
    · obtain ⟨j, hj, rfl⟩ := List.mem_map.1 hx
      exact (hq j (List.mem_range.1 hj)).2.2.2.2.2

end Tab
end Go.Proofs.YtmojegnflcokjaaDoor

/-
  A table that came in by value: its numbers, and its entries in memory.
-/
namespace Go.Proofs.YtmojegnflcokjaaDoor
open Go.ChangeShapes Go.WideShapes Go.ChangeAt Go.RowKit Go.Deep
namespace Tab

/-- An entry whose numbers are those of a machine. -/
def wfE (e : En) : Prop := (-9223372036854775808 ≤ e.v ∧ e.v ≤ 9223372036854775807) ∧ e.m < 18446744073709551616 ∧ (-9223372036854775808 ≤ e.p ∧ e.p ≤ 9223372036854775807) ∧ (-9223372036854775808 ≤ e.a ∧ e.a ≤ 9223372036854775807)

theorem int_in {n : Int} (h : (Lit.int .i64 n).wf = true) : -9223372036854775808 ≤ n ∧ n ≤ 9223372036854775807 := by
  have h0 : IntKind.i64.min = -9223372036854775808 := by decide
  have h1 : IntKind.i64.max = 9223372036854775807 := by decide
  simp [Lit.wf, h0, h1] at h
  omega

theorem wf_mk {v p a : Int} {m : Nat} (hv : (Lit.int .i64 v).wf = true) (hm : m < 18446744073709551616) (hp : (Lit.int .i64 p).wf = true) (ha : (Lit.int .i64 a).wf = true) : wfE ⟨v, m, p, a⟩ := by
  unfold wfE
  exact ⟨int_in hv, hm, int_in hp, int_in ha⟩

set_option maxRecDepth 20000 in
theorem open_ents {H : Type} {enc : TypeId × Value → H} {W : World} {base : Nat} {spare : Nat → Bool} {held : Bool} {fuel : Nat} {v : Value} {x : DataW H × List MemPlace}
    (hf : DataW.trod enc Tryd.prog W base spare held fuel 22 [v] = some x) :
    ∃ (A : Option Addr) (l : List En) (cap : Nat), v = .slice A l.length cap ∧ l.length ≤ maxLen ∧ Ents W A l ∧ ∀ x ∈ l, wfE x := by
  have hS : Tryd.prog.underlying 62 = some (.struct (Tryd.prog.fieldsOf 62)) := by kernel_rfl
  have h4 : (Tryd.prog.fieldsOf 62).size = 4 := by kernel_rfl
  rcases Fr.open_rows Tryd.underlying22 hS (by kernel_rfl) (by kernel_rfl) hf with hcs | ⟨a, len, cap, n, hcs, hl, hm, hcell⟩
  · injection hcs with hcs _
    exact ⟨none, [], 0, hcs, Nat.zero_le _, (fun j x h => by simp at h), fun x hx => by simp at hx⟩
  · injection hcs with hcs _
    subst hcs
    rw [h4] at hcell
    have fld : ∀ (j : Nat) (f : Field), (Tryd.prog.fieldsOf 62)[j]? = some f → ∀ i, i < len → ∃ c y, W.cell? (a.add (i * 4 + j)) = some c ∧ DataW.trod enc Tryd.prog W base spare held n f.type [c] = some y := fun j f hj i hi => hcell i hi j f hj
    have each : ∀ i, i < len → ∃ x : En, W.cell? (a.add (i * 4 + 0)) = some (.int .i64 x.v) ∧ W.cell? (a.add (i * 4 + 1)) = some (.int .u64 x.m) ∧ W.cell? (a.add (i * 4 + 2)) = some (.int .i64 x.p) ∧ W.cell? (a.add (i * 4 + 3)) = some (.int .i64 x.a) ∧ wfE x := by
      intro i hi
      obtain ⟨c0, y0, e0, t0⟩ := fld 0 ((Tryd.prog.fieldsOf 62)[0]'(by rw [h4]; decide)) (Array.getElem?_eq_getElem _) i hi
      obtain ⟨c1, y1, e1, t1⟩ := fld 1 ((Tryd.prog.fieldsOf 62)[1]'(by rw [h4]; decide)) (Array.getElem?_eq_getElem _) i hi
      obtain ⟨c2, y2, e2, t2⟩ := fld 2 ((Tryd.prog.fieldsOf 62)[2]'(by rw [h4]; decide)) (Array.getElem?_eq_getElem _) i hi
      obtain ⟨c3, y3, e3, t3⟩ := fld 3 ((Tryd.prog.fieldsOf 62)[3]'(by rw [h4]; decide)) (Array.getElem?_eq_getElem _) i hi
      obtain ⟨x0, g0, _, w0⟩ := DataW.trod_int Tryd.underlying3 t0
      obtain ⟨x1, g1, _, w1⟩ := DataW.trod_int Tryd.underlying30 t1
      obtain ⟨x2, g2, _, w2⟩ := DataW.trod_int Tryd.underlying3 t2
      obtain ⟨x3, g3, _, w3⟩ := DataW.trod_int Tryd.underlying3 t3
      simp at g0 g1 g2 g3
      obtain ⟨m, rfl, hm⟩ := nat_u64 w1
      subst g0 g1 g2 g3
      exact ⟨⟨x0, m, x2, x3⟩, e0, e1, e2, e3, wf_mk w0 hm w2 w3⟩
    haveI : Inhabited En := ⟨⟨0, 0, 0, 0⟩⟩
    obtain ⟨q, hq⟩ := choose_lt each
    have hget : ∀ j x, ((List.range len).map q)[j]? = some x → j < len ∧ x = q j := by
      intro j x hj
      rw [List.getElem?_map] at hj
      cases hr : (List.range len)[j]? with
      | none => rw [hr] at hj; cases hj
      | some k =>
        rw [hr] at hj
        obtain ⟨h1, h2⟩ := List.getElem?_eq_some_iff.1 hr
        rw [List.getElem_range] at h2
        rw [List.length_range] at h1
        subst h2
        exact ⟨h1, (Option.some.inj hj).symm⟩
    refine ⟨some a, (List.range len).map q, cap, by simp, by simp; omega, fun j x hj => ?_, fun x hx => ?_⟩
    · obtain ⟨hj1, rfl⟩ := hget j x hj
      obtain ⟨c0, c1, c2, c3, _⟩ := hq j hj1
      obtain ⟨b, o, sp⟩ := a
      cases sp with
      | none =>
        rw [Addr.add_lit] at c0 c1 c2 c3
        exact ⟨b, o, rfl, World.block_lt_of_cell? _ _ c0, c0, c1, c2, c3⟩
      | some s =>
        exfalso
        obtain ⟨c00, _⟩ := hq 0 (by omega)
        rw [show Addr.add ⟨b, o, some s⟩ (0 * 4 + 0) = ⟨b, o, some s⟩ from rfl, Fr.no_spot] at c00
        cases c00
    · obtain ⟨i, hi, rfl⟩ := List.mem_map.1 hx
      exact (hq i (List.mem_range.1 hi)).2.2.2.2

set_option maxRecDepth 20000 in
theorem open_table {H : Type} {enc : TypeId × Value → H} {W : World} {base b0 : Nat} {spare : Nat → Bool} {held : Bool} {r : Reach} {v : Value} {d : DataW H} {p : List MemPlace}
    (hv : Value.okWide Tryd.prog W r b0 24 v) (h : DataW.Trod enc Tryd.prog W base spare held 24 v d p) :
    ∃ (most long : Int) (A : Option Addr) (l : List En) (k : Nat), v = tv most long A l.length k ∧ l.length ≤ maxLen ∧ Ents W A l ∧ ∀ x ∈ l, wfE x := by
  obtain ⟨l, n, rfl, hl, hg⟩ := Fr.open_fields Tryd.underlying24 (by kernel_rfl) (by kernel_rfl) hv h
  match l, hl with
  | [v0, v1, v2], _ =>
    obtain ⟨c0, y0, e0, t0⟩ := hg 0 _ rfl
    obtain ⟨c1, y1, e1, t1⟩ := hg 1 _ rfl
    obtain ⟨c2, y2, e2, t2⟩ := hg 2 _ rfl
    cases e0
    cases e1
    cases e2
    obtain ⟨x0, f0, _, _⟩ := DataW.trod_int Tryd.underlying3 t0
    obtain ⟨x1, f1, _, _⟩ := DataW.trod_int Tryd.underlying3 t1
    simp at f0 f1
    subst f0 f1
    obtain ⟨A, l, k, rfl, h1, h2, h3⟩ := open_ents t2
    exact ⟨x0, x1, A, l, k, rfl, h1, h2, h3⟩

end Tab
end Go.Proofs.YtmojegnflcokjaaDoor

/-
  Values of many cells in memory: a whole struct or array read and written at once (no program): what a block holds that may be written, what stays of it, and the steps of a walk over a load and a store of many cells.
-/
namespace Go.Proofs.YtmojegnflcokjaaDoor
open Go.RowKit
namespace Bx

theorem Blk.range {W : World} {k : Nat} {l : List Value} (h : Blk W k l) : W.rangeAt k 0 l := fun j v hv => by rw [Nat.zero_add]; exact h j v hv

/-- The first cells of a block, which may be written. -/
def Own (W : World) (k : Nat) (l : List Value) : Prop := Blk W k l ∧ W.there k 0 l.length

theorem Own.blk {W : World} {k : Nat} {l : List Value} (h : Own W k l) : Blk W k l := h.1

theorem there_keep {W w1 : World} {k n : Nat} (h : W.there k 0 n) (hb : Below W.heap.size W w1) : w1.there k 0 n := fun j hj => by
  obtain ⟨h1, h2⟩ := h j hj
  obtain ⟨u, hu⟩ := Option.isSome_iff_exists.1 h1
  have hlt := World.block_lt_of_cell? W _ hu
  exact ⟨by rw [hb.cell hlt]; exact h1, by rw [hb.frozen hlt]; exact h2⟩

theorem Own.keep {W w1 : World} {k : Nat} {l : List Value} (h : Own W k l) (hb : Below W.heap.size W w1) : Own w1 k l := ⟨h.1.keep hb, there_keep h.2 hb⟩

theorem Own.more {W : World} {k : Nat} {l : List Value} (h : Own W k l) (o : Obj) : Own (W.alloc o) k l := h.keep (box_below W o)

theorem Own.draw {W : World} {k : Nat} {l : List Value} (h : Own W k l) : Own W.drew k l := h

theorem there_new (W : World) (l : List Value) (t : TypeId) : (W.alloc (.cells l.toArray t)).there W.heap.size 0 l.length := fun j hj => by
  rw [Nat.zero_add]
  refine ⟨?_, ?_⟩
  · rw [World.cell?_alloc_new]; simp [hj]
  · simp [go_sem]

theorem Own.new (W : World) (l : List Value) (t : TypeId) : Own (W.alloc (.cells l.toArray t)) W.heap.size l := ⟨Blk.new W l t, there_new W l t⟩

theorem Own.new_at {W : World} {k : Nat} (l : List Value) (t : TypeId) (hk : k = W.heap.size) : Own (W.alloc (.cells l.toArray t)) k l := by subst hk; exact Own.new W l t

theorem Own.put {W : World} {k : Nat} {l m : List Value} (h : Own W k l) (hm : m.length = l.length) : Own (W.setCells k 0 m) k m := by
  refine ⟨fun j v hv => ?_, fun j hj => ?_⟩
  · have := World.rangeAt_setCells_same W k 0 m (by rw [hm]; exact h.2) j v hv
    rwa [Nat.zero_add] at this
  · exact World.there_setCells h.2 k 0 m j (by omega)

theorem Blk.apart {W : World} {k k' : Nat} {l m : List Value} (h : Blk W k l) (hne : k ≠ k') : Blk (W.setCells k' 0 m) k l := fun j v hv => by
  have := World.rangeAt_setCells_apart h.range k' 0 m (.inl hne) j v hv
  rwa [Nat.zero_add] at this

theorem cell_cells {W : World} {m k j : Nat} {v : Value} {l : List Value} (h : W.cell? ⟨m, j, none⟩ = some v) (hne : m ≠ k) : (W.setCells k 0 l).cell? ⟨m, j, none⟩ = some v := by
  rw [World.cell?_setCells_out k l 0 W ⟨m, j, none⟩ (fun hb _ => absurd hb hne)]
  exact h

theorem Own.apart {W : World} {k k' : Nat} {l m : List Value} (h : Own W k l) (hne : k ≠ k') : Own (W.setCells k' 0 m) k l := ⟨h.1.apart hne, World.there_setCells h.2 k' 0 m⟩

theorem below_cells {B : Nat} {a : World} (b : Nat) (hb : B ≤ b) : ∀ (vs : List Value) (o : Nat) {w : World}, Below B a w → Below B a (w.setCells b o vs)
  | [], _, _, h => h
  | v :: r, o, _, h => below_cells b hb r (o + 1) (h.setCell (p := ⟨b, o, none⟩) hb v)

theorem bel_cells {a W : World} {k : Nat} {m : List Value} (h : Below a.heap.size a W) (hb : a.heap.size ≤ k) : Below a.heap.size a (W.setCells k 0 m) := below_cells k hb m 0 h

theorem setCells_new (W : World) (t : TypeId) : ∀ (vs pre zs : List Value), zs.length = vs.length → (W.alloc (.cells (pre ++ zs).toArray t)).setCells W.heap.size pre.length vs = W.alloc (.cells (pre ++ vs).toArray t)
  | [], pre, zs, h => by
    have : zs = [] := List.eq_nil_of_length_eq_zero h
    subst this
    rfl
  | v :: vs, pre, [], h => by simp at h
  | v :: vs, pre, z :: zs, h => by
    have ih := setCells_new W t vs (pre ++ [v]) zs (by simpa using h)
    rw [World.setCells, World.setCell_alloc_new]
    have e : (pre ++ z :: zs).toArray.setIfInBounds pre.length v = (pre ++ [v] ++ zs).toArray := by simp
    rw [e]
    simpa using ih

section
variable {P : Program} {ops : Array Oper} {rest : List Oper} {op : Oper} {a : Act} {W : World} {Q : Exit → Act → World → Prop}

/-- The step over a load of a whole struct or array. -/
theorem step_load (hgd : Region.wanted op (yielded ops a.tmps) = true) (ty : TypeId) (x : Operand) (ho : op.op = .load ty x) (k : Nat) (hx : a.eval x = .pointer (some ⟨k, 0, none⟩)) (l : List Value) (d : TypeDesc)
    (hu : P.underlying ty = some d) (hd : d.isRow = true) (hi : (P.info? ty).map (·.size) = some l.length) (hB : Blk W k l)
    (h : wpList P ops Q rest (a.put op.dst (.agg l.toArray)) W) : wpList P ops Q (op :: rest) a W :=
  BigFrame.wpList_want hgd fun _ hK => wp_load_mid ty x ho k 0 hx l d hB.range hu hd hi (hK _ _ h)

/-- The step over a store of a whole struct or array into a block that was just made. -/
theorem step_new (hgd : Region.wanted op (yielded ops a.tmps) = true) (ty : TypeId) (x y : Operand) (ho : op.op = .store ty x y) (zs l : List Value) (t : TypeId) (hx : a.eval x = .pointer (some ⟨W.heap.size, 0, none⟩)) (hy : a.eval y = .agg l.toArray)
    (hz : zs.length = l.length) (hi : (P.info? ty).map (·.size) = some l.length) (h1 : ∀ v ∈ l, v.oneCell' = true)
    (h : wpList P ops Q rest (a.put op.dst undef) (W.alloc (.cells l.toArray t))) : wpList P ops Q (op :: rest) a (W.alloc (.cells zs.toArray t)) := by
  refine BigFrame.wpList_want hgd fun _ hK => wp_store_mid ty x y ho W.heap.size 0 l.toArray hx hy ?_ (by simpa using hi) (all_oneCell_toArray h1) (hK _ _ ?_)
  · have := there_new W zs t
    rw [hz] at this
    simpa using this
  · have := setCells_new W t l [] zs hz
    simp only [List.nil_append, List.length_nil] at this
    simp only [this]
    exact h

/-- The step over such a store into an older block. -/
theorem step_store (hgd : Region.wanted op (yielded ops a.tmps) = true) (ty : TypeId) (x y : Operand) (ho : op.op = .store ty x y) (k : Nat) (zs l : List Value) (hx : a.eval x = .pointer (some ⟨k, 0, none⟩)) (hy : a.eval y = .agg l.toArray)
    (hz : zs.length = l.length) (hi : (P.info? ty).map (·.size) = some l.length) (h1 : ∀ v ∈ l, v.oneCell' = true) (hO : Own W k zs)
    (h : wpList P ops Q rest (a.put op.dst undef) (W.setCells k 0 l)) : wpList P ops Q (op :: rest) a W := by
  refine BigFrame.wpList_want hgd fun _ hK => wp_store_mid ty x y ho k 0 l.toArray hx hy ?_ (by simpa using hi) (all_oneCell_toArray h1) (hK _ _ ?_)
  · have := hO.2
    rw [hz] at this
    simpa using this
  · simpa using h
end

end Bx
end Go.Proofs.YtmojegnflcokjaaDoor

/-
  What the small functions of package ether, and the document's answers beside them, say of any frame: headOf, within, pair, pairAt, Retag, Vlan, Turn, Short; and that they change nothing that was there.
-/
namespace Go.Proofs.YtmojegnflcokjaaDoor
open Go.RowKit
namespace Eth
open Oct Mac

theorem then_below {a b c : World} (h1 : Below a.heap.size a b) (h2 : Below b.heap.size b c) : Below a.heap.size a c := h1.trans (h2.mono h1.size)

theorem ret_val {a b : Value} (h : a = b) : Ending.returned a = .returned b := by rw [h]

/-- A frame as a value. -/
abbrev fr (d s : Int) (g : Bool) (p v t : Int) (b : ByteArray) : Value := .agg #[.int .u64 d, .int .u64 s, .bool g, .int .i64 p, .int .i64 v, .int .i64 t, .string b]

theorem get2_lt (s : ByteArray) (a : Int) : (getR s a 2).1 < 65536 := by
  unfold getR
  split
  · simp
  · split
    · simp
    · rename_i h
      have h' : cutE s.size a 2 = 0 := by omega
      have hl := getL_lt (cutS s a 2).data.toList
      have hz := cutS_size s a 2 h'
      have hn : (cutS s a 2).data.toList.length = 2 := by
        have : (cutS s a 2).data.toList.length = (cutS s a 2).size := by rw [Array.length_toList]; rfl
        omega
      rw [hn] at hl
      exact hl

set_option maxRecDepth 40000 in
theorem retag_any (d s : Int) (g : Bool) (p v t : Int) (b : ByteArray) (x : Bool) (y : Int) (w : World) :
    Calls Tryd.prog 66 #[fr d s g p v t b, .bool x, .int .i64 y] w fun e w' => e = .returned (fr d s x (if x then p else 0) (if x then y else 0) t b) ∧ Below w.heap.size w w' := by
  cases x
  · go_enter Tryd.func66, Tryd.ntmps66
    go_wp2
    refine bodyPost_ret (v := fr d s false 0 0 t b) ?_ rfl ⟨rfl, ?_⟩
    · simp [results, Tryd.results66, go_sem]
    · exact ((Below.refl _ _).alloc (Nat.le_refl _) _).alloc (by simp) _
  · go_enter Tryd.func66, Tryd.ntmps66
    go_wp2
    refine bodyPost_ret (v := fr d s true p y t b) ?_ rfl ⟨rfl, ?_⟩
    · simp [results, Tryd.results66, go_sem]
    · exact ((Below.refl _ _).alloc (Nat.le_refl _) _).alloc (by simp) _

set_option maxRecDepth 40000 in
theorem rretag_any (d s : Int) (g : Bool) (p v t : Int) (b : ByteArray) (x : Bool) (y : Int) (w : World) :
    Calls Tryd.prog 70 #[fr d s g p v t b, .bool x, .int .i64 y] w fun e w' => e = .returned (fr d s x (if x then p else 0) (if x then y else 0) t b) ∧ Below w.heap.size w w' := by
  cases x
  · go_enter Tryd.func70, Tryd.ntmps70
    go_wp2
    refine bodyPost_ret (v := fr d s false 0 0 t b) ?_ rfl ⟨rfl, ?_⟩
    · simp [results, Tryd.results70, go_sem]
    · exact ((Below.refl _ _).alloc (Nat.le_refl _) _).alloc (by simp) _
  · go_enter Tryd.func70, Tryd.ntmps70
    go_wp2
    refine bodyPost_ret (v := fr d s true p y t b) ?_ rfl ⟨rfl, ?_⟩
    · simp [results, Tryd.results70, go_sem]
    · exact ((Below.refl _ _).alloc (Nat.le_refl _) _).alloc (by simp) _

def vlanN (g : Bool) (v own : Int) : Int := if g = true ∧ 0 < v then v else own

set_option maxRecDepth 40000 in
theorem vlan_any (d s : Int) (g : Bool) (p v t : Int) (b : ByteArray) (own : Int) (w : World) :
    Calls Tryd.prog 57 #[fr d s g p v t b, .int .i64 own] w fun e w' => e = .returned (.int .i64 (vlanN g v own)) ∧ Below w.heap.size w w' := by
  cases g
  · go_enter Tryd.func57, Tryd.ntmps57
    go_wp2
    go_ret
    exact ⟨ret_int (by simp [vlanN]), (Below.refl _ _).alloc (Nat.le_refl _) _⟩
  · by_cases h : 0 < v
    · go_enter Tryd.func57, Tryd.ntmps57
      go_wp2
      go_ret
      exact ⟨ret_int (by simp [vlanN, h]), (Below.refl _ _).alloc (Nat.le_refl _) _⟩
    · go_enter Tryd.func57, Tryd.ntmps57
      go_wp2
      go_ret
      exact ⟨ret_int (by simp [vlanN]; omega), (Below.refl _ _).alloc (Nat.le_refl _) _⟩

set_option maxRecDepth 40000 in
theorem rvlan_any (d s : Int) (g : Bool) (p v t : Int) (b : ByteArray) (own : Int) (w : World) :
    Calls Tryd.prog 68 #[fr d s g p v t b, .int .i64 own] w fun e w' => e = .returned (.int .i64 (vlanN g v own)) ∧ Below w.heap.size w w' := by
  cases g
  · go_enter Tryd.func68, Tryd.ntmps68
    go_wp2
    go_ret
    exact ⟨ret_int (by simp [vlanN]), (Below.refl _ _).alloc (Nat.le_refl _) _⟩
  · by_cases h : 0 < v
    · go_enter Tryd.func68, Tryd.ntmps68
      go_wp2
      go_ret
      exact ⟨ret_int (by simp [vlanN, h]), (Below.refl _ _).alloc (Nat.le_refl _) _⟩
    · go_enter Tryd.func68, Tryd.ntmps68
      go_wp2
      go_ret
      exact ⟨ret_int (by simp [vlanN]; omega), (Below.refl _ _).alloc (Nat.le_refl _) _⟩

theorem bcell {W w1 : World} (hb : Below W.heap.size W w1) : (∀ b o, b < W.heap.size → w1.cell? ⟨b, o, none⟩ = W.cell? ⟨b, o, none⟩) ∧ (∀ b o, b < W.heap.size → w1.frozen? ⟨b, o, none⟩ = W.frozen? ⟨b, o, none⟩) :=
  ⟨fun b o h => hb.cell (p := ⟨b, o, none⟩) h, fun b o h => hb.frozen (p := ⟨b, o, none⟩) h⟩

theorem keep_cell {W w1 : World} {g o : Nat} {v : Value} (hb : Below W.heap.size W w1) (h : W.cell? ⟨g, o, none⟩ = some v) : w1.cell? ⟨g, o, none⟩ = some v := (hb.cell (p := ⟨g, o, none⟩) (World.block_lt_of_cell? _ _ h)).trans h

theorem cell_set (W : World) (b o b' o' : Nat) (v : Value) : (W.setCell ⟨b, o, none⟩ v).cell? ⟨b', o', none⟩ = if b = b' ∧ o = o' then (W.cell? ⟨b', o', none⟩).map (fun _ => v) else W.cell? ⟨b', o', none⟩ := by
  split
  · rename_i h
    obtain ⟨rfl, rfl⟩ := h
    cases hc : W.cell? ⟨b, o, none⟩ with
    | some u => rw [World.cell?_setCell_same _ _ _ hc]; rfl
    | none =>
      simp only [World.setCell, World.cell?, Array.getElem?_modify, ↓reduceIte] at hc ⊢
      cases hh : W.heap[b]? with
      | none => simp
      | some ob => cases ob <;> simp_all
  · rename_i h
    exact World.cell?_setCell_other _ _ _ _ (by intro e; cases e; exact h ⟨rfl, rfl⟩)

end Eth
end Go.Proofs.YtmojegnflcokjaaDoor

/-
  Plain data of layer 15 (no program): VLANs, which is found, a plan's eight ports; what a plan takes and sends; whether it is right.
-/
namespace Go.Proofs.YtmojegnflcokjaaDoor
namespace Mem

/-- A VLAN: its number, the sets of its ports with a tag and without one. -/
structure Vl where
  v : Int
  t : Int
  u : Int
  deriving DecidableEq

abbrev none3 : Vl := ⟨0, 0, 0⟩

def findV (l : List Vl) (n : Int) : Option Vl := l.find? fun x => x.v == n
def gotV (l : List Vl) (n : Int) : Vl := (findV l n).getD none3
def isV (l : List Vl) (n : Int) : Bool := (findV l n).isSome
def ofV (l : List Vl) (n : Int) : Int := bits .or .i64 (gotV l n).t (gotV l n).u

/-- What the map holds behind one more VLAN. -/
def addV (m : List Vl) (x : Vl) : List Vl := if isV m x.v then m else m ++ [x]
def dictV (l : List Vl) : List Vl := l.foldl addV []

theorem find_add (m : List Vl) (x : Vl) (n : Int) : findV (addV m x) n = (findV m n).or (findV [x] n) := by
  unfold addV
  split
  · rename_i h
    unfold isV at h
    cases hm : findV m n with
    | some y => rfl
    | none =>
      have hx : ¬ x.v = n := by
        intro e
        rw [e, hm] at h
        cases h
      have : findV [x] n = none := by simp [findV, hx]
      rw [this]
      rfl
  · unfold findV
    rw [List.find?_append]

theorem find_fold (n : Int) : ∀ (l m : List Vl), findV (l.foldl addV m) n = (findV m n).or (findV l n)
  | [], m => by simp [findV]
  | x :: l, m => by
    rw [List.foldl_cons, find_fold n l, find_add]
    have : findV (x :: l) n = (findV [x] n).or (findV l n) := by
      unfold findV
      rw [show x :: l = [x] ++ l from rfl, List.find?_append]
    rw [this, Option.or_assoc]

theorem find_dict (l : List Vl) (n : Int) : findV (dictV l) n = findV l n := by
  unfold dictV
  rw [find_fold]
  rfl

theorem got_dict (l : List Vl) (n : Int) : gotV (dictV l) n = gotV l n := by unfold gotV; rw [find_dict]
theorem is_dict (l : List Vl) (n : Int) : isV (dictV l) n = isV l n := by unfold isV; rw [find_dict]

theorem take_next {l : List Vl} {k : Nat} (h : k < l.length) : l.take (k + 1) = l.take k ++ [l[k]] := by simp

theorem dict_next {l : List Vl} {k : Nat} (h : k < l.length) : dictV (l.take (k + 1)) = addV (dictV (l.take k)) l[k] := by
  rw [take_next h]
  unfold dictV
  rw [List.foldl_append]
  rfl

theorem dict_len : ∀ (l m : List Vl), (l.foldl addV m).length ≤ m.length + l.length
  | [], m => by simp
  | x :: l, m => by
    have := dict_len l (addV m x)
    have h2 : (addV m x).length ≤ m.length + 1 := by unfold addV; split <;> simp
    rw [List.foldl_cons, List.length_cons]
    omega

/-- The first of a number, gone over from the front. -/
def posV (l : List Vl) (n : Int) : Nat := l.findIdx fun x => x.v == n
theorem posV_le (l : List Vl) (n : Int) : posV l n ≤ l.length := List.findIdx_le_length

theorem find_pos (n : Int) : ∀ l : List Vl, findV l n = l[posV l n]?
  | [] => rfl
  | x :: l => by
    have ih := find_pos n l
    unfold findV posV at *
    rw [List.find?_cons, List.findIdx_cons]
    cases x.v == n with
    | true => rfl
    | false => simpa using ih

theorem posV_hit {l : List Vl} {n : Int} {j : Nat} (hj : j < l.length) (h : j ≤ posV l n) (hk : l[j].v = n) : findV l n = some l[j] := by
  rw [find_pos]
  have : posV l n = j := by
    unfold posV at *
    by_cases e : j < l.findIdx (fun x => x.v == n)
    · have := List.not_of_lt_findIdx e
      simp [hk] at this
    · omega
  rw [this]
  exact List.getElem?_eq_getElem hj

theorem posV_miss {l : List Vl} {n : Int} {j : Nat} (hj : j < l.length) (h : j ≤ posV l n) (hk : ¬ l[j].v = n) : j + 1 ≤ posV l n := by
  unfold posV at *
  by_cases e : j < l.findIdx (fun x => x.v == n)
  · omega
  · have e2 : l.findIdx (fun x => x.v == n) = j := by omega
    have := List.findIdx_getElem (xs := l) (p := fun x => x.v == n) (w := by omega)
    simp only [e2] at this
    simp [hk] at this

theorem posV_end {l : List Vl} {n : Int} (h : l.length ≤ posV l n) : findV l n = none := by
  rw [find_pos]
  exact List.getElem?_eq_none h

/-- A VLAN of its own; which frames a port takes. -/
def ownF (g : Bool) (u : Int) : Bool := g && decide (0 < u)
def admF (t : Int) (w : Bool) : Bool := if t = 1 then w else if t = 2 then !w else true

/-- Of which VLAN a frame is at a port. -/
def vidF (own : Int) (g : Bool) (u : Int) : Int := if g = true ∧ 0 < u then u else own

def takB (o k : Nat → Int) (l : List Vl) (port : Int) (g : Bool) (u : Int) : Bool :=
  decide (0 ≤ port ∧ port < 8) && (admF (k port.toNat) (ownF g u) && (decide (vidF (o port.toNat) g u ≤ 4094) && Por.hasZ (Por.low (ofV l (vidF (o port.toNat) g u))) port))
def takV (o k : Nat → Int) (l : List Vl) (port : Int) (g : Bool) (u : Int) : Int := if takB o k l port g u then vidF (o port.toNat) g u else 0

/-- Whether a port sends with a tag, without one, at all. -/
def sndT (l : List Vl) (n port : Int) : Bool := Por.hasZ (Por.low (gotV l n).t) port
def sndU (l : List Vl) (n port : Int) : Bool := Por.hasZ (Por.low (gotV l n).u) port
def sndB (l : List Vl) (n port : Int) : Bool := sndT l n port || sndU l n port

/-- What is right. -/
def rVid (n : Int) : Bool := decide (1 ≤ n ∧ n ≤ 4094)
def rSet (n : Int) : Bool := decide (0 ≤ n ∧ n ≤ 255)
def rTake (n : Int) : Bool := decide (n = 0 ∨ n = 1 ∨ n = 2)
def rVl (x : Vl) : Bool := rVid x.v && (rSet x.t && (rSet x.u && (bits .and .i64 x.t x.u == 0)))
def okN (l : List Vl) (j : Nat) : Bool :=
  match l[j]? with
  | none => true
  | some x => rVl x && (match j with
    | 0 => true
    | i + 1 => match l[i]? with
      | none => true
      | some y => decide (y.v < x.v))
def portN (o k : Nat → Int) (i : Nat) : Bool := rVid (o i) && rTake (k i)
def rightP (o k : Nat → Int) (l : List Vl) : Bool := decide (l.length ≤ 64) && ((List.range l.length).all (okN l) && (List.range 8).all (portN o k))

theorem has_or (a b p : Nat) : Por.hasN (a ||| b) p = (Por.hasN a p || Por.hasN b p) := by
  have e : ∀ m : Nat, Por.hasN m p = m.testBit p := fun m => by
    unfold Por.hasN
    rw [Nat.testBit_eq_decide_div_mod_eq]
    rfl
  rw [e, e, e, Nat.testBit_or]

theorem hasZ_or (a b : Nat) (p : Int) : Por.hasZ (a ||| b) p = (Por.hasZ a p || Por.hasZ b p) := by
  unfold Por.hasZ
  rw [has_or]
  cases decide (0 ≤ p ∧ p < 8) <;> simp

theorem snd_of (l : List Vl) (n port : Int) : Por.hasZ (Por.low (ofV l n)) port = sndB l n port := by
  unfold ofV sndB sndT sndU
  rw [Por.low_or, hasZ_or]

/-- What is found in a right plan is right. -/
theorem right_all {o k : Nat → Int} {l : List Vl} (h : rightP o k l = true) : (∀ j, j < l.length → okN l j = true) ∧ (∀ i, i < 8 → portN o k i = true) ∧ l.length ≤ 64 := by
  unfold rightP at h
  simp only [Bool.and_eq_true, decide_eq_true_eq, List.all_eq_true, List.mem_range] at h
  exact ⟨h.2.1, h.2.2, h.1⟩

theorem right_vl {o k : Nat → Int} {l : List Vl} (h : rightP o k l = true) {x : Vl} (hx : x ∈ l) : rVl x = true := by
  obtain ⟨j, hj, rfl⟩ := List.getElem_of_mem hx
  have := (right_all h).1 j hj
  unfold okN at this
  rw [List.getElem?_eq_getElem hj] at this
  simp only [Bool.and_eq_true] at this
  exact this.1

theorem right_found {o k : Nat → Int} {l : List Vl} (h : rightP o k l = true) {n port : Int} (hs : sndB l n port = true) : 1 ≤ n ∧ n ≤ 4094 := by
  cases hf : findV l n with
  | none =>
    unfold sndB sndT sndU gotV at hs
    rw [hf] at hs
    simp [none3, Por.hasZ, Por.hasN, Por.low] at hs
  | some x =>
    have hm : x ∈ l := List.mem_of_find?_eq_some hf
    have hv : x.v = n := by simpa using List.find?_some hf
    have := right_vl h hm
    unfold rVl rVid at this
    simp only [Bool.and_eq_true, decide_eq_true_eq] at this
    omega

theorem right_port {o k : Nat → Int} {l : List Vl} (h : rightP o k l = true) {i : Nat} (hi : i < 8) : 1 ≤ o i ∧ o i ≤ 4094 ∧ (k i = 0 ∨ k i = 1 ∨ k i = 2) := by
  have := (right_all h).2.1 i hi
  unfold portN rVid rTake at this
  simp only [Bool.and_eq_true, decide_eq_true_eq] at this
  omega

/-- What a port takes is of a VLAN that it is of. -/
theorem taken_of {o k : Nat → Int} {l : List Vl} (h : rightP o k l = true) {port : Nat} (hp : port < 8) {g : Bool} {u : Int} (ht : takB o k l port g u = true) :
    Por.hasZ (Por.low (ofV l (takV o k l port g u))) port = true ∧ 1 ≤ takV o k l port g u := by
  have hv : takV o k l port g u = vidF (o port) g u := by unfold takV; rw [if_pos ht]; rfl
  rw [hv]
  unfold takB at ht
  simp only [Bool.and_eq_true] at ht
  refine ⟨ht.2.2.2, ?_⟩
  unfold vidF
  split
  · omega
  · exact (right_port h hp).1

/-- What a port sends is taken as of the same VLAN. -/
theorem sent_taken {o k : Nat → Int} {l : List Vl} {n : Int} (h1 : 1 ≤ n ∧ n ≤ 4094) {to : Nat} (hp : to < 8) {g : Bool} {u : Int} (hg : vidF (o to) g u = n) :
    (takB o k l to g u = true → takV o k l to g u = n) ∧ (takB o k l to g u = false → k to = 0 → Por.hasZ (Por.low (ofV l n)) to = false) := by
  refine ⟨fun ht => ?_, fun ht hk => ?_⟩
  · unfold takV
    rw [if_pos ht]
    exact hg
  · unfold takB at ht
    have e1 : decide (0 ≤ (to : Int) ∧ (to : Int) < 8) = true := decide_eq_true (by omega)
    have e2 : admF (k ((to : Int).toNat)) (ownF g u) = true := by unfold admF; rw [Int.toNat_natCast, hk]; rfl
    rw [e1, e2, Int.toNat_natCast, hg] at ht
    have e3 : decide (n ≤ 4094) = true := decide_eq_true h1.2
    rw [e3] at ht
    simpa using ht

end Mem
end Go.Proofs.YtmojegnflcokjaaDoor

/-
  VLANs and plans as values and in memory; what the small functions of package member say of any frame, number and VLAN.
-/
namespace Go.Proofs.YtmojegnflcokjaaDoor
open Go.RowKit
namespace Mem
open Oct Eth

/-- A VLAN as a value, its three cells. -/
abbrev vl (x : Vl) : Value := .agg #[.int .i64 x.v, .int .i64 x.t, .int .i64 x.u]
abbrev vc (x : Vl) : List Value := [.int .i64 x.v, .int .i64 x.t, .int .i64 x.u]
abbrev vo (x : Vl) : Obj := .cells #[.int .i64 x.v, .int .i64 x.t, .int .i64 x.u] 80

/-- A plan's cells, as a value, as an object. -/
abbrev pc (o k : Nat → Int) (A : Option Addr) (n c : Nat) : List Value := [.int .i64 (o 0), .int .i64 (o 1), .int .i64 (o 2), .int .i64 (o 3), .int .i64 (o 4), .int .i64 (o 5), .int .i64 (o 6), .int .i64 (o 7),
  .int .i64 (k 0), .int .i64 (k 1), .int .i64 (k 2), .int .i64 (k 3), .int .i64 (k 4), .int .i64 (k 5), .int .i64 (k 6), .int .i64 (k 7), .slice A n c]
abbrev pv (o k : Nat → Int) (A : Option Addr) (n c : Nat) : Value := .agg #[.int .i64 (o 0), .int .i64 (o 1), .int .i64 (o 2), .int .i64 (o 3), .int .i64 (o 4), .int .i64 (o 5), .int .i64 (o 6), .int .i64 (o 7),
  .int .i64 (k 0), .int .i64 (k 1), .int .i64 (k 2), .int .i64 (k 3), .int .i64 (k 4), .int .i64 (k 5), .int .i64 (k 6), .int .i64 (k 7), .slice A n c]
abbrev po (o k : Nat → Int) (A : Option Addr) (n c : Nat) : Obj := .cells #[.int .i64 (o 0), .int .i64 (o 1), .int .i64 (o 2), .int .i64 (o 3), .int .i64 (o 4), .int .i64 (o 5), .int .i64 (o 6), .int .i64 (o 7),
  .int .i64 (k 0), .int .i64 (k 1), .int .i64 (k 2), .int .i64 (k 3), .int .i64 (k 4), .int .i64 (k 5), .int .i64 (k 6), .int .i64 (k 7), .slice A n c] 28

/-- What is at a place of the two rows. -/
theorem pc_own (o k : Nat → Int) (A : Option Addr) (n c : Nat) {j : Nat} (h : j < 8) : (pc o k A n c)[j]? = some (.int .i64 (o j)) := by
  have : j = 0 ∨ j = 1 ∨ j = 2 ∨ j = 3 ∨ j = 4 ∨ j = 5 ∨ j = 6 ∨ j = 7 := by omega
  rcases this with rfl | rfl | rfl | rfl | rfl | rfl | rfl | rfl <;> rfl
theorem pc_take (o k : Nat → Int) (A : Option Addr) (n c : Nat) {j : Nat} (h : j < 8) : (pc o k A n c)[8 + j]? = some (.int .i64 (k j)) := by
  have : j = 0 ∨ j = 1 ∨ j = 2 ∨ j = 3 ∨ j = 4 ∨ j = 5 ∨ j = 6 ∨ j = 7 := by omega
  rcases this with rfl | rfl | rfl | rfl | rfl | rfl | rfl | rfl <;> rfl

/-- The slice that begins at A reads as the VLANs l. -/
def Vls (w : World) (A : Option Addr) (l : List Vl) : Prop := ∀ j x, l[j]? = some x → ∃ b o, A = some ⟨b, o, none⟩ ∧ b < w.heap.size ∧ w.cell? ⟨b, o + j * 3, none⟩ = some (.int .i64 x.v) ∧ w.cell? ⟨b, o + j * 3 + 1, none⟩ = some (.int .i64 x.t) ∧ w.cell? ⟨b, o + j * 3 + 2, none⟩ = some (.int .i64 x.u)

theorem Vls.below {w w' : World} {A : Option Addr} {l : List Vl} (h : Vls w A l) (hb : Below w.heap.size w w') : Vls w' A l := fun j x hj => by
  obtain ⟨b, o, e, h1, h2, h3, h4⟩ := h j x hj
  exact ⟨b, o, e, Nat.lt_of_lt_of_le h1 hb.size, Bx.keep_cell hb h2, Bx.keep_cell hb h3, Bx.keep_cell hb h4⟩

theorem Vls.drew {w : World} {A : Option Addr} {l : List Vl} (h : Vls w A l) : Vls w.drew A l := h

theorem Vls.nil (w : World) (A : Option Addr) : Vls w A [] := fun j x h => by simp at h

theorem Vls.at {w : World} {A : Option Addr} {l : List Vl} (h : Vls w A l) {k : Nat} (hk : k < l.length) : ∃ b o, A = some ⟨b, o, none⟩ ∧ b < w.heap.size ∧ w.cell? ⟨b, o + k * 3, none⟩ = some (.int .i64 l[k].v) ∧ w.cell? ⟨b, o + k * 3 + 1, none⟩ = some (.int .i64 l[k].t) ∧ w.cell? ⟨b, o + k * 3 + 2, none⟩ = some (.int .i64 l[k].u) := h k l[k] (List.getElem?_eq_getElem hk)

theorem vlan_vid (g : Bool) (u own : Int) : vlanN g u own = vidF own g u := rfl

set_option maxRecDepth 40000 in
theorem hasOwn_any (d s : Int) (g : Bool) (p v t : Int) (b : ByteArray) (w : World) :
    Calls Tryd.prog 56 #[fr d s g p v t b] w fun e w' => e = .returned (.bool (ownF g v)) ∧ Below w.heap.size w w' := by
  have bel := Lib.hid (Bx.box_below w (.cells #[.int .u64 d, .int .u64 s, .bool g, .int .i64 p, .int .i64 v, .int .i64 t, .string b] 32))
  cases g
  · go_enter Tryd.func56, Tryd.ntmps56
    go_wp2
    go_ret
    exact ⟨rfl, bel.out⟩
  · by_cases h : 0 < v
    · rw [show ownF true v = true by unfold ownF; simp [h]]
      go_enter Tryd.func56, Tryd.ntmps56
      go_wp2
      go_ret
      exact ⟨rfl, bel.out⟩
    · rw [show ownF true v = false by unfold ownF; simp; omega]
      go_enter Tryd.func56, Tryd.ntmps56
      go_wp2
      go_ret
      exact ⟨rfl, bel.out⟩

set_option maxRecDepth 40000 in
theorem admits_any (t : Int) (x : Bool) (w : World) :
    Calls Tryd.prog 55 #[.int .i64 t, .bool x] w fun e w' => e = .returned (.bool (admF t x)) ∧ w = w' := by
  by_cases h1 : t = 1
  · subst h1
    go_enter Tryd.func55, Tryd.ntmps55
    go_wp2
    go_ret
    exact ⟨rfl, rfl⟩
  · by_cases h2 : t = 2
    · subst h2
      go_enter Tryd.func55, Tryd.ntmps55
      go_wp2
      go_ret
      exact ⟨rfl, rfl⟩
    · have e : admF t x = true := by unfold admF; rw [if_neg h1, if_neg h2]
      rw [e]
      go_enter Tryd.func55, Tryd.ntmps55
      go_wp2
      go_ret
      exact ⟨rfl, rfl⟩

set_option maxRecDepth 40000 in
theorem rightVid_any (n : Int) (w : World) :
    Calls Tryd.prog 50 #[.int .i64 n] w fun e w' => e = .returned (.bool (rVid n)) ∧ w = w' := by
  unfold rVid
  by_cases h0 : 1 ≤ n
  · by_cases h1 : n ≤ 4094
    · rw [decide_eq_true ⟨h0, h1⟩]
      go_enter Tryd.func50, Tryd.ntmps50
      go_wp2
      go_ret
      exact ⟨rfl, rfl⟩
    · rw [decide_eq_false (fun h => h1 h.2)]
      go_enter Tryd.func50, Tryd.ntmps50
      go_wp2
      go_ret
      exact ⟨rfl, rfl⟩
  · rw [decide_eq_false (fun h => h0 h.1)]
    go_enter Tryd.func50, Tryd.ntmps50
    go_wp2
    go_ret
    exact ⟨rfl, rfl⟩

set_option maxRecDepth 40000 in
theorem rightSet_any (n : Int) (w : World) :
    Calls Tryd.prog 79 #[.int .i64 n] w fun e w' => e = .returned (.bool (rSet n)) ∧ w = w' := by
  unfold rSet
  by_cases h0 : 0 ≤ n
  · by_cases h1 : n ≤ 255
    · rw [decide_eq_true ⟨h0, h1⟩]
      go_enter Tryd.func79, Tryd.ntmps79
      go_wp2
      go_ret
      exact ⟨rfl, rfl⟩
    · rw [decide_eq_false (fun h => h1 h.2)]
      go_enter Tryd.func79, Tryd.ntmps79
      go_wp2
      go_ret
      exact ⟨rfl, rfl⟩
  · rw [decide_eq_false (fun h => h0 h.1)]
    go_enter Tryd.func79, Tryd.ntmps79
    go_wp2
    go_ret
    exact ⟨rfl, rfl⟩

set_option maxRecDepth 40000 in
theorem rightTake_any (n : Int) (w : World) :
    Calls Tryd.prog 51 #[.int .i64 n] w fun e w' => e = .returned (.bool (rTake n)) ∧ w = w' := by
  unfold rTake
  by_cases h0 : n = 0
  · subst h0
    go_enter Tryd.func51, Tryd.ntmps51
    go_wp2
    go_ret
    exact ⟨rfl, rfl⟩
  · by_cases h1 : n = 1
    · subst h1
      go_enter Tryd.func51, Tryd.ntmps51
      go_wp2
      go_ret
      exact ⟨rfl, rfl⟩
    · by_cases h2 : n = 2
      · subst h2
        go_enter Tryd.func51, Tryd.ntmps51
        go_wp2
        go_ret
        exact ⟨rfl, rfl⟩
      · rw [decide_eq_false (by omega)]
        have e0 : (n == 0) = false := by simpa using h0
        have e1 : (n == 1) = false := by simpa using h1
        have e2 : (n == 2) = false := by simpa using h2
        go_enter Tryd.func51, Tryd.ntmps51
        go_wp2
        go_ret
        exact ⟨rfl, rfl⟩

set_option maxRecDepth 40000 in
theorem rightVlan_any (x : Vl) (w : World) :
    Calls Tryd.prog 49 #[vl x] w fun e w' => e = .returned (.bool (rVl x)) ∧ Below w.heap.size w w' := by
  obtain ⟨v, t, u⟩ := x
  have bel := Lib.hid (Bx.box_below w (vo ⟨v, t, u⟩))
  have H1 := Lib.hid (rightVid_any v)
  have H2 := Lib.hid (rightSet_any t)
  have H3 := Lib.hid (rightSet_any u)
  unfold rVl
  simp only at bel ⊢
  generalize rVid v = r1 at *
  generalize rSet t = r2 at *
  generalize rSet u = r3 at *
  have HB := Lib.hid (rfl : (bits BinOp.and IntKind.i64 t u == 0) = (bits BinOp.and IntKind.i64 t u == 0))
  cases r1
  · go_enter Tryd.func49, Tryd.ntmps49
    go_wp2_with fail
    refine (H1.out _).mono ?_; rintro e w1 ⟨rfl, rfl⟩
    go_wp2
    go_ret
    exact ⟨rfl, bel.out⟩
  cases r2
  · go_enter Tryd.func49, Tryd.ntmps49
    go_wp2_with fail
    refine (H1.out _).mono ?_; rintro e w1 ⟨rfl, rfl⟩
    go_wp2_with fail
    refine (H2.out _).mono ?_; rintro e w1 ⟨rfl, rfl⟩
    go_wp2
    go_ret
    exact ⟨rfl, bel.out⟩
  cases r3
  · go_enter Tryd.func49, Tryd.ntmps49
    go_wp2_with fail
    refine (H1.out _).mono ?_; rintro e w1 ⟨rfl, rfl⟩
    go_wp2_with fail
    refine (H2.out _).mono ?_; rintro e w1 ⟨rfl, rfl⟩
    go_wp2_with fail
    refine (H3.out _).mono ?_; rintro e w1 ⟨rfl, rfl⟩
    go_wp2
    go_ret
    exact ⟨rfl, bel.out⟩
  · go_enter Tryd.func49, Tryd.ntmps49
    go_wp2_with fail
    refine (H1.out _).mono ?_; rintro e w1 ⟨rfl, rfl⟩
    go_wp2_with fail
    refine (H2.out _).mono ?_; rintro e w1 ⟨rfl, rfl⟩
    go_wp2_with fail
    refine (H3.out _).mono ?_; rintro e w1 ⟨rfl, rfl⟩
    go_wp2
    go_ret
    exact ⟨rfl, bel.out⟩

end Mem
end Go.Proofs.YtmojegnflcokjaaDoor

/-
  An array of integers that came in by value (over any program): its cells.
-/
namespace Go.Proofs.YtmojegnflcokjaaDoor
open Go.ChangeShapes Go.WideShapes Go.ChangeAt Go.RowKit Go.Deep
namespace Fr

set_option maxRecDepth 40000 in
theorem open_arr {H : Type} {enc : TypeId × Value → H} {P : Program} {W : World} {base b0 : Nat} {spare : Nat → Bool} {held : Bool} {r : Reach} {t e : TypeId} {k : IntKind} {n : Nat} {v : Value} {d : DataW H} {p : List MemPlace}
    (ht : P.underlying t = some (.array n e)) (he : P.underlying e = some (.int k)) (hc : P.cellsOf t = n) (hce : P.cellsOf e = 1) (hv : Value.okWide P W r b0 t v) (h : DataW.Trod enc P W base spare held t v d p) :
    ∃ zs : List Int, v = .agg (zs.map (Value.int k)).toArray ∧ zs.length = n ∧ ∀ z ∈ zs, (Lit.int k z).wf = true := by
  simp only [Value.okWide, ht] at hv
  obtain ⟨cs, rfl, h2, _⟩ := hv
  obtain ⟨l⟩ := cs
  obtain ⟨fuel, hf⟩ := h
  obtain ⟨xs, m, _, _, _, hxl, hx⟩ := DataW.trod_array ht hf
  have hl : l.length = n := by have := h2.trans hc; simpa using this
  have hall : ∀ (j : Nat) (hj : j < l.length), ∃ z, l[j] = .int k z ∧ (Lit.int k z).wf = true := by
    intro j hj
    have g := hx j (by omega)
    have e1 : (l.drop j).take 1 = [l[j]] := by rw [List.drop_eq_getElem_cons hj]; rfl
    rw [hce, List.getElem?_eq_getElem (by omega)] at g
    have g' : DataW.trod enc P W base spare held m e ((l.drop j).take 1) = some (xs[j]'(by omega)) := by simpa [Value.cells] using g
    rw [e1] at g'
    obtain ⟨a, ha, _, wa⟩ := DataW.trod_int he g'
    exact ⟨a, by simpa using ha, wa⟩
  refine ⟨l.map intOf, ?_, by simpa using hl, ?_⟩
  · congr 2
    apply List.ext_getElem
    · simp
    · intro j h1 h3
      obtain ⟨z, hz, _⟩ := hall j h1
      simp [hz, intOf]
  · intro z hz
    obtain ⟨j, hj, rfl⟩ := List.getElem_of_mem hz
    obtain ⟨y, hy, wy⟩ := hall j (by simpa using hj)
    simpa [hy, intOf] using wy

theorem three {α : Type} {l : List α} (h : l.length = 3) : ∃ a b c, l = [a, b, c] := by
  match l, h with
  | [a, b, c], _ => exact ⟨a, b, c, rfl⟩

theorem four {α : Type} {l : List α} (h : l.length = 4) : ∃ a b c d, l = [a, b, c, d] := by
  match l, h with
  | [a, b, c, d], _ => exact ⟨a, b, c, d, rfl⟩

theorem nat_u32 {z : Int} (h : (Lit.int .u32 z).wf = true) : ∃ n : Nat, z = n ∧ n < 4294967296 := by
  have h' : 0 ≤ z ∧ z ≤ 4294967295 := by simpa [Lit.wf, IntKind.min, IntKind.max, IntKind.signed, IntKind.bits] using h
  exact ⟨z.toNat, by omega, by omega⟩

end Fr
end Go.Proofs.YtmojegnflcokjaaDoor

/-
  A plan that came in by value: its two rows of numbers, and its VLANs in memory.
-/
namespace Go.Proofs.YtmojegnflcokjaaDoor
open Go.ChangeShapes Go.WideShapes Go.ChangeAt Go.RowKit Go.Deep
namespace Mem

set_option maxRecDepth 40000 in
/-- Each cell of an array of integers that came in. -/
theorem chunk_ints {H : Type} {enc : TypeId × Value → H} {P : Program} {W : World} {base : Nat} {spare : Nat → Bool} {held : Bool} {t e : TypeId} {k : IntKind} {n fuel : Nat} {cs : List Value} {x : DataW H × List MemPlace}
    (ht : P.underlying t = some (.array n e)) (he : P.underlying e = some (.int k)) (hce : P.cellsOf e = 1) (h : DataW.trod enc P W base spare held fuel t cs = some x) :
    ∃ z : Nat → Int, ∀ j, j < n → cs[j]? = some (.int k (z j)) := by
  obtain ⟨xs, m, _, _, _, hxl, hx⟩ := DataW.trod_array ht h
  have each : ∀ j, j < n → ∃ z, cs[j]? = some (.int k z) := by
    intro j hj
    have g := hx j hj
    rw [hce, List.getElem?_eq_getElem (by omega), Nat.mul_one] at g
    obtain ⟨a, ha, _, _⟩ := DataW.trod_int he g
    refine ⟨a, ?_⟩
    have := congrArg (fun l : List Value => l[0]?) ha
    simpa [List.getElem?_take, List.getElem?_drop] using this
  exact choose_lt each

set_option maxRecDepth 20000 in
theorem open_vls {H : Type} {enc : TypeId × Value → H} {W : World} {base : Nat} {spare : Nat → Bool} {held : Bool} {fuel : Nat} {v : Value} {x : DataW H × List MemPlace}
    (hf : DataW.trod enc Tryd.prog W base spare held fuel 26 [v] = some x) :
    ∃ (A : Option Addr) (l : List Vl) (cap : Nat), v = .slice A l.length cap ∧ l.length ≤ maxLen ∧ Vls W A l := by
  have hS : Tryd.prog.underlying 80 = some (.struct (Tryd.prog.fieldsOf 80)) := by kernel_rfl
  have h3 : (Tryd.prog.fieldsOf 80).size = 3 := by kernel_rfl
  rcases Fr.open_rows Tryd.underlying26 hS (by kernel_rfl) (by kernel_rfl) hf with hcs | ⟨a, len, cap, n, hcs, hl, hm, hcell⟩
  · injection hcs with hcs _
    exact ⟨none, [], 0, hcs, Nat.zero_le _, fun j x h => by simp at h⟩
  · injection hcs with hcs _
    subst hcs
    rw [h3] at hcell
    have fld : ∀ (j : Nat) (f : Field), (Tryd.prog.fieldsOf 80)[j]? = some f → ∀ i, i < len → ∃ c y, W.cell? (a.add (i * 3 + j)) = some c ∧ DataW.trod enc Tryd.prog W base spare held n f.type [c] = some y := fun j f hj i hi => hcell i hi j f hj
    have each : ∀ i, i < len → ∃ x : Vl, W.cell? (a.add (i * 3 + 0)) = some (.int .i64 x.v) ∧ W.cell? (a.add (i * 3 + 1)) = some (.int .i64 x.t) ∧ W.cell? (a.add (i * 3 + 2)) = some (.int .i64 x.u) := by
      intro i hi
      obtain ⟨c0, y0, e0, t0⟩ := fld 0 ((Tryd.prog.fieldsOf 80)[0]'(by rw [h3]; decide)) (Array.getElem?_eq_getElem _) i hi
      obtain ⟨c1, y1, e1, t1⟩ := fld 1 ((Tryd.prog.fieldsOf 80)[1]'(by rw [h3]; decide)) (Array.getElem?_eq_getElem _) i hi
      obtain ⟨c2, y2, e2, t2⟩ := fld 2 ((Tryd.prog.fieldsOf 80)[2]'(by rw [h3]; decide)) (Array.getElem?_eq_getElem _) i hi
      obtain ⟨x0, g0, _, w0⟩ := DataW.trod_int Tryd.underlying3 t0
      obtain ⟨x1, g1, _, w1⟩ := DataW.trod_int Tryd.underlying3 t1
      obtain ⟨x2, g2, _, w2⟩ := DataW.trod_int Tryd.underlying3 t2
      simp at g0 g1 g2
      subst g0 g1 g2
      exact ⟨⟨x0, x1, x2⟩, e0, e1, e2⟩
    haveI : Inhabited Vl := ⟨⟨0, 0, 0⟩⟩
    obtain ⟨q, hq⟩ := choose_lt each
    have hget : ∀ j x, ((List.range len).map q)[j]? = some x → j < len ∧ x = q j := by
      intro j x hj
      rw [List.getElem?_map] at hj
      cases hr : (List.range len)[j]? with
      | none => rw [hr] at hj; cases hj
      | some k =>
        rw [hr] at hj
        obtain ⟨h1, h2⟩ := List.getElem?_eq_some_iff.1 hr
        rw [List.getElem_range] at h2
        rw [List.length_range] at h1
        subst h2
        exact ⟨h1, (Option.some.inj hj).symm⟩
    refine ⟨some a, (List.range len).map q, cap, by simp, by simp; omega, fun j x hj => ?_⟩
    obtain ⟨hj1, rfl⟩ := hget j x hj
    obtain ⟨c0, c1, c2⟩ := hq j hj1
    obtain ⟨b, o, sp⟩ := a
    cases sp with
    | none =>
      rw [Addr.add_lit] at c0 c1 c2
      exact ⟨b, o, rfl, World.block_lt_of_cell? _ _ c0, c0, c1, c2⟩
    | some s =>
      exfalso
      obtain ⟨c00, _⟩ := hq 0 (by omega)
      rw [show Addr.add ⟨b, o, some s⟩ (0 * 3 + 0) = ⟨b, o, some s⟩ from rfl, Fr.no_spot] at c00
      cases c00

set_option maxRecDepth 20000 in
theorem open_plan {H : Type} {enc : TypeId × Value → H} {W : World} {base b0 : Nat} {spare : Nat → Bool} {held : Bool} {r : Reach} {v : Value} {d : DataW H} {p : List MemPlace}
    (hv : Value.okWide Tryd.prog W r b0 28 v) (h : DataW.Trod enc Tryd.prog W base spare held 28 v d p) :
    ∃ (o k : Nat → Int) (A : Option Addr) (l : List Vl) (c : Nat), v = pv o k A l.length c ∧ l.length ≤ maxLen ∧ Vls W A l := by
  have c8 : Tryd.prog.cellsOf 25 = 8 := by kernel_rfl
  have c1 : Tryd.prog.cellsOf 26 = 1 := by kernel_rfl
  have c17 : Tryd.prog.cellsOf 28 = 17 := by kernel_rfl
  have hS := Tryd.underlying28
  simp only [Value.okWide, hS] at hv
  obtain ⟨cs, rfl, h2, _⟩ := hv
  obtain ⟨l⟩ := cs
  obtain ⟨fuel, hf⟩ := h
  obtain ⟨xs, n, _, _, _, hlen, hg⟩ := DataW.trod_struct hS hf
  have hl : l.length = 17 := by have := h2.trans c17; simpa using this
  have hlen3 : xs.length = 3 := hlen
  match l, hl with
  | [a0, a1, a2, a3, a4, a5, a6, a7, a8, a9, a10, a11, a12, a13, a14, a15, a16], _ =>
    have g0 : DataW.trod enc Tryd.prog W base spare held n 25 [a0, a1, a2, a3, a4, a5, a6, a7] = xs[0]? := by have := hg 0 _ rfl; simpa [Value.cells, c8] using this
    have g1 : DataW.trod enc Tryd.prog W base spare held n 25 [a8, a9, a10, a11, a12, a13, a14, a15] = xs[1]? := by have := hg 1 _ rfl; simpa [Value.cells, c8] using this
    have g2 : DataW.trod enc Tryd.prog W base spare held n 26 [a16] = xs[2]? := by have := hg 2 _ rfl; simpa [Value.cells, c1] using this
    rw [List.getElem?_eq_getElem (by omega)] at g0 g1 g2
    obtain ⟨o, ho⟩ := chunk_ints Tryd.underlying25 Tryd.underlying3 (by kernel_rfl) g0
    obtain ⟨k, hk⟩ := chunk_ints Tryd.underlying25 Tryd.underlying3 (by kernel_rfl) g1
    obtain ⟨A, m, c, rfl, hm, hA⟩ := open_vls g2
    refine ⟨o, k, A, m, c, ?_, hm, hA⟩
    have o0 := ho 0 (by decide); have o1 := ho 1 (by decide); have o2 := ho 2 (by decide); have o3 := ho 3 (by decide)
    have o4 := ho 4 (by decide); have o5 := ho 5 (by decide); have o6 := ho 6 (by decide); have o7 := ho 7 (by decide)
    have k0 := hk 0 (by decide); have k1 := hk 1 (by decide); have k2 := hk 2 (by decide); have k3 := hk 3 (by decide)
    have k4 := hk 4 (by decide); have k5 := hk 5 (by decide); have k6 := hk 6 (by decide); have k7 := hk 7 (by decide)
    simp at o0 o1 o2 o3 o4 o5 o6 o7 k0 k1 k2 k3 k4 k5 k6 k7
    subst o0 o1 o2 o3 o4 o5 o6 o7 k0 k1 k2 k3 k4 k5 k6 k7
    rfl

end Mem
end Go.Proofs.YtmojegnflcokjaaDoor

/-
  A frame that came in by value: its fields.
-/
namespace Go.Proofs.YtmojegnflcokjaaDoor
open Go.ChangeShapes Go.WideShapes Go.ChangeAt Go.RowKit Go.Deep
namespace Eth

theorem wf_u64 {n : Int} (h : (Lit.int .u64 n).wf = true) : ∃ m : Nat, n = m ∧ m < 18446744073709551616 := by
  have h' : 0 ≤ n ∧ n ≤ 18446744073709551615 := by simpa [Lit.wf, IntKind.min, IntKind.max, IntKind.signed, IntKind.bits] using h
  exact ⟨n.toNat, by omega, by omega⟩

set_option maxRecDepth 20000 in
theorem open_frame {H : Type} {enc : TypeId × Value → H} {W : World} {base b0 : Nat} {spare : Nat → Bool} {held : Bool} {r : Reach} {v : Value} {d : DataW H} {p : List MemPlace}
    (hv : Value.okWide Tryd.prog W r b0 32 v) (h : DataW.Trod enc Tryd.prog W base spare held 32 v d p) :
    ∃ (x y : Nat) (g : Bool) (q u k : Int) (b : ByteArray), v = fr x y g q u k b ∧ x < 18446744073709551616 ∧ y < 18446744073709551616 ∧ b.size ≤ maxLen := by
  obtain ⟨l, n, rfl, hl, hf⟩ := Fr.open_fields Tryd.underlying32 (by kernel_rfl) (by kernel_rfl) hv h
  obtain ⟨c0, c1, c2, c3, c4, c5, c6, rfl⟩ := Fr.seven hl
  obtain ⟨_, y0, e0, t0⟩ := hf 0 _ rfl
  obtain ⟨_, y1, e1, t1⟩ := hf 1 _ rfl
  obtain ⟨_, y2, e2, t2⟩ := hf 2 _ rfl
  obtain ⟨_, y3, e3, t3⟩ := hf 3 _ rfl
  obtain ⟨_, y4, e4, t4⟩ := hf 4 _ rfl
  obtain ⟨_, y5, e5, t5⟩ := hf 5 _ rfl
  obtain ⟨_, y6, e6, t6⟩ := hf 6 _ rfl
  simp at e0 e1 e2 e3 e4 e5 e6
  subst e0 e1 e2 e3 e4 e5 e6
  obtain ⟨a0, h0, _, w0⟩ := DataW.trod_int Tryd.underlying30 t0
  obtain ⟨a1, h1, _, w1⟩ := DataW.trod_int Tryd.underlying30 t1
  obtain ⟨a2, h2, _⟩ := DataW.trod_bool Tryd.underlying4 t2
  obtain ⟨a3, h3, _, w3⟩ := DataW.trod_int Tryd.underlying3 t3
  obtain ⟨a4, h4, _, w4⟩ := DataW.trod_int Tryd.underlying3 t4
  obtain ⟨a5, h5, _, w5⟩ := DataW.trod_int Tryd.underlying3 t5
  obtain ⟨a6, h6, _, w6⟩ := DataW.trod_string Tryd.underlying9 t6
  simp at h0 h1 h2 h3 h4 h5 h6
  subst h0 h1 h2 h3 h4 h5 h6
  obtain ⟨m0, rfl, g0⟩ := wf_u64 w0
  obtain ⟨m1, rfl, g1⟩ := wf_u64 w1
  exact ⟨m0, m1, a2, a3, a4, a5, a6, rfl, g0, g1, w6⟩

end Eth
end Go.Proofs.YtmojegnflcokjaaDoor

/-
  From the walk of a law to its row where the row lists package-level variables: if in every memory of the program's shape that holds the listed data the call returns true and changes nothing that was there, the row's claim holds. Over any program. And what a listed array of integers, and a variable of one integer, hold.
-/
namespace Go.Proofs.YtmojegnflcokjaaDoor
open Go.ChangeShapes Go.WideShapes Go.ChangeAt Go.RowKit
namespace Fr

set_option maxRecDepth 40000 in
/-- THE ROW's STEP of a law whose row lists variables. -/
theorem law_lift_laid {C : Checked} {os : Os} {f : FuncId} {fn : Func} {s : ChangeSpec} {H : Type} {enc : TypeId × Value → H} {tb : TypeId} {laid : List (String × DataW Unit)}
    (own : ownKnob C.prog.godebug = none) (started : os.Started) (noInit : C.prog.inits.idxOf? f = none) (hfn : C.prog.funcs[f]? = some fn)
    (witness : ∃ (w : World) (tape : Tape) (i : Input), w.os = os ∧ (w.forCall tape i).Shaped C.prog ∧ i.vars = [] ∧ Input.okWide C.prog (w.forCall tape i) .any w.heap.size f i ∧
      ((s.pre enc C.prog fn [] false (w.forCall tape i).memory i.args ∧ laidMetH C.prog laid (w.forCall tape i).memory) ∧ sizedMet enc C.prog fn (OpenSpec.ofChange s) false (w.forCall tape i).memory i.args) ∧
      ({} : Assume).holds C.prog (lone (Frame.enter C.prog f i.args .normal) [] (w.forCall tape i)))
    (laidOut : laidOutB C.prog = true) (hrd : ∀ t ∈ fn.params.toList, C.prog.readableRec t = true ∧ t < C.prog.types.size) (hres : fn.resultTypes = #[tb]) (hbool : C.prog.underlying tb = some .bool) (hvars : s.vars = [])
    (hspec : ∀ ds : List (DataW H), ds.length = fn.params.size → s.fn H (ds ++ []) = { results := [.lit (.bool true)], args := ds })
    (walk : ∀ (W : World) (base : Nat) (args : Array Value) (ds : List (DataW H)) (p : List MemPlace), W.ShapedOpen C.prog → laidMetH C.prog laid W → (∀ (j : Nat) t v, fn.params[j]? = some t → args[j]? = some v → Value.okWide C.prog W .any base t v) →
      DataW.TrodAll enc C.prog W 0 (fun _ => true) true fn.params.toList args.toList ds p → Calls C.prog f args W fun e W' => e = .returned (.bool true) ∧ Below W.heap.size W W') :
    ReturnsInHanded {} C os f .any (fun w args => (s.pre enc C.prog fn [] false w args ∧ laidMetH C.prog laid w) ∧ sizedMet enc C.prog fn (OpenSpec.ofChange s) false w args) (s.post enc C.prog fn false true false false) := by
  refine returnsInHanded_of_calls own started noInit witness ?_
  intro w tape i _ hsh _ hok hpre _
  obtain ⟨_, _, _, fn', hfn', _, _, _, _, hval⟩ := hok
  have e : fn' = fn := Option.some.inj (hfn'.symm.trans hfn)
  subst e
  obtain ⟨⟨⟨ds, gs, before, hw, _⟩, hx⟩, _⟩ := hpre
  have hW := DataW.Whole.of_heap (w' := w.forCall tape i) (by rfl) hw
  have hL : laidMetH C.prog laid (w.forCall tape i) := hx.of_heap (by rfl)
  have hW' := hW
  obtain ⟨p, q, hA, hV, rfl, hfz, hnd⟩ := hW
  have hV' := hV
  rw [hvars] at hV'
  obtain ⟨rfl, rfl⟩ := trodVars_none hV'
  refine (walk _ w.heap.size i.args ds p hsh hL hval hA).mono fun e W' ⟨he, bel⟩ => ?_
  subst he
  have e1 := hspec ds (by have := trodAll_length _ hA; simpa using this)
  refine ChangeSpec.post_blind ⟨ds, [], _, [], p, [], hW', ?_, ?_, ?_, bel.frame _, fun h => by cases h⟩
  · rw [e1, hres]
    exact trodAll_mk1 (shut_bool hbool _)
  · rw [e1]
    exact trodAll_below laidOut bel _ hrd hA
  · rw [e1, hvars]
    rfl

set_option maxRecDepth 40000 in
theorem laidVars_mem {P : Program} {w : World} {n : String} {d : DataW Unit} : ∀ {l : List (String × DataW Unit)} {ps : List MemPlace}, DataW.LaidVars P w l ps → (n, d) ∈ l →
    ∃ g t cs fuel p, P.globalNamed n = some g ∧ (P.globals[g]?).map (·.type) = some t ∧ w.var? P n = some cs ∧ DataW.trod (fun _ => ()) P w 0 (fun _ => true) false fuel t cs.toList = some (d, p)
  | [], _, _, hm => by cases hm
  | (n', d') :: r, ps, h, hm => by
    obtain ⟨g, t, cs, fuel, p, q, hg, ht, hv, hd, hr, _⟩ := h
    rcases List.mem_cons.1 hm with he | hm'
    · obtain ⟨rfl, rfl⟩ := Prod.mk.inj he
      exact ⟨g, t, cs, fuel, p, hg, ht, hv, hd⟩
    · exact laidVars_mem hr hm'

set_option maxRecDepth 40000 in
/-- A listed array of integers: its cells. -/
theorem laid_ints {P : Program} {w : World} {laid : List (String × DataW Unit)} {n : String} {d : DataW Unit} {g : Nat} {t e : TypeId} {k : IntKind} {m : Nat} (zs : List Int)
    (h : laidMetH P laid w) (hpl : (laid.all fun x => x.2.handleName?.isNone) = true) (hm : (n, d) ∈ laid) (hg : P.globalNamed n = some g) (ht : (P.globals[g]?).map (·.type) = some t)
    (hu : P.underlying t = some (.array m e)) (he : P.underlying e = some (.int k)) (hc : P.cellsOf e = 1) (hd : d = .agg (zs.map fun z => .lit (.int k z))) :
    g < w.heap.size ∧ ∀ (j : Nat) z, zs[j]? = some z → w.cell? ⟨g, j, none⟩ = some (.int k z) := by
  rw [MakeChecks.laidMetH_plain _ _ _ hpl] at h
  obtain ⟨ps, hv, _, _⟩ := h
  obtain ⟨g', t', cs, fuel, p, hg', ht', hvar, htr⟩ := laidVars_mem hv hm
  obtain rfl := Option.some.inj (hg.symm.trans hg')
  obtain rfl := Option.some.inj (ht.symm.trans ht')
  obtain ⟨xs, q, _, ex, _, hl, hel⟩ := DataW.trod_array hu htr
  have hlt : g < w.heap.size := by
    simp only [World.var?, hg, Option.bind_some] at hvar
    split at hvar
    · rename_i hh
      exact (Array.getElem?_eq_some_iff.1 hh).1
    · cases hvar
  refine ⟨hlt, fun j z hz => ?_⟩
  have e3 : xs.map (·.1) = zs.map fun z => (.lit (.int k z) : DataW Unit) := by
    have := (Prod.mk.inj ex).1
    rw [hd] at this
    exact (DataW.agg.inj this).symm
  have hlen : xs.length = zs.length := by simpa using congrArg List.length e3
  have hj : j < zs.length := (List.getElem?_eq_some_iff.1 hz).1
  have hE := hel j (by omega)
  rw [hc, Nat.mul_one, List.getElem?_eq_getElem (by omega)] at hE
  obtain ⟨y, e1, e2, _⟩ := DataW.trod_int he hE
  have e4 : (xs.map (·.1))[j]? = (zs.map fun z => (.lit (.int k z) : DataW Unit))[j]? := by rw [e3]
  rw [List.getElem?_map, List.getElem?_map, List.getElem?_eq_getElem (by omega : j < xs.length), e2, hz] at e4
  have hy : y = z := by simpa using e4
  subst hy
  rw [World.var?_cell hg hvar j]
  have : cs.toList[j]? = some (.int k y) := by
    have h0 : ((cs.toList.drop j).take 1)[0]? = some (.int k y) := by rw [e1]; rfl
    simpa using h0
  simpa using this

/-- A variable of one integer holds some integer, in every memory of the program's shape. -/
theorem int_of_shape {P : Program} {w : World} {g : Nat} {t : TypeId} {k : IntKind} {zero : Array Value} (h : w.ShapedOpen P) (hg : g < P.globals.size)
    (h0 : ((begin P (fun _ _ => 0) default).world.heap[g]?).bind Obj.row? = some (zero, t)) (hz : zero.size = 1)
    (hb : P.buildable t = true) (hc : P.cellTypes P.depth t = some [t]) (hu : P.underlying t = some (.int k)) : (∃ z, w.cell? ⟨g, 0, none⟩ = some (.int k z)) ∧ g < w.heap.size := by
  obtain ⟨cs, hh, hs, hr⟩ := h.1 g zero t hg h0
  refine ⟨?_, (Array.getElem?_eq_some_iff.1 hh).1⟩
  obtain ⟨ts, hts, _, hall⟩ := hr hb
  rw [hc] at hts
  cases hts
  have h1 : 0 < cs.size := by omega
  obtain ⟨u, hu', hok⟩ := hall 0 cs[0] (by simp [h1])
  have : u = t := by simpa using hu'.symm
  subst this
  have hcell : w.cell? ⟨g, 0, none⟩ = some cs[0] := by simp [World.cell?, hh, h1]
  rw [hcell]
  unfold Cell.ok at hok
  rw [hu] at hok
  cases hv : cs[0] with
  | int k' z =>
    rw [hv] at hok
    simp at hok
    obtain ⟨rfl, _⟩ := hok
    exact ⟨z, rfl⟩
  | _ => rw [hv] at hok; simp at hok

end Fr
end Go.Proofs.YtmojegnflcokjaaDoor

/-
  What the document's own Find, Same and ahead answer of any table.
-/
namespace Go.Proofs.YtmojegnflcokjaaDoor
open Go.RowKit
namespace Tab
open Oct

set_option maxRecDepth 40000 in
theorem rahead_any (x y : En) (w : World) :
    Calls Tryd.prog 30 #[ev x, .int .i64 y.v, .int .u64 y.m] w fun r w' => r = .returned (.bool (ahd x y)) ∧ Below w.heap.size w w' := by
  obtain ⟨v, m, p, a⟩ := x
  obtain ⟨v', m', p', a'⟩ := y
  have bel := Lib.hid (Bx.box_below w (eo ⟨v, m, p, a⟩))
  have hm : ((m : Int) < (m' : Int)) ↔ m < m' := Int.ofNat_lt
  unfold ahd
  simp only
  rcases (show v < v' ∨ (¬ v < v' ∧ ¬ v = v') ∨ (v = v' ∧ m < m') ∨ (v = v' ∧ ¬ m < m') by omega) with h1 | ⟨h1, h2⟩ | ⟨h1, h2⟩ | ⟨h1, h2⟩
  · rw [decide_eq_true (Or.inl h1)]
    go_enter Tryd.func30, Tryd.ntmps30
    go_wp2
    go_ret
    exact ⟨rfl, bel.out⟩
  · rw [decide_eq_false (by omega)]
    have h3 : (v == v') = false := by simpa using h2
    go_enter Tryd.func30, Tryd.ntmps30
    go_wp2
    go_ret
    exact ⟨rfl, bel.out⟩
  · subst h1
    rw [decide_eq_true (Or.inr ⟨rfl, h2⟩)]
    go_enter Tryd.func30, Tryd.ntmps30
    go_wp2
    go_ret
    exact ⟨rfl, bel.out⟩
  · subst h1
    rw [decide_eq_false (by omega)]
    go_enter Tryd.func30, Tryd.ntmps30
    go_wp2
    go_ret
    exact ⟨rfl, bel.out⟩

set_option maxRecDepth 40000 in
set_option maxHeartbeats 4000000 in
theorem rfind_any (most long : Int) (l : List En) (hl : l.length ≤ maxLen) (v : Int) (m : Nat) (A : Option Addr) (c : Nat) (w : World) (hA : Ents w A l) :
    Calls Tryd.prog 47 #[tv most long A l.length c, .int .i64 v, .int .u64 m] w fun e w' => e = .returned (.tuple #[ev (gotE l v m), .bool (isE l v m)]) ∧ Below w.heap.size w w' := by
  have bel := Lib.hid (Bx.bel_box (Bx.box_below w (to most long A l.length c)) (eo ⟨0, 0, 0, 0⟩))
  have HA := Lib.hid (hA.below bel.out)
  have K := Lib.hid ((Fre.new w [.int .i64 most, .int .i64 long, .slice A l.length c] 24).keep (Bx.box_below _ (eo ⟨0, 0, 0, 0⟩)))
  have R : Hid (Fre ((w.alloc (to most long A l.length c)).alloc (eo ⟨0, 0, 0, 0⟩)) (w.heap.size + 1) [.int .i64 0, .int .u64 0, .int .i64 0, .int .i64 0]) := Lib.hid (by
    have := Fre.new (w.alloc (to most long A l.length c)) [.int .i64 0, .int .u64 0, .int .i64 0, .int .i64 0] 62
    rwa [show (w.alloc (to most long A l.length c)).heap.size = w.heap.size + 1 by simp] at this)
  have hl' : l.length ≤ 9223372036854775807 := hl
  have hle : w.heap.size ≤ w.heap.size + 1 := Nat.le_succ _
  have HP := Lib.hid (find_pos l v m)
  obtain ⟨⟨k0, k1, k2⟩, _⟩ := K.out.all3
  clear hA
  go_enter Tryd.func47, Tryd.ntmps47
  go_wp2
  clear k0 k1 k2
  generalize (w.alloc (to most long A l.length c)).alloc (eo ⟨0, 0, 0, 0⟩) = W0 at *
  go_loopw [9, 13] (fun _ ix wr => ∃ k : Nat, k ≤ l.length ∧ ix = .int .i64 k ∧ Aside (k ≤ posE l v m) ∧ Aside (Below W0.heap.size W0 wr)) (fun _ ix _ => l.length - (intOf ix).toNat)
  case atStart => exact ⟨0, Nat.zero_le _, rfl, Nat.zero_le _, Below.refl _ _⟩
  case round =>
    obtain ⟨k, hk, rfl, HQ, HB⟩ := hrel
    by_cases hlt : k < l.length
    · obtain ⟨b', o', rfl, _, c0, c1, c2, c3⟩ := (HA.out.below HB.out).at hlt
      have BX := Lib.hid (Bx.bel_box HB.out (eo l[k]))
      obtain ⟨d0, d1, d2, d3⟩ := (Bx.Blk.new wr (enc l[k]) 62).all4
      cases hx : isK v m l[k] with
      | true =>
        have e2 : findE l v m = some l[k] := by rw [HP.out, posE_hit hlt HQ.out hx, List.getElem?_eq_getElem hlt]
        have e3 : gotE l v m = l[k] := by unfold gotE; rw [e2]; rfl
        have e4 : isE l v m = true := by unfold isE; rw [e2]; rfl
        have HG := Lib.hid (And.intro e3 e4)
        have hkk := (isK_iff _ _ _).1 hx
        have R1 := Lib.hid ((R.out.keep HB.out).keep (Bx.box_below wr (eo l[k])))
        clear e2 e3 e4 hx
        generalize l[k] = x at *
        obtain ⟨x1, x2, x3, x4⟩ := x
        obtain ⟨rfl, rfl⟩ := hkk
        simp only at c0 c1 c2 c3 d0 d1 d2 d3
        obtain ⟨⟨r0, r1, r2, r3⟩, f0, f1, f2, f3⟩ := R1.out.all4
        have R2 := Lib.hid ((R1.out.1.put4 (x0 := .int .i64 v) (x1 := .int .u64 m) (x2 := .int .i64 x3) (x3 := .int .i64 x4)).all4)
        have bel3 := Lib.hid (((((Bx.then_below bel.out BX.out).setCell (p := ⟨w.heap.size + 1, 0, none⟩) hle (.int .i64 v)).setCell (p := ⟨w.heap.size + 1, 1, none⟩) hle (.int .u64 m)).setCell (p := ⟨w.heap.size + 1, 2, none⟩) hle (.int .i64 x3)).setCell (p := ⟨w.heap.size + 1, 3, none⟩) hle (.int .i64 x4))
        clear R1 R K
        go_wp2
        refine bodyPost_ret (v := .tuple #[ev ⟨v, m, x3, x4⟩, .bool true]) ?_ rfl ?_
        · obtain ⟨d0, d1, d2, d3⟩ := R2.out
          simp [results, Tryd.results47, d0, d1, d2, d3, go_sem]
        · exact ⟨by rw [HG.out.1, HG.out.2], bel3.out⟩
      | false =>
        have HQ2 := Lib.hid (posE_miss hlt HQ.out hx)
        have hkk : ¬ (v = l[k].v ∧ m = l[k].m) := by rw [← isK_iff, hx]; simp
        clear hx
        generalize l[k] = x at *
        obtain ⟨x1, x2, x3, x4⟩ := x
        simp only at c0 c1 c2 c3 d0 d1 d2 d3 hkk
        by_cases h1 : x1 = v
        · subst h1
          have h2 : ¬ x2 = m := fun h => hkk ⟨rfl, h.symm⟩
          have h3 : ((x2 : Int) == (m : Int)) = false := by simp; omega
          clear hkk
          go_wp2
          go_roundw
          case rel => exact ⟨k + 1, by omega, by go_num, HQ2.out, BX.out⟩
          case measure => simp [intOf]; omega
        · have h3 : (x1 == v) = false := by simpa using h1
          clear hkk
          go_wp2
          go_roundw
          case rel => exact ⟨k + 1, by omega, by go_num, HQ2.out, BX.out⟩
          case measure => simp [intOf]; omega
    · have e2 : findE l v m = none := by rw [HP.out, List.getElem?_eq_none (by have := HQ.out; omega)]
      have e3 : gotE l v m = ⟨0, 0, 0, 0⟩ := by unfold gotE; rw [e2]; rfl
      have e4 : isE l v m = false := by unfold isE; rw [e2]; rfl
      have HG := Lib.hid (And.intro e3 e4)
      have R1 := Lib.hid (R.out.keep HB.out)
      clear e2 e3 e4
      obtain ⟨⟨r0, r1, r2, r3⟩, f0, f1, f2, f3⟩ := R1.out.all4
      have R2 := Lib.hid ((R1.out.1.put4 (x0 := .int .i64 0) (x1 := .int .u64 0) (x2 := .int .i64 0) (x3 := .int .i64 0)).all4)
      have bel3 := Lib.hid (((((Bx.then_below bel.out HB.out).setCell (p := ⟨w.heap.size + 1, 0, none⟩) hle (.int .i64 0)).setCell (p := ⟨w.heap.size + 1, 1, none⟩) hle (.int .u64 0)).setCell (p := ⟨w.heap.size + 1, 2, none⟩) hle (.int .i64 0)).setCell (p := ⟨w.heap.size + 1, 3, none⟩) hle (.int .i64 0))
      clear R1 R K
      go_wp2
      refine bodyPost_ret (v := .tuple #[ev ⟨0, 0, 0, 0⟩, .bool false]) ?_ rfl ?_
      · obtain ⟨d0, d1, d2, d3⟩ := R2.out
        simp [results, Tryd.results47, d0, d1, d2, d3, go_sem]
      · exact ⟨by rw [HG.out.1, HG.out.2], bel3.out⟩

set_option maxRecDepth 40000 in
set_option maxHeartbeats 4000000 in
theorem rsame_any (most long most' long' : Int) (l m : List En) (hl : l.length ≤ maxLen) (hm : m.length ≤ maxLen) (A B : Option Addr) (c d : Nat) (w : World) (hA : Ents w A l) (hB : Ents w B m) :
    Calls Tryd.prog 11 #[tv most long A l.length c, tv most' long' B m.length d] w fun e w' => e = .returned (.bool (decide (most = most' ∧ long = long' ∧ l = m))) ∧ Below w.heap.size w w' := by
  have bel := Lib.hid (Bx.bel_box (Bx.box_below w (to most long A l.length c)) (to most' long' B m.length d))
  have K := Lib.hid ((Bx.Blk.new w [.int .i64 most, .int .i64 long, .slice A l.length c] 24).more (to most' long' B m.length d))
  have J := Lib.hid (Bx.Blk.new_at (W := w.alloc (to most long A l.length c)) (k := w.heap.size + 1) [.int .i64 most', .int .i64 long', .slice B m.length d] 24 (by simp))
  have hl' : l.length ≤ 9223372036854775807 := hl
  have hm' : m.length ≤ 9223372036854775807 := hm
  obtain ⟨k0, k1, k2⟩ := K.out.all3
  obtain ⟨j0, j1, j2⟩ := J.out.all3
  by_cases h1 : most = most'
  · subst h1
    by_cases h2 : long = long'
    · subst h2
      by_cases h3 : l.length = m.length
      · have hr : decide (most = most ∧ long = long ∧ l = m) = decide (l = m) := by simp
        rw [hr]
        clear hr
        have HA := Lib.hid (hA.below bel.out)
        have HB := Lib.hid (hB.below bel.out)
        have HX := Lib.hid (fun k (h : k < l.length) => show l[k]? = some (l[k]'h) from List.getElem?_eq_getElem h)
        have HY := Lib.hid (fun k (h : k < m.length) => show m[k]? = some (m[k]'h) from List.getElem?_eq_getElem h)
        have HAT := Lib.hid (fun (W : World) (hE : Ents W A l) k (h : k < l.length) => show ∃ x b o, l[k]? = some x ∧ A = some ⟨b, o, none⟩ ∧ b < W.heap.size ∧ W.cell? ⟨b, o + k * 4, none⟩ = some (.int .i64 x.v) ∧ W.cell? ⟨b, o + k * 4 + 1, none⟩ = some (.int .u64 x.m) ∧ W.cell? ⟨b, o + k * 4 + 2, none⟩ = some (.int .i64 x.p) ∧ W.cell? ⟨b, o + k * 4 + 3, none⟩ = some (.int .i64 x.a) from by
          obtain ⟨b, o, h1⟩ := hE.at h
          exact ⟨l[k], b, o, List.getElem?_eq_getElem h, h1⟩)
        have HBT := Lib.hid (fun (W : World) (hE : Ents W B m) k (h : k < m.length) => show ∃ x b o, m[k]? = some x ∧ B = some ⟨b, o, none⟩ ∧ b < W.heap.size ∧ W.cell? ⟨b, o + k * 4, none⟩ = some (.int .i64 x.v) ∧ W.cell? ⟨b, o + k * 4 + 1, none⟩ = some (.int .u64 x.m) ∧ W.cell? ⟨b, o + k * 4 + 2, none⟩ = some (.int .i64 x.p) ∧ W.cell? ⟨b, o + k * 4 + 3, none⟩ = some (.int .i64 x.a) from by
          obtain ⟨b, o, h1⟩ := hE.at h
          exact ⟨m[k], b, o, List.getElem?_eq_getElem h, h1⟩)
        have HEQ := Lib.hid (fun (h : ∀ j, j < l.length → l[j]? = m[j]?) => show l = m from List.ext_getElem? (fun j => by
          by_cases hj : j < l.length
          · exact h j hj
          · rw [List.getElem?_eq_none (by omega), List.getElem?_eq_none (by omega)]))
        obtain ⟨r, hr2⟩ : ∃ r, Hid (r = decide (l = m)) := ⟨_, rfl⟩
        rw [← hr2.out]
        clear hA hB HX HY
        generalize hn1 : l.length = n at *
        generalize hn2 : m.length = n2 at *
        subst h3
        go_enter Tryd.func11, Tryd.ntmps11
        go_wp2
        clear k0 k1 k2 j0 j1 j2
        generalize (w.alloc (to most long A n c)).alloc (to most long B n d) = W0 at *
        go_loopw [5, 30] (fun _ ix wr => ∃ k : Nat, k ≤ n ∧ ix = .int .i64 k ∧ Aside (∀ j, j < k → l[j]? = m[j]?) ∧ Aside (Below W0.heap.size W0 wr)) (fun _ ix _ => n - (RowKit.intOf ix).toNat)
        case atStart => exact ⟨0, Nat.zero_le _, rfl, fun j h => absurd h (Nat.not_lt_zero _), Below.refl _ _⟩
        case round =>
          obtain ⟨k, hk, rfl, HE, HQ⟩ := hrel
          by_cases hlt : k < n
          · obtain ⟨x, b1, o1, hX, rfl, _, a0, a1, a2, a3⟩ := HAT.out _ (HA.out.below HQ.out) k hlt
            obtain ⟨y, b2, o2, hY, rfl, _, c0, c1, c2, c3⟩ := HBT.out _ (HB.out.below HQ.out) k hlt
            obtain ⟨k0, k1, k2⟩ := (K.out.keep HQ.out).all3
            obtain ⟨j0, j1, j2⟩ := (J.out.keep HQ.out).all3
            replace hX := Lib.hid hX
            replace hY := Lib.hid hY
            obtain ⟨x1, x2, x3, x4⟩ := x
            obtain ⟨y1, y2, y3, y4⟩ := y
            simp only at a0 a1 a2 a3 c0 c1 c2 c3
            have hne : ∀ w, (binOp .neq 62 (.agg #[.int .i64 x1, .int .u64 x2, .int .i64 x3, .int .i64 x4]) (.agg #[.int .i64 y1, .int .u64 y2, .int .i64 y3, .int .i64 y4])).run Tryd.prog w = .ok (.bool (!decide ((⟨x1, x2, x3, x4⟩ : En) = ⟨y1, y2, y3, y4⟩))) w := fun w => neq_at ⟨x1, x2, x3, x4⟩ ⟨y1, y2, y3, y4⟩ w
            have hgd : ∀ (op : BinOp) (a b : Operand) (w : World), Sem.run Tryd.prog (eqGuard op 62 a b (.agg #[.int .i64 x1, .int .u64 x2, .int .i64 x3, .int .i64 x4]) (.agg #[.int .i64 y1, .int .u64 y2, .int .i64 y3, .int .i64 y4])) w = .ok () w := fun op a b w => guard_at op a b ⟨x1, x2, x3, x4⟩ ⟨y1, y2, y3, y4⟩ w
            by_cases hxy : (⟨x1, x2, x3, x4⟩ : En) = ⟨y1, y2, y3, y4⟩
            · rw [decide_eq_true hxy] at hne
              have HN := Lib.hid (show ∀ j, j < k + 1 → l[j]? = m[j]? from fun j hj => by
                by_cases e : j = k
                · subst e
                  rw [hX.out, hY.out, hxy]
                · exact HE.out j (by omega))
              go_wp2
              go_quiet (fail)
              have B2 := Lib.hid (Bx.then_below HQ.out (drew_below wr nq))
              go_wp2
              go_roundw
              case rel => exact ⟨k + 1, by omega, by go_num, HN.out, B2.out⟩
              case measure => simp [RowKit.intOf]; omega
            · rw [decide_eq_false hxy] at hne
              have hlm : ¬ l = m := fun h => hxy (by have := hX.out; rw [h, hY.out] at this; exact (Option.some.inj this).symm)
              have HR := Lib.hid (show r = false by rw [hr2.out]; exact decide_eq_false hlm)
              clear hlm
              go_wp2
              go_quiet (fail)
              have B2 := Lib.hid (Bx.then_below bel.out (Bx.then_below HQ.out (drew_below wr nq)))
              go_wp2
              go_ret
              exact ⟨by rw [HR.out]; rfl, B2.out⟩
          · obtain rfl : k = n := by omega
            have HR := Lib.hid (show r = true by rw [hr2.out]; exact decide_eq_true (HEQ.out HE.out))
            have B2 := Lib.hid (Bx.then_below bel.out HQ.out)
            go_wp2
            go_ret
            exact ⟨by rw [HR.out]; rfl, B2.out⟩
      · have hr : decide (most = most ∧ long = long ∧ l = m) = false := decide_eq_false (fun h => h3 (by rw [h.2.2]))
        rw [hr]
        have h4 : ((l.length : Int) == (m.length : Int)) = false := by simp; omega
        have h5 : ¬ ((l.length : Int) = (m.length : Int)) := by omega
        clear hr
        go_enter Tryd.func11, Tryd.ntmps11
        go_wp2
        go_ret
        exact ⟨rfl, bel.out⟩
    · have hr : decide (most = most ∧ long = long' ∧ l = m) = false := decide_eq_false (fun h => h2 h.2.1)
      rw [hr]
      have h4 : (long == long') = false := by simpa using h2
      clear hr
      go_enter Tryd.func11, Tryd.ntmps11
      go_wp2
      go_ret
      exact ⟨rfl, bel.out⟩
  · have hr : decide (most = most' ∧ long = long' ∧ l = m) = false := decide_eq_false (fun h => h1 h.1)
    rw [hr]
    have h4 : (most == most') = false := by simpa using h1
    clear hr
    go_enter Tryd.func11, Tryd.ntmps11
    go_wp2
    go_ret
    exact ⟨rfl, bel.out⟩

end Tab
end Go.Proofs.YtmojegnflcokjaaDoor

/-
  What stays while the law's steps go on (plain): the table is sound; what each step answers.
-/
namespace Go.Proofs.YtmojegnflcokjaaDoor
open Go.RowKit
namespace Tab

/-- A sound table whose addresses are numbers of 64 bits. -/
structure Inv (most long : Int) (l : List En) : Prop where
  snd : Snd most long l
  mac : ∀ e ∈ l, e.m < 18446744073709551616

theorem Inv.old {most long : Int} {l : List En} (h : Inv most long l) : ∀ e ∈ l, -9223372036854775808 ≤ e.a := fun e he => by
  have := h.snd.ok e he
  unfold okE at this
  simp only [Bool.and_eq_true, decide_eq_true_eq] at this
  omega

theorem learn_mem {most : Int} {l : List En} {v : Int} {m : Nat} {p : Int} {e : En} (h : e ∈ learnL most l v m p) : e = ⟨v, m, p, 0⟩ ∨ e ∈ l := by
  unfold learnL at h
  split at h
  · rcases ins_mem.1 h with h | h
    · exact .inl h
    · exact .inr (List.mem_filter.1 h).1
  · exact .inr h

theorem Inv.learn {most long : Int} {l : List En} (h : Inv most long l) (hL : 1 ≤ long) (v : Int) (m : Nat) (hm : m < 18446744073709551616) (p : Int) : Inv most long (learnL most l v m p) :=
  ⟨h.snd.learn hL v m p, fun e he => by
    rcases learn_mem he with rfl | he
    · exact hm
    · exact h.mac e he⟩

theorem Inv.filter {most long : Int} {l : List En} (h : Inv most long l) (f : En → Bool) : Inv most long (l.filter f) := ⟨h.snd.filter f, fun e he => h.mac e (List.mem_filter.1 he).1⟩

theorem Inv.tick {most long : Int} {l : List En} (h : Inv most long l) : Inv most long (tickL long l) := ⟨h.snd.tick, fun e he => by
  unfold tickL at he
  obtain ⟨x, hx, rfl⟩ := List.mem_map.1 he
  exact h.mac x (List.mem_filter.1 hx).1⟩

theorem Inv.step {most long : Int} {l : List En} (h : Inv most long l) (hL : 1 ≤ long) (o : Ev) (hm : o.m < 18446744073709551616) : Inv most long (stepL most long l o) := by
  unfold stepL
  split
  · exact h.learn hL _ _ hm _
  · split
    · exact h.tick
    · split
      · exact h.filter _
      · exact h.filter _

theorem step_len (most long : Int) (l : List En) (o : Ev) : (stepL most long l o).length ≤ l.length + 1 := by
  unfold stepL
  split
  · exact learn_len most l _ _ _
  · split
    · unfold tickL
      rw [List.length_map]
      have := List.length_filter_le (outl long) l
      omega
    · split
      · have := List.length_filter_le (flushE (Por.low o.s)) l
        omega
      · have := List.length_filter_le (lackE o.p o.v) l
        omega

theorem step_num (most long : Int) (l : List En) (o : Ev) : 0 ≤ stepN most long l o := by
  unfold stepN
  split
  · exact Int.le_refl _
  · rename_i h
    unfold stepL
    rw [if_neg h]
    split
    · unfold tickL
      rw [List.length_map]
      have := List.length_filter_le (outl long) l
      omega
    · split
      · have := List.length_filter_le (flushE (Por.low o.s)) l
        omega
      · have := List.length_filter_le (lackE o.p o.v) l
        omega

theorem step_wrong {most long : Int} {l : List En} {o : Ev} (h : ¬ stepE most l o = 0) : o.k = 0 ∧ stepL most long l o = l := by
  unfold stepE at h
  split at h
  · rename_i h0
    exact ⟨h0, by unfold stepL; rw [if_pos h0, learn_err h]⟩
  · exact absurd rfl h

theorem step_found {most long : Int} {l : List En} (h : Inv most long l) (hL : 1 ≤ long) {o : Ev} (h0 : o.k = 0) (he : stepE most l o = 0) : gotE (stepL most long l o) o.v o.m = ⟨o.v, o.m, o.p, 0⟩ ∧ isE (stepL most long l o) o.v o.m = true := by
  unfold stepE at he
  rw [if_pos h0] at he
  have hf := learn_find h.snd hL he
  unfold gotE isE stepL
  rw [if_pos h0, hf]
  exact ⟨rfl, rfl⟩

theorem stepped_flush {most long : Int} {l : List En} {o : Ev} (h : o.k = 2) : ∀ y ∈ stepL most long l o, Por.hasZ (Por.low o.s) y.p = false := fun y hy => by
  unfold stepL at hy
  rw [if_neg (by omega), if_neg (by omega), if_pos h] at hy
  have := (List.mem_filter.1 hy).2
  unfold flushE at this
  simpa using this

theorem stepped_forget {most long : Int} {l : List En} {o : Ev} (h : 2 < o.k) : ∀ y ∈ stepL most long l o, ¬ y.p = o.p ∨ (¬ o.v = 0 ∧ ¬ o.v = y.v) := fun y hy => by
  unfold stepL at hy
  rw [if_neg (by omega), if_neg (by omega), if_neg (by omega)] at hy
  have := (List.mem_filter.1 hy).2
  unfold lackE at this
  simp only [Bool.or_eq_true, Bool.and_eq_true, decide_eq_true_eq] at this
  omega

theorem rem_of (n : Int) (d : Nat) (hd : 0 < d) (hd2 : d < 1000) : ∃ r : Nat, r < d ∧ wrap64 ((IntKind.u64.wrap n).tmod d) = r := by
  have h0 : 0 ≤ IntKind.u64.wrap n := by rw [IntKind.wrap_u64]; omega
  have h1 := Int.emod_lt_of_pos (IntKind.u64.wrap n) (show (0 : Int) < d by omega)
  have h2 := Int.emod_nonneg (IntKind.u64.wrap n) (show (d : Int) ≠ 0 by omega)
  refine ⟨((IntKind.u64.wrap n) % d).toNat, by omega, ?_⟩
  rw [Int.tmod_eq_emod_of_nonneg h0]
  generalize IntKind.u64.wrap n % (d : Int) = r at *
  unfold wrap64
  omega

end Tab
end Go.Proofs.YtmojegnflcokjaaDoor
