/-
  Packed in one text: TabIn, Card, FwdOpen.
-/
import Derived.Test.YtmojegnflcokjaaDoorPkPorB
import Derived.Test.YtmojegnflcokjaaDoorPkMemI
import Derived.WideShapes
import Derived.LaidMore
import Derived.Lay
import Derived.Stop.Joined
import Derived.Test.YtmojegnflcokjaaDoorPkOctAwake
import Derived.Test.YtmojegnflcokjaaDoorRows
/-
  A table that came in by value: its numbers, and its entries in memory.
-/
namespace Go.Proofs.YtmojegnflcokjaaDoor
open Go.ChangeShapes Go.WideShapes Go.ChangeAt Go.RowKit Go.Deep
namespace Tab

/-- An entry whose numbers are those of a machine. -/
def wfE (e : En) : Prop := (-9223372036854775808 ≤ e.v ∧ e.v ≤ 9223372036854775807) ∧ e.m < 18446744073709551616 ∧ (-9223372036854775808 ≤ e.p ∧ e.p ≤ 9223372036854775807) ∧ (-9223372036854775808 ≤ e.a ∧ e.a ≤ 9223372036854775807)

theorem int_in {n : Int} (h : (Lit.int .i64 n).wf = true) : -9223372036854775808 ≤ n ∧ n ≤ 9223372036854775807 := by
  have h0 : IntKind.i64.min = -9223372036854775808 := by decide
  have h1 : IntKind.i64.max = 9223372036854775807 := by decide
  simp [Lit.wf, h0, h1] at h
  omega

theorem wf_mk {v p a : Int} {m : Nat} (hv : (Lit.int .i64 v).wf = true) (hm : m < 18446744073709551616) (hp : (Lit.int .i64 p).wf = true) (ha : (Lit.int .i64 a).wf = true) : wfE ⟨v, m, p, a⟩ := by
  unfold wfE
  exact ⟨int_in hv, hm, int_in hp, int_in ha⟩

set_option maxRecDepth 20000 in
theorem open_ents {H : Type} {enc : TypeId × Value → H} {W : World} {base : Nat} {spare : Nat → Bool} {held : Bool} {fuel : Nat} {v : Value} {x : DataW H × List MemPlace}
    (hf : DataW.trod enc Tryd.prog W base spare held fuel 22 [v] = some x) :
    ∃ (A : Option Addr) (l : List En) (cap : Nat), v = .slice A l.length cap ∧ l.length ≤ maxLen ∧ Ents W A l ∧ ∀ x ∈ l, wfE x := by
  have hS : Tryd.prog.underlying 62 = some (.struct (Tryd.prog.fieldsOf 62)) := by kernel_rfl
  have h4 : (Tryd.prog.fieldsOf 62).size = 4 := by kernel_rfl
  rcases Fr.open_rows Tryd.underlying22 hS (by kernel_rfl) (by kernel_rfl) hf with hcs | ⟨a, len, cap, n, hcs, hl, hm, hcell⟩
  · injection hcs with hcs _
    exact ⟨none, [], 0, hcs, Nat.zero_le _, (fun j x h => by simp at h), fun x hx => by simp at hx⟩
  · injection hcs with hcs _
    subst hcs
    rw [h4] at hcell
    have fld : ∀ (j : Nat) (f : Field), (Tryd.prog.fieldsOf 62)[j]? = some f → ∀ i, i < len → ∃ c y, W.cell? (a.add (i * 4 + j)) = some c ∧ DataW.trod enc Tryd.prog W base spare held n f.type [c] = some y := fun j f hj i hi => hcell i hi j f hj
    have each : ∀ i, i < len → ∃ x : En, W.cell? (a.add (i * 4 + 0)) = some (.int .i64 x.v) ∧ W.cell? (a.add (i * 4 + 1)) = some (.int .u64 x.m) ∧ W.cell? (a.add (i * 4 + 2)) = some (.int .i64 x.p) ∧ W.cell? (a.add (i * 4 + 3)) = some (.int .i64 x.a) ∧ wfE x := by
      intro i hi
      obtain ⟨c0, y0, e0, t0⟩ := fld 0 ((Tryd.prog.fieldsOf 62)[0]'(by rw [h4]; decide)) (Array.getElem?_eq_getElem _) i hi
      obtain ⟨c1, y1, e1, t1⟩ := fld 1 ((Tryd.prog.fieldsOf 62)[1]'(by rw [h4]; decide)) (Array.getElem?_eq_getElem _) i hi
      obtain ⟨c2, y2, e2, t2⟩ := fld 2 ((Tryd.prog.fieldsOf 62)[2]'(by rw [h4]; decide)) (Array.getElem?_eq_getElem _) i hi
      obtain ⟨c3, y3, e3, t3⟩ := fld 3 ((Tryd.prog.fieldsOf 62)[3]'(by rw [h4]; decide)) (Array.getElem?_eq_getElem _) i hi
      obtain ⟨x0, g0, _, w0⟩ := DataW.trod_int Tryd.underlying3 t0
      obtain ⟨x1, g1, _, w1⟩ := DataW.trod_int Tryd.underlying30 t1
      obtain ⟨x2, g2, _, w2⟩ := DataW.trod_int Tryd.underlying3 t2
      obtain ⟨x3, g3, _, w3⟩ := DataW.trod_int Tryd.underlying3 t3
      simp at g0 g1 g2 g3
      obtain ⟨m, rfl, hm⟩ := nat_u64 w1
      subst g0 g1 g2 g3
      exact ⟨⟨x0, m, x2, x3⟩, e0, e1, e2, e3, wf_mk w0 hm w2 w3⟩
    haveI : Inhabited En := ⟨⟨0, 0, 0, 0⟩⟩
    obtain ⟨q, hq⟩ := choose_lt each
    have hget : ∀ j x, ((List.range len).map q)[j]? = some x → j < len ∧ x = q j := by
      intro j x hj
      rw [List.getElem?_map] at hj
      cases hr : (List.range len)[j]? with
      | none => rw [hr] at hj; cases hj
      | some k =>
        rw [hr] at hj
        obtain ⟨h1, h2⟩ := List.getElem?_eq_some_iff.1 hr
        rw [List.getElem_range] at h2
        rw [List.length_range] at h1
        subst h2
        exact ⟨h1, (Option.some.inj hj).symm⟩
    refine ⟨some a, (List.range len).map q, cap, by simp, by simp; omega, fun j x hj => ?_, fun x hx => ?_⟩
    · obtain ⟨hj1, rfl⟩ := hget j x hj
      obtain ⟨c0, c1, c2, c3, _⟩ := hq j hj1
      obtain ⟨b, o, sp⟩ := a
      cases sp with
      | none =>
        rw [Addr.add_lit] at c0 c1 c2 c3
        exact ⟨b, o, rfl, World.block_lt_of_cell? _ _ c0, c0, c1, c2, c3⟩
      | some s =>
        exfalso
        obtain ⟨c00, _⟩ := hq 0 (by omega)
        rw [show Addr.add ⟨b, o, some s⟩ (0 * 4 + 0) = ⟨b, o, some s⟩ from rfl, Fr.no_spot] at c00
        cases c00
    · obtain ⟨i, hi, rfl⟩ := List.mem_map.1 hx
      exact (hq i (List.mem_range.1 hi)).2.2.2.2

set_option maxRecDepth 20000 in
theorem open_table {H : Type} {enc : TypeId × Value → H} {W : World} {base b0 : Nat} {spare : Nat → Bool} {held : Bool} {r : Reach} {v : Value} {d : DataW H} {p : List MemPlace}
    (hv : Value.okWide Tryd.prog W r b0 24 v) (h : DataW.Trod enc Tryd.prog W base spare held 24 v d p) :
    ∃ (most long : Int) (A : Option Addr) (l : List En) (k : Nat), v = tv most long A l.length k ∧ l.length ≤ maxLen ∧ Ents W A l ∧ ∀ x ∈ l, wfE x := by
  obtain ⟨l, n, rfl, hl, hg⟩ := Fr.open_fields Tryd.underlying24 (by kernel_rfl) (by kernel_rfl) hv h
  match l, hl with
  | [v0, v1, v2], _ =>
    obtain ⟨c0, y0, e0, t0⟩ := hg 0 _ rfl
    obtain ⟨c1, y1, e1, t1⟩ := hg 1 _ rfl
    obtain ⟨c2, y2, e2, t2⟩ := hg 2 _ rfl
    cases e0
    cases e1
    cases e2
    obtain ⟨x0, f0, _, _⟩ := DataW.trod_int Tryd.underlying3 t0
    obtain ⟨x1, f1, _, _⟩ := DataW.trod_int Tryd.underlying3 t1
    simp at f0 f1
    subst f0 f1
    obtain ⟨A, l, k, rfl, h1, h2, h3⟩ := open_ents t2
    exact ⟨x0, x1, A, l, k, rfl, h1, h2, h3⟩

end Tab
end Go.Proofs.YtmojegnflcokjaaDoor

/-
  From the walk of a law to its row where the row lists package-level variables: if in every memory of the program's shape that holds the listed data the call returns true and changes nothing that was there, the row's claim holds. Over any program. And what a listed array of integers, and a variable of one integer, hold.
-/
namespace Go.Proofs.YtmojegnflcokjaaDoor
open Go.ChangeShapes Go.WideShapes Go.ChangeAt Go.RowKit
namespace Fr

set_option maxRecDepth 40000 in
/-- THE ROW's STEP of a law whose row lists variables. -/
theorem law_lift_laid {C : Checked} {os : Os} {f : FuncId} {fn : Func} {s : ChangeSpec} {H : Type} {enc : TypeId × Value → H} {tb : TypeId} {laid : List (String × DataW Unit)}
    (own : ownKnob C.prog.godebug = none) (started : os.Started) (noInit : C.prog.inits.idxOf? f = none) (hfn : C.prog.funcs[f]? = some fn)
    (witness : ∃ (w : World) (tape : Tape) (i : Input), w.os = os ∧ (w.forCall tape i).Shaped C.prog ∧ i.vars = [] ∧ Input.okWide C.prog (w.forCall tape i) .any w.heap.size f i ∧
      ((s.pre enc C.prog fn [] false (w.forCall tape i).memory i.args ∧ laidMetH C.prog laid (w.forCall tape i).memory) ∧ sizedMet enc C.prog fn (OpenSpec.ofChange s) false (w.forCall tape i).memory i.args) ∧
      ({} : Assume).holds C.prog (lone (Frame.enter C.prog f i.args .normal) [] (w.forCall tape i)))
    (laidOut : laidOutB C.prog = true) (hrd : ∀ t ∈ fn.params.toList, C.prog.readableRec t = true ∧ t < C.prog.types.size) (hres : fn.resultTypes = #[tb]) (hbool : C.prog.underlying tb = some .bool) (hvars : s.vars = [])
    (hspec : ∀ ds : List (DataW H), ds.length = fn.params.size → s.fn H (ds ++ []) = { results := [.lit (.bool true)], args := ds })
    (walk : ∀ (W : World) (base : Nat) (args : Array Value) (ds : List (DataW H)) (p : List MemPlace), W.ShapedOpen C.prog → laidMetH C.prog laid W → (∀ (j : Nat) t v, fn.params[j]? = some t → args[j]? = some v → Value.okWide C.prog W .any base t v) →
      DataW.TrodAll enc C.prog W 0 (fun _ => true) true fn.params.toList args.toList ds p → Calls C.prog f args W fun e W' => e = .returned (.bool true) ∧ Below W.heap.size W W') :
    ReturnsInHanded {} C os f .any (fun w args => (s.pre enc C.prog fn [] false w args ∧ laidMetH C.prog laid w) ∧ sizedMet enc C.prog fn (OpenSpec.ofChange s) false w args) (s.post enc C.prog fn false true false false) := by
  refine returnsInHanded_of_calls own started noInit witness ?_
  intro w tape i _ hsh _ hok hpre _
  obtain ⟨_, _, _, fn', hfn', _, _, _, _, hval⟩ := hok
  have e : fn' = fn := Option.some.inj (hfn'.symm.trans hfn)
  subst e
  obtain ⟨⟨⟨ds, gs, before, hw, _⟩, hx⟩, _⟩ := hpre
  have hW := DataW.Whole.of_heap (w' := w.forCall tape i) (by rfl) hw
  have hL : laidMetH C.prog laid (w.forCall tape i) := hx.of_heap (by rfl)
  have hW' := hW
  obtain ⟨p, q, hA, hV, rfl, hfz, hnd⟩ := hW
  have hV' := hV
  rw [hvars] at hV'
  obtain ⟨rfl, rfl⟩ := trodVars_none hV'
  refine (walk _ w.heap.size i.args ds p hsh hL hval hA).mono fun e W' ⟨he, bel⟩ => ?_
  subst he
  have e1 := hspec ds (by have := trodAll_length _ hA; simpa using this)
  refine ChangeSpec.post_blind ⟨ds, [], _, [], p, [], hW', ?_, ?_, ?_, bel.frame _, fun h => by cases h⟩
  · rw [e1, hres]
    exact trodAll_mk1 (shut_bool hbool _)
  · rw [e1]
    exact trodAll_below laidOut bel _ hrd hA
  · rw [e1, hvars]
    rfl

set_option maxRecDepth 40000 in
theorem laidVars_mem {P : Program} {w : World} {n : String} {d : DataW Unit} : ∀ {l : List (String × DataW Unit)} {ps : List MemPlace}, DataW.LaidVars P w l ps → (n, d) ∈ l →
    ∃ g t cs fuel p, P.globalNamed n = some g ∧ (P.globals[g]?).map (·.type) = some t ∧ w.var? P n = some cs ∧ DataW.trod (fun _ => ()) P w 0 (fun _ => true) false fuel t cs.toList = some (d, p)
  | [], _, _, hm => by cases hm
  | (n', d') :: r, ps, h, hm => by
    obtain ⟨g, t, cs, fuel, p, q, hg, ht, hv, hd, hr, _⟩ := h
    rcases List.mem_cons.1 hm with he | hm'
    · obtain ⟨rfl, rfl⟩ := Prod.mk.inj he
      exact ⟨g, t, cs, fuel, p, hg, ht, hv, hd⟩
    · exact laidVars_mem hr hm'

set_option maxRecDepth 40000 in
/-- A listed array of integers: its cells. -/
theorem laid_ints {P : Program} {w : World} {laid : List (String × DataW Unit)} {n : String} {d : DataW Unit} {g : Nat} {t e : TypeId} {k : IntKind} {m : Nat} (zs : List Int)
    (h : laidMetH P laid w) (hpl : (laid.all fun x => x.2.handleName?.isNone) = true) (hm : (n, d) ∈ laid) (hg : P.globalNamed n = some g) (ht : (P.globals[g]?).map (·.type) = some t)
    (hu : P.underlying t = some (.array m e)) (he : P.underlying e = some (.int k)) (hc : P.cellsOf e = 1) (hd : d = .agg (zs.map fun z => .lit (.int k z))) :
    g < w.heap.size ∧ ∀ (j : Nat) z, zs[j]? = some z → w.cell? ⟨g, j, none⟩ = some (.int k z) := by
  rw [MakeChecks.laidMetH_plain _ _ _ hpl] at h
  obtain ⟨ps, hv, _, _⟩ := h
  obtain ⟨g', t', cs, fuel, p, hg', ht', hvar, htr⟩ := laidVars_mem hv hm
  obtain rfl := Option.some.inj (hg.symm.trans hg')
  obtain rfl := Option.some.inj (ht.symm.trans ht')
  obtain ⟨xs, q, _, ex, _, hl, hel⟩ := DataW.trod_array hu htr
  have hlt : g < w.heap.size := by
    simp only [World.var?, hg, Option.bind_some] at hvar
    split at hvar
    · rename_i hh
      exact (Array.getElem?_eq_some_iff.1 hh).1
    · cases hvar
  refine ⟨hlt, fun j z hz => ?_⟩
  have e3 : xs.map (·.1) = zs.map fun z => (.lit (.int k z) : DataW Unit) := by
    have := (Prod.mk.inj ex).1
    rw [hd] at this
    exact (DataW.agg.inj this).symm
  have hlen : xs.length = zs.length := by simpa using congrArg List.length e3
  have hj : j < zs.length := (List.getElem?_eq_some_iff.1 hz).1
  have hE := hel j (by omega)
  rw [hc, Nat.mul_one, List.getElem?_eq_getElem (by omega)] at hE
  obtain ⟨y, e1, e2, _⟩ := DataW.trod_int he hE
  have e4 : (xs.map (·.1))[j]? = (zs.map fun z => (.lit (.int k z) : DataW Unit))[j]? := by rw [e3]
  rw [List.getElem?_map, List.getElem?_map, List.getElem?_eq_getElem (by omega : j < xs.length), e2, hz] at e4
  have hy : y = z := by simpa using e4
  subst hy
  rw [World.var?_cell hg hvar j]
  have : cs.toList[j]? = some (.int k y) := by
    have h0 : ((cs.toList.drop j).take 1)[0]? = some (.int k y) := by rw [e1]; rfl
    simpa using h0
  simpa using this

/-- A variable of one integer holds some integer, in every memory of the program's shape. -/
theorem int_of_shape {P : Program} {w : World} {g : Nat} {t : TypeId} {k : IntKind} {zero : Array Value} (h : w.ShapedOpen P) (hg : g < P.globals.size)
    (h0 : ((begin P (fun _ _ => 0) default).world.heap[g]?).bind Obj.row? = some (zero, t)) (hz : zero.size = 1)
    (hb : P.buildable t = true) (hc : P.cellTypes P.depth t = some [t]) (hu : P.underlying t = some (.int k)) : (∃ z, w.cell? ⟨g, 0, none⟩ = some (.int k z)) ∧ g < w.heap.size := by
  obtain ⟨cs, hh, hs, hr⟩ := h.1 g zero t hg h0
  refine ⟨?_, (Array.getElem?_eq_some_iff.1 hh).1⟩
  obtain ⟨ts, hts, _, hall⟩ := hr hb
  rw [hc] at hts
  cases hts
  have h1 : 0 < cs.size := by omega
  obtain ⟨u, hu', hok⟩ := hall 0 cs[0] (by simp [h1])
  have : u = t := by simpa using hu'.symm
  subst this
  have hcell : w.cell? ⟨g, 0, none⟩ = some cs[0] := by simp [World.cell?, hh, h1]
  rw [hcell]
  unfold Cell.ok at hok
  rw [hu] at hok
  cases hv : cs[0] with
  | int k' z =>
    rw [hv] at hok
    simp at hok
    obtain ⟨rfl, _⟩ := hok
    exact ⟨z, rfl⟩
  | _ => rw [hv] at hok; simp at hok

end Fr
end Go.Proofs.YtmojegnflcokjaaDoor

/-
  A case and a way that came in by value; that the table of reserved addresses stands in memory as the program's text lays it.
-/
namespace Go.Proofs.YtmojegnflcokjaaDoor
open Go.ChangeShapes Go.WideShapes Go.ChangeAt Go.RowKit Go.Deep
namespace Fwd

set_option maxRecDepth 20000 in
theorem chunk_plan {H : Type} {enc : TypeId × Value → H} {W : World} {base : Nat} {spare : Nat → Bool} {held : Bool} {fuel : Nat} {l : List Value} {x : DataW H × List MemPlace} (hl : l.length = 17)
    (hf : DataW.trod enc Tryd.prog W base spare held fuel 28 l = some x) : ∃ (o k : Nat → Int) (A : Option Addr) (m : List Mem.Vl) (c : Nat), l = Mem.pc o k A m.length c ∧ m.length ≤ maxLen ∧ Mem.Vls W A m := by
  have c8 : Tryd.prog.cellsOf 25 = 8 := by kernel_rfl
  have c1 : Tryd.prog.cellsOf 26 = 1 := by kernel_rfl
  obtain ⟨xs, n, _, _, _, hlen, hg⟩ := DataW.trod_struct Tryd.underlying28 hf
  have hlen3 : xs.length = 3 := hlen
  match l, hl with
  | [a0, a1, a2, a3, a4, a5, a6, a7, a8, a9, a10, a11, a12, a13, a14, a15, a16], _ =>
    have g0 : DataW.trod enc Tryd.prog W base spare held n 25 [a0, a1, a2, a3, a4, a5, a6, a7] = xs[0]? := by have := hg 0 _ rfl; simpa [Value.cells, c8] using this
    have g1 : DataW.trod enc Tryd.prog W base spare held n 25 [a8, a9, a10, a11, a12, a13, a14, a15] = xs[1]? := by have := hg 1 _ rfl; simpa [Value.cells, c8] using this
    have g2 : DataW.trod enc Tryd.prog W base spare held n 26 [a16] = xs[2]? := by have := hg 2 _ rfl; simpa [Value.cells, c1] using this
    rw [List.getElem?_eq_getElem (by omega)] at g0 g1 g2
    obtain ⟨o, ho⟩ := Mem.chunk_ints Tryd.underlying25 Tryd.underlying3 (by kernel_rfl) g0
    obtain ⟨k, hk⟩ := Mem.chunk_ints Tryd.underlying25 Tryd.underlying3 (by kernel_rfl) g1
    obtain ⟨A, m, c, rfl, hm, hA⟩ := Mem.open_vls g2
    refine ⟨o, k, A, m, c, ?_, hm, hA⟩
    have o0 := ho 0 (by decide); have o1 := ho 1 (by decide); have o2 := ho 2 (by decide); have o3 := ho 3 (by decide)
    have o4 := ho 4 (by decide); have o5 := ho 5 (by decide); have o6 := ho 6 (by decide); have o7 := ho 7 (by decide)
    have k0 := hk 0 (by decide); have k1 := hk 1 (by decide); have k2 := hk 2 (by decide); have k3 := hk 3 (by decide)
    have k4 := hk 4 (by decide); have k5 := hk 5 (by decide); have k6 := hk 6 (by decide); have k7 := hk 7 (by decide)
    simp at o0 o1 o2 o3 o4 o5 o6 o7 k0 k1 k2 k3 k4 k5 k6 k7
    subst o0 o1 o2 o3 o4 o5 o6 o7 k0 k1 k2 k3 k4 k5 k6 k7
    rfl

set_option maxRecDepth 20000 in
theorem chunk_frame {H : Type} {enc : TypeId × Value → H} {W : World} {base : Nat} {spare : Nat → Bool} {held : Bool} {fuel : Nat} {l : List Value} {x : DataW H × List MemPlace} (hl : l.length = 7)
    (hf : DataW.trod enc Tryd.prog W base spare held fuel 32 l = some x) : ∃ (d s : Nat) (g : Bool) (p v t : Int) (X : ByteArray), l = Mem.fc d s g p v t X ∧ d < 18446744073709551616 ∧ s < 18446744073709551616 ∧ X.size ≤ maxLen := by
  have c1 : Tryd.prog.cellsOf 30 = 1 := by kernel_rfl
  have c2 : Tryd.prog.cellsOf 4 = 1 := by kernel_rfl
  have c3 : Tryd.prog.cellsOf 3 = 1 := by kernel_rfl
  have c4 : Tryd.prog.cellsOf 9 = 1 := by kernel_rfl
  obtain ⟨xs, n, _, _, _, hlen, hg⟩ := DataW.trod_struct Tryd.underlying32 hf
  have hlen7 : xs.length = 7 := hlen
  match l, hl with
  | [a0, a1, a2, a3, a4, a5, a6], _ =>
    have g0 : DataW.trod enc Tryd.prog W base spare held n 30 [a0] = xs[0]? := by have := hg 0 _ rfl; simpa [Value.cells, c1] using this
    have g1 : DataW.trod enc Tryd.prog W base spare held n 30 [a1] = xs[1]? := by have := hg 1 _ rfl; simpa [Value.cells, c1] using this
    have g2 : DataW.trod enc Tryd.prog W base spare held n 4 [a2] = xs[2]? := by have := hg 2 _ rfl; simpa [Value.cells, c2] using this
    have g3 : DataW.trod enc Tryd.prog W base spare held n 3 [a3] = xs[3]? := by have := hg 3 _ rfl; simpa [Value.cells, c3] using this
    have g4 : DataW.trod enc Tryd.prog W base spare held n 3 [a4] = xs[4]? := by have := hg 4 _ rfl; simpa [Value.cells, c3] using this
    have g5 : DataW.trod enc Tryd.prog W base spare held n 3 [a5] = xs[5]? := by have := hg 5 _ rfl; simpa [Value.cells, c3] using this
    have g6 : DataW.trod enc Tryd.prog W base spare held n 9 [a6] = xs[6]? := by have := hg 6 _ rfl; simpa [Value.cells, c4] using this
    rw [List.getElem?_eq_getElem (by omega)] at g0 g1 g2 g3 g4 g5 g6
    obtain ⟨z0, h0, _, w0⟩ := DataW.trod_int Tryd.underlying30 g0
    obtain ⟨z1, h1, _, w1⟩ := DataW.trod_int Tryd.underlying30 g1
    obtain ⟨z2, h2, _⟩ := DataW.trod_bool Tryd.underlying4 g2
    obtain ⟨z3, h3, _, _⟩ := DataW.trod_int Tryd.underlying3 g3
    obtain ⟨z4, h4, _, _⟩ := DataW.trod_int Tryd.underlying3 g4
    obtain ⟨z5, h5, _, _⟩ := DataW.trod_int Tryd.underlying3 g5
    obtain ⟨z6, h6, _, w6⟩ := DataW.trod_string Tryd.underlying9 g6
    simp at h0 h1 h2 h3 h4 h5 h6
    subst h0 h1 h2 h3 h4 h5 h6
    obtain ⟨m0, rfl, e0⟩ := Eth.wf_u64 w0
    obtain ⟨m1, rfl, e1⟩ := Eth.wf_u64 w1
    exact ⟨m0, m1, z2, z3, z4, z5, z6, rfl, e0, e1, w6⟩

set_option maxRecDepth 20000 in
theorem open_case {H : Type} {enc : TypeId × Value → H} {W : World} {base b0 : Nat} {spare : Nat → Bool} {held : Bool} {r : Reach} {v : Value} {d : DataW H} {p : List MemPlace}
    (hv : Value.okWide Tryd.prog W r b0 34 v) (h : DataW.Trod enc Tryd.prog W base spare held 34 v d p) :
    ∃ (o k : Nat → Int) (A : Option Addr) (m : List Mem.Vl) (c : Nat) (x y : Nat) (g : Bool) (q u t : Int) (X : ByteArray), v = xv o k A m.length c x y g q u t X ∧ m.length ≤ maxLen ∧ Mem.Vls W A m ∧ x < 18446744073709551616 ∧ y < 18446744073709551616 ∧ X.size ≤ maxLen := by
  have c24 : Tryd.prog.cellsOf 34 = 24 := by kernel_rfl
  have c17 : Tryd.prog.cellsOf 28 = 17 := by kernel_rfl
  have c7 : Tryd.prog.cellsOf 32 = 7 := by kernel_rfl
  have hS := Tryd.underlying34
  simp only [Value.okWide, hS] at hv
  obtain ⟨cs, rfl, h2, _⟩ := hv
  obtain ⟨l⟩ := cs
  obtain ⟨fuel, hf⟩ := h
  obtain ⟨xs, n, _, _, _, hlen, hg⟩ := DataW.trod_struct hS hf
  have hl : l.length = 24 := by have := h2.trans c24; simpa using this
  have hlen2 : xs.length = 2 := hlen
  have g0 : DataW.trod enc Tryd.prog W base spare held n 28 (l.take 17) = xs[0]? := by have := hg 0 _ rfl; simpa [Value.cells, c17] using this
  have g1 : DataW.trod enc Tryd.prog W base spare held n 32 ((l.drop 17).take 7) = xs[1]? := by have := hg 1 _ rfl; simpa [Value.cells, c7] using this
  rw [List.getElem?_eq_getElem (by omega)] at g0 g1
  obtain ⟨o, k, A, m, c, e1, h1, h3⟩ := chunk_plan (by rw [List.length_take]; omega) g0
  obtain ⟨x, y, g, q, u, t, X, e2, h4, h5, h6⟩ := chunk_frame (by rw [List.length_take, List.length_drop]; omega) g1
  refine ⟨o, k, A, m, c, x, y, g, q, u, t, X, ?_, h1, h3, h4, h5, h6⟩
  have e3 : l = Mem.pc o k A m.length c ++ Mem.fc x y g q u t X := by
    rw [← e1, ← e2, List.take_of_length_le (by rw [List.length_drop]; omega : (l.drop 17).length ≤ 7), List.take_append_drop]
  rw [e3]
  rfl

set_option maxRecDepth 40000 in
theorem open_way {H : Type} {enc : TypeId × Value → H} {W : World} {base b0 : Nat} {spare : Nat → Bool} {held : Bool} {r : Reach} {v : Value} {d : DataW H} {p : List MemPlace}
    (hv : Value.okWide Tryd.prog W r b0 36 v) (h : DataW.Trod enc Tryd.prog W base spare held 36 v d p) :
    ∃ (q ln op : Int), v = .agg #[.int .i64 q, .int .i64 ln, .int .i64 op] := by
  obtain ⟨l, n, rfl, hl, hg⟩ := Fr.open_fields Tryd.underlying36 (by kernel_rfl) (by kernel_rfl) hv h
  match l, hl with
  | [v0, v1, v2], _ =>
    obtain ⟨c0, y0, e0, t0⟩ := hg 0 _ rfl
    obtain ⟨c1, y1, e1, t1⟩ := hg 1 _ rfl
    obtain ⟨c2, y2, e2, t2⟩ := hg 2 _ rfl
    cases e0
    cases e1
    cases e2
    obtain ⟨x0, f0, _, _⟩ := DataW.trod_int Tryd.underlying3 t0
    obtain ⟨x1, f1, _, _⟩ := DataW.trod_int Tryd.underlying3 t1
    obtain ⟨x2, f2, _, _⟩ := DataW.trod_int Tryd.underlying3 t2
    simp at f0 f1 f2
    subst f0 f1 f2
    exact ⟨x0, x1, x2, rfl⟩

set_option maxRecDepth 100000 in
theorem home_of {W : World} {laid : List (String × DataW Unit)} (_hs : W.ShapedOpen Tryd.prog) (hL : laidMetH Tryd.prog laid W) (hpl : (laid.all fun x => x.2.handleName?.isNone) = true)
    (hm : ("tipstaff/mac.reserved", Rows.laid_tipstaff_mac_reserved) ∈ laid) : Home W := by
  obtain ⟨h1, h2⟩ := Fr.laid_ints (P := Tryd.prog) (g := 0) (t := 102) (e := 30) (k := .u64) (m := 16) ((List.range 16).map fun j => ((1652522221568 + j : Nat) : Int)) hL hpl hm
    (by kernel_rfl) (by kernel_rfl) Tryd.underlying102 Tryd.underlying30 (by kernel_rfl) (by rfl)
  refine ⟨fun j hj => h2 j _ ?_, h1⟩
  simp [hj]

end Fwd
end Go.Proofs.YtmojegnflcokjaaDoor
