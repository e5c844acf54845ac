/-
  Packed in one text: TabE, CopyK.
-/
import Derived.Test.YtmojegnflcokjaaDoorPkPorB
import Derived.Laws.CopyOwn
import Derived.WalkKit
/-
  table.Tick: all that stay, each a tick older.
-/
namespace Go.Proofs.YtmojegnflcokjaaDoor
open Go.RowKit
namespace Tab
open Oct

theorem Fre.same {w w' : World} {k : Nat} {l : List Value} (h : Fre w k l) (hs : w'.heap[k]? = w.heap[k]?) (hz : w'.heap.size = w.heap.size) : Fre w' k l := by
  refine ⟨fun j v hv => ?_, by rw [hz]; exact h.2.1, fun j => ?_⟩
  · have := h.1 j v hv
    unfold World.cell? at this ⊢
    rw [hs]
    exact this
  · have := h.2.2 j
    unfold World.frozen? at this ⊢
    rw [hs]
    exact this

theorem Fre.put3 {W : World} {k : Nat} {y0 y1 y2 x0 x1 x2 : Value} (h : Fre W k [y0, y1, y2]) : Fre (((W.setCell ⟨k, 0, none⟩ x0).setCell ⟨k, 1, none⟩ x1).setCell ⟨k, 2, none⟩ x2) k [x0, x1, x2] :=
  ⟨h.1.put3, by simpa using h.2.1, fun j => by rw [World.frozen?_setCell, World.frozen?_setCell, World.frozen?_setCell]; exact h.2.2 j⟩

theorem own_at {w : World} {base n c k : Nat} {e : TypeId} {B : Option Addr} {l : List En} {x : En} (h : w.ownsRow base e 4 (.slice B n c) n (l.flatMap enc)) (hx : l[k]? = some x) :
    ∃ g, B = some ⟨g, 0, none⟩ ∧ base ≤ g ∧ g < w.heap.size ∧ (w.cell? ⟨g, k * 4, none⟩ = some (.int .i64 x.v) ∧ w.cell? ⟨g, k * 4 + 1, none⟩ = some (.int .u64 x.m) ∧ w.cell? ⟨g, k * 4 + 2, none⟩ = some (.int .i64 x.p) ∧ w.cell? ⟨g, k * 4 + 3, none⟩ = some (.int .i64 x.a)) ∧ ∀ j, w.frozen? ⟨g, j, none⟩ = false := by
  have hn : l.length = n := by have := h.1; rw [enc_length] at this; omega
  have hk := (List.getElem?_eq_some_iff.1 hx).1
  rcases h.2 with ⟨h1, h0⟩ | ⟨g, cap, cur, h1, hb, hg, _⟩
  · omega
  · injection h1 with e1 _ _
    subst e1
    have c := h.cells (g := g) rfl
    obtain ⟨e0, e1, e2, e3⟩ := enc_flat l k x hx
    refine ⟨g, rfl, hb, (Array.getElem?_eq_some_iff.1 hg).1, ⟨?_, ?_, ?_, ?_⟩, fun j => frozen_of_row w g j cur e hg⟩
    · have := c _ _ e0
      rwa [Addr.add_lit, Nat.zero_add] at this
    · have := c _ _ e1
      rwa [Addr.add_lit, Nat.zero_add] at this
    · have := c _ _ e2
      rwa [Addr.add_lit, Nat.zero_add] at this
    · have := c _ _ e3
      rwa [Addr.add_lit, Nat.zero_add] at this

theorem enc_set : ∀ (l : List En) (k : Nat) (x : En) (a : Int), l[k]? = some x → (l.flatMap enc).set (k * 4 + 3) (.int .i64 a) = (l.set k ⟨x.v, x.m, x.p, a⟩).flatMap enc
  | [], _, _, _, h => by simp at h
  | y :: l, 0, x, a, h => by
    simp at h
    subst h
    rfl
  | y :: l, k + 1, x, a, h => by
    have := enc_set l k x a (by simpa using h)
    rw [List.set_cons_succ, List.flatMap_cons, List.flatMap_cons, ← this, show (k + 1) * 4 + 3 = k * 4 + 3 + 4 by omega]
    rfl

theorem own_put {w : World} {base n c k g : Nat} {e : TypeId} {l : List En} {x : En} (a : Int) (h : w.ownsRow base e 4 (.slice (some ⟨g, 0, none⟩) n c) n (l.flatMap enc)) (hx : l[k]? = some x) :
    (w.setCell ⟨g, k * 4 + 3, none⟩ (.int .i64 a)).ownsRow base e 4 (.slice (some ⟨g, 0, none⟩) n c) n ((l.set k ⟨x.v, x.m, x.p, a⟩).flatMap enc) := by
  refine ⟨by rw [enc_length, List.length_set, ← enc_length]; exact h.1, ?_⟩
  rcases h.2 with ⟨h1, h0⟩ | ⟨g', cap, cur, h1, hb, hg, h4, h5, h6, h7⟩
  · cases h1
  · injection h1 with e1 e2 e3
    injection e1 with e1
    injection e1 with e1
    subst e1 e3
    refine .inr ⟨g, c, _, rfl, hb, heap_setCell_same w g (k * 4 + 3) cur e _ hg, h4, h5, by simpa using h6, ?_⟩
    rw [Array.toList_setIfInBounds, List.take_set, h7, enc_set l k x a hx]

/-- The first k are a tick older. -/
def olds (o : List En) (k : Nat) : List En := (o.take k).map older ++ o.drop k

theorem olds_at {o : List En} {k : Nat} (h : k < o.length) : (olds o k)[k]? = some o[k] := by
  unfold olds
  rw [List.getElem?_append_right (by simp; omega), List.length_map, List.length_take, Nat.min_eq_left (by omega), Nat.sub_self, List.getElem?_drop, Nat.add_zero, List.getElem?_eq_getElem h]

theorem olds_next {o : List En} {k : Nat} (h : k < o.length) : olds o (k + 1) = (olds o k).set k (older o[k]) := by
  unfold olds
  rw [List.take_succ_eq_append_getElem h, List.map_append, List.drop_eq_getElem_cons h, List.set_append_right _ _ (by simp; omega), List.length_map, List.length_take, Nat.min_eq_left (by omega), Nat.sub_self]
  simp only [List.map_cons, List.map_nil, List.set_cons_zero, List.append_assoc, List.cons_append, List.nil_append]

theorem olds_end (o : List En) : olds o o.length = o.map older := by unfold olds; simp

set_option maxRecDepth 20000 in
set_option maxHeartbeats 4000000 in
theorem tick_any (most long : Int) (hL : long ≤ 9223372036854775807) (l : List En) (hl : l.length ≤ 100000) (hle : ∀ e ∈ l, -9223372036854775808 ≤ e.a) (A : Option Addr) (c : Nat) (w : World) (hA : Ents w A l) :
    Calls Tryd.prog 52 #[tv most long A l.length c] w (KeptG most long (tickL long l) ((l.length : Int) - (tickL long l).length) w) := by
  have HK := Lib.hid (fun w hA => kept_any most long l hl A c 80 (.int .i64 long) (outl long) (fun e he w => outl_any long hL e (hle e he) w) (enters_of Tryd.func80 (by kernel_rfl) rfl) w hA)
  have HQ := Lib.hid (show ∀ e ∈ l.filter (outl long), wrap64 (e.a + 1) = e.a + 1 from fun e he => by
    obtain ⟨h1, h2⟩ := List.mem_filter.1 he
    unfold outl at h2
    rw [Bool.and_eq_true, decide_eq_true_eq, decide_eq_true_eq] at h2
    exact wrap_next (hle e h1) h2.1 hL)
  have HE := Lib.hid (show (l.filter (outl long)).map older = tickL long l from rfl)
  have hlen : (tickL long l).length = (l.filter (outl long)).length := by unfold tickL; rw [List.length_map]
  have hfl := List.length_filter_le (outl long) l
  rw [hlen]
  generalize l.filter (outl long) = o at *
  have bel := Lib.hid (Bx.bel_box (Bx.box_below w (to most long A l.length c)) (to 0 0 none 0 0))
  have A1 := Lib.hid (hA.below bel.out)
  have K := Lib.hid ((Fre.new w [.int .i64 most, .int .i64 long, .slice A l.length c] 24).keep (Bx.box_below _ (to 0 0 none 0 0)))
  have R : Hid (Fre ((w.alloc (to most long A l.length c)).alloc (to 0 0 none 0 0)) (w.heap.size + 1) [.int .i64 0, .int .i64 0, .slice none 0 0]) := Lib.hid (by
    have := Fre.new (w.alloc (to most long A l.length c)) [.int .i64 0, .int .i64 0, .slice none 0 0] 24
    rwa [show (w.alloc (to most long A l.length c)).heap.size = w.heap.size + 1 by simp] at this)
  have hsz := Lib.hid (show ((w.alloc (to most long A l.length c)).alloc (to 0 0 none 0 0)).heap.size = w.heap.size + 2 by simp)
  obtain ⟨⟨k0, k1, k2⟩, _⟩ := K.out.all3
  have hle1 : w.heap.size ≤ w.heap.size + 1 := Nat.le_succ _
  have hle2 : w.heap.size ≤ w.heap.size + 2 := Nat.le_add_right _ _
  clear hA hle K hlen
  go_enter Tryd.func52, Tryd.ntmps52
  go_wp2_with fail
  refine (HK.out _ A1.out).mono ?_; rintro e w1 ⟨B, cc, rfl, hown, hb1⟩
  have bel2 := Lib.hid (Bx.bel_box (Bx.then_below bel.out hb1) (to most long B o.length cc))
  have R1 := Lib.hid ((R.out.keep hb1).keep (Bx.box_below w1 (to most long B o.length cc)))
  have T1 := Lib.hid (Fre.new w1 [.int .i64 most, .int .i64 long, .slice B o.length cc] 24)
  have HW := Lib.hid (hown.alloc (to most long B o.length cc))
  have HLT := Lib.hid hown.lt
  have hs1 : w.heap.size + 2 ≤ w1.heap.size := by have := hb1.size; rw [hsz.out] at this; exact this
  rw [hsz.out] at HW HLT
  obtain ⟨⟨c0, c1, c2⟩, f0, f1, f2⟩ := T1.out.all3
  clear hown hb1 HK bel A1 R hsz k0 k1 k2
  go_wp2
  generalize hW1 : w1.alloc (to most long B o.length cc) = W1 at *
  have HID := Lib.hid hW1
  clear hW1
  go_loopw [6, 18] (fun _ ix wr => ∃ k : Nat, k ≤ o.length ∧ ix = .int .i64 k ∧ Aside (wr.ownsRow (w.heap.size + 2) 62 4 (.slice B o.length cc) o.length ((olds o k).flatMap enc)) ∧
    Aside (∀ b, B ≠ some ⟨b, 0, none⟩ → wr.heap[b]? = W1.heap[b]?) ∧ Aside (wr.heap.size = W1.heap.size) ∧ Aside (Below w.heap.size w wr)) (fun _ ix _ => o.length - (intOf ix).toNat)
  case atStart => exact ⟨0, Nat.zero_le _, rfl, HW.out, fun _ _ => rfl, rfl, bel2.out⟩
  case round =>
    obtain ⟨k, hk, rfl, HO, HS, HZ, HB⟩ := hrel
    by_cases hlt : k < o.length
    · obtain ⟨g, rfl, hg1, hg2, ⟨d0, d1, d2, d3⟩, hf⟩ := own_at HO.out (olds_at hlt)
      have hgw := HLT.out g rfl
      have T2 := Lib.hid (T1.out.same (HS.out w1.heap.size (fun e => by cases e; omega)) HZ.out)
      obtain ⟨⟨t0, t1, t2⟩, s0, s1, s2⟩ := T2.out.all3
      have hq := HQ.out o[k] (List.getElem_mem hlt)
      have HO2 := Lib.hid (own_put (o[k].a + 1) HO.out (olds_at hlt))
      rw [show (⟨o[k].v, o[k].m, o[k].p, o[k].a + 1⟩ : En) = older o[k] from rfl, ← olds_next hlt] at HO2
      have hf3 := hf (k * 4 + 3)
      clear hf c0 c1 c2 f0 f1 f2 T2 HO
      generalize o[k] = x at *
      obtain ⟨x1, x2, x3, x4⟩ := x
      simp only at d0 d1 d2 d3 hq HO2
      go_wp2
      go_roundw
      case rel => exact ⟨k + 1, by omega, by go_num, HO2.out, fun b hb => (Below.heap_setCell _ _ _ b (fun e => hb (by rw [e]))).trans (HS.out b hb), (World.size_setCell wr _ _).trans HZ.out, HB.out.setCell (p := ⟨g, _, none⟩) (by show w.heap.size ≤ g; omega) _⟩
      case measure => simp [intOf]; omega
    · obtain rfl : k = o.length := by omega
      rw [olds_end, HE.out] at HO
      have hne : ∀ b, b < w.heap.size + 2 ∨ w1.heap.size ≤ b → B ≠ some ⟨b, 0, none⟩ := fun b hb e => by
        have := HLT.out b (by rw [e]; rfl)
        omega
      have T2 := Lib.hid (T1.out.same (HS.out w1.heap.size (hne _ (by omega))) HZ.out)
      have R2 := Lib.hid (R1.out.same (HS.out (w.heap.size + 1) (hne _ (by omega))) HZ.out)
      obtain ⟨⟨t0, t1, t2⟩, s0, s1, s2⟩ := T2.out.all3
      obtain ⟨⟨r0, r1, r2⟩, q0, q1, q2⟩ := R2.out.all3
      have HB4 := Lib.hid (((HB.out.setCell (p := ⟨w.heap.size + 1, 0, none⟩) hle1 (.int .i64 most)).setCell (p := ⟨w.heap.size + 1, 1, none⟩) hle1 (.int .i64 long)).setCell (p := ⟨w.heap.size + 1, 2, none⟩) hle1 (.slice B o.length cc))
      have R5 := Lib.hid (((R2.out.1).put3 (x0 := .int .i64 most) (x1 := .int .i64 long) (x2 := .slice B o.length cc)).all3)
      have HW5 := Lib.hid (own_mono (own_set (o := 2) (x := .slice B o.length cc) (own_set (o := 1) (x := .int .i64 long) (own_set (o := 0) (x := .int .i64 most) HO.out (Nat.lt_succ_self _)) (Nat.lt_succ_self _)) (Nat.lt_succ_self _)) hle2)
      clear HO HS HZ HB R1 R2 T1 T2 hne c0 c1 c2 f0 f1 f2 HLT HQ
      go_wp2_with fail
      refine bodyPost_ret (v := .tuple #[tv most long B o.length cc, .int .i64 ((l.length : Int) - o.length)]) ?_ rfl ?_
      · obtain ⟨d0, d1, d2⟩ := R5.out
        simp [results, Tryd.results52, d0, d1, d2, go_sem]
      · have ho : (tickL long l).length = o.length := by rw [← HE.out, List.length_map]
        exact ⟨B, cc, by rw [ho], by rw [ho]; exact HW5.out, HB4.out⟩

end Tab
end Go.Proofs.YtmojegnflcokjaaDoor

/-
  Go's copy where an element has any number of cells (over any program): what lies in the row behind it, at a call and in a region that draws its order.
-/
namespace Go.Proofs.YtmojegnflcokjaaDoor
open Go Go.RowKit
namespace Ck

theorem run_copy_k {P : Program} (w : World) (sz : Nat) (dT sT ty elem : TypeId) (g o dLen dCap : Nat) (a : Addr) (sLen sCap : Nat) (cur : Array Value) (t : TypeId) (cs : List Value) (m : Nat)
    (hu : P.underlying dT = some (.slice elem)) (hs : (P.info? elem).map (·.size) = some sz)
    (hg : w.heap[g]? = some (.cells cur t (0, 0))) (hm : m = Nat.min sLen dLen) (hn : cs.length = m * sz)
    (hsrc : ∀ j v, cs[j]? = some v → w.cell? (a.add j) = some v) (hfit : o + cs.length ≤ cur.size) (h1 : ∀ v ∈ cs, v.oneCell' = true) :
    (Builtin.copy_ #[dT, sT] ty #[.slice (some ⟨g, o, none⟩) dLen dCap, .slice (some a) sLen sCap]).run P w =
      .ok (goInt m) (w.setRow g (cur.toList.take o ++ cs ++ cur.toList.drop (o + cs.length)).toArray) := by
  have hl := run_loadCells_list (P := P) w a cs hsrc
  have hst := run_storeCells_at P g o t cs 0 cur w hg (by simpa using hfit) h1
  rw [hn] at hl
  cases hq : P.info? elem with
  | none => simp [hq] at hs
  | some i =>
    have hi : i.size = sz := by simpa [hq] using hs
    simp [Builtin.copy_, run_underlying hu, Builtin.lenOf, Builtin.firstCells, sizeOf, typeInfo, hq, hi, ← hm, hl, hst]

theorem run_copy_zero {P : Program} (w : World) (sz : Nat) (dT sT ty elem : TypeId) (d a : Option Addr) (dLen dCap sLen sCap : Nat) (hu : P.underlying dT = some (.slice elem)) (hs : (P.info? elem).map (·.size) = some sz) (hn : Nat.min sLen dLen = 0) :
    (Builtin.copy_ #[dT, sT] ty #[.slice d dLen dCap, .slice a sLen sCap]).run P w = .ok (goInt 0) w := by
  cases hq : P.info? elem with
  | none => simp [hq] at hs
  | some i =>
    have hl : ∀ (x : Addr), (loadCells x 0).run P w = .ok #[] w := fun x => by simpa using run_loadCells_list (P := P) w x [] (by simp)
    cases d <;> cases a <;> simp [Builtin.copy_, run_underlying hu, Builtin.lenOf, Builtin.firstCells, sizeOf, typeInfo, hq, hn, storeCells, hl]

/-- What a copy makes of a row that is known whole: m elements of some cells, laid over it from a place on. -/
theorem run_copy_both {P : Program} (w : World) (sz : Nat) (dT sT ty elem : TypeId) (dp sp : Option Addr) (dLen dCap sLen sCap : Nat)
    (hu : P.underlying dT = some (.slice elem)) (hsz : (P.info? elem).map (·.size) = some sz)
    (g off : Nat) (cur : List Value) (t : TypeId) (hg : w.heap[g]? = some (.cells cur.toArray t (0, 0))) (cs : List Value) (m : Nat) (hm : m = Nat.min sLen dLen) (hn : cs.length = m * sz)
    (hpos : 0 < m → dp = some ⟨g, off, none⟩ ∧ ∃ ad, sp = some ad ∧ ∀ j v, cs[j]? = some v → w.cell? (ad.add j) = some v)
    (hfit : off + cs.length ≤ cur.length) (h1 : ∀ v ∈ cs, v.oneCell' = true) (B : Nat) (w0 : World) (hb : Below B w0 w) (hBg : B ≤ g) :
    ∃ w', (Builtin.copy_ #[dT, sT] ty #[.slice dp dLen dCap, .slice sp sLen sCap]).run P w = .ok (goInt m) w' ∧ w'.heap[g]? = some (.cells (splice cur off cs).toArray t (0, 0)) ∧ Below B w0 w' ∧ (∀ k, k ≠ g → w'.heap[k]? = w.heap[k]?) ∧ w'.heap.size = w.heap.size := by
  by_cases h0 : m = 0
  · subst h0
    obtain rfl : cs = [] := List.eq_nil_of_length_eq_zero (by rw [hn, Nat.zero_mul])
    exact ⟨w, run_copy_zero w sz dT sT ty elem dp sp dLen dCap sLen sCap hu hsz hm.symm, by simpa [splice] using hg, hb, fun _ _ => rfl, rfl⟩
  · obtain ⟨rfl, ad, rfl, hsrc⟩ := hpos (by omega)
    exact ⟨_, run_copy_k w sz dT sT ty elem g off dLen dCap ad sLen sCap cur.toArray t cs m hu hsz hg hm hn hsrc (by simpa using hfit) h1,
      by simpa [splice] using setRow_heap w g _ (cur.take off ++ cs ++ cur.drop (off + cs.length)).toArray t _ hg, below_setRow hb hBg _, fun k hk => setRow_other w g k _ hk, by simp [World.setRow]⟩

theorem wpList_copy_k {P : Program} {w : World} {ops : Array Oper} {rest : List Oper} {o : Oper} {a : Act} {Q : Exit → Act → World → Prop} (hgd : o.guard = none) (d s : Operand) (dT sT : TypeId)
    (ho : o.op = .call { callee := .builtin .copy, args := #[d, s], argTypes := #[dT, sT] }) (sz : Nat) (elem : TypeId) (hu : P.underlying dT = some (.slice elem)) (hsz : (P.info? elem).map (·.size) = some sz)
    (dp sp : Option Addr) (dLen dCap sLen sCap : Nat) (hd : a.eval d = .slice dp dLen dCap) (hs : a.eval s = .slice sp sLen sCap)
    (g off : Nat) (cur : List Value) (t : TypeId) (hg : w.heap[g]? = some (.cells cur.toArray t (0, 0))) (cs : List Value) (m : Nat) (hm : m = Nat.min sLen dLen) (hn : cs.length = m * sz)
    (hpos : 0 < m → dp = some ⟨g, off, none⟩ ∧ ∃ ad, sp = some ad ∧ ∀ j v, cs[j]? = some v → w.cell? (ad.add j) = some v)
    (hfit : off + cs.length ≤ cur.length) (h1 : ∀ v ∈ cs, v.oneCell' = true) (B : Nat) (w0 : World) (hb : Below B w0 w) (hBg : B ≤ g)
    (h : ∀ w', Hid (w'.heap[g]? = some (.cells (splice cur off cs).toArray t (0, 0))) → Hid (Below B w0 w') → Hid (∀ k, k ≠ g → w'.heap[k]? = w.heap[k]?) → Hid (w'.heap.size = w.heap.size) → wpList P ops Q rest (a.put o.dst (goInt m)) w') :
    wpList P ops Q (o :: rest) a w := by
  obtain ⟨w', hrun, e1, e2, e3, e4⟩ := run_copy_both (P := P) w sz dT sT o.type elem dp sp dLen dCap sLen sCap hu hsz g off cur t hg cs m hm hn hpos hfit h1 B w0 hb hBg
  refine wpList_plain hgd fun K hK => ?_
  unfold Oper.wp
  simp [execOp, ho, resolve, invoke, builtin, hd, hs, hrun, Result.andThen]
  exact hK _ _ (h w' e1 e2 e3 e4)

theorem step_copy_k {P : Program} {ops : Array Oper} {o : Oper} {a : Act} {w : World} {K : Act → World → Prop} {Q : Exit → Act → World → Prop} {E : Prop} (hgd : o.guard = none) (d s : Operand) (dT sT : TypeId)
    (ho : o.op = .call { callee := .builtin .copy, args := #[d, s], argTypes := #[dT, sT] }) (sz : Nat) (elem : TypeId) (hu : P.underlying dT = some (.slice elem)) (hsz : (P.info? elem).map (·.size) = some sz)
    (dp sp : Option Addr) (dLen dCap sLen sCap : Nat) (hd : a.eval d = .slice dp dLen dCap) (hs : a.eval s = .slice sp sLen sCap)
    (g off : Nat) (cur : List Value) (t : TypeId) (hg : w.heap[g]? = some (.cells cur.toArray t (0, 0))) (cs : List Value) (m : Nat) (hm : m = Nat.min sLen dLen) (hn : cs.length = m * sz)
    (hpos : 0 < m → dp = some ⟨g, off, none⟩ ∧ ∃ ad, sp = some ad ∧ ∀ j v, cs[j]? = some v → w.cell? (ad.add j) = some v)
    (hfit : off + cs.length ≤ cur.length) (h1 : ∀ v ∈ cs, v.oneCell' = true) (B : Nat) (w0 : World) (hb : Below B w0 w) (hBg : B ≤ g)
    (h : ∀ w', Hid (w'.heap[g]? = some (.cells (splice cur off cs).toArray t (0, 0))) → Hid (Below B w0 w') → Hid (∀ k, k ≠ g → w'.heap[k]? = w.heap[k]?) → Hid (w'.heap.size = w.heap.size) → K (a.put o.dst (goInt m)) w') :
    if Region.wanted o (yielded ops a.tmps) = true then Oper.wp P o a w K Q else E := by
  obtain ⟨w', hrun, e1, e2, e3, e4⟩ := run_copy_both (P := P) w sz dT sT o.type elem dp sp dLen dCap sLen sCap hu hsz g off cur t hg cs m hm hn hpos hfit h1 B w0 hb hBg
  have hw : Region.wanted o (yielded ops a.tmps) = true := by simp [Region.wanted, hgd]
  rw [if_pos hw]
  unfold Oper.wp
  simp [execOp, ho, resolve, invoke, builtin, hd, hs, hrun, Result.andThen]
  exact h w' e1 e2 e3 e4

end Ck
end Go.Proofs.YtmojegnflcokjaaDoor
