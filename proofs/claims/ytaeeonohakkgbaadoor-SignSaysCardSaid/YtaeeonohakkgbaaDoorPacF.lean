/-
  What packet.Without makes of any packet.
-/
import Derived.Test.YtaeeonohakkgbaaDoorPacE
import Derived.Test.YtaeeonohakkgbaaDoorAttC
namespace Go.Proofs.YtaeeonohakkgbaaDoor
open Go.RowKit
namespace Pac
open Oct Att Bx

theorem out_count (l : List At) (k : Int) : (allV l k).length + (outA l k).length = l.length := by
  unfold allV outA
  induction l with
  | nil => rfl
  | cons x l ih =>
    simp only [List.filter_cons, List.length_cons]
    by_cases h : x.1 = k
    · simp only [beq_iff_eq.2 h, if_true, Bool.not_true, Bool.false_eq_true, if_false, List.map_cons, List.length_cons]
      omega
    · simp only [beq_eq_false_iff_ne.2 h, Bool.false_eq_true, if_false, Bool.not_false, if_true, List.length_cons]
      omega

theorem out_none (l : List At) (k : Int) (h : ∀ x ∈ l, x.1 ≠ k) : outA l k = l := List.filter_eq_self.2 (fun x hx => by simp [h x hx])

theorem out_append (l m : List At) (k : Int) : outA (l ++ m) k = outA l k ++ outA m k := List.filter_append _ _

/-- What is kept of a list up to a place behind f, where none of the type stands from f on. -/
theorem out_run (l : List At) (k : Int) (f j : Nat) (hfj : f ≤ j) (hn : ∀ i x, f ≤ i → i < j → l[i]? = some x → x.1 ≠ k) : outA (l.take j) k = outA (l.take f) k ++ (l.drop f).take (j - f) := by
  have e : l.take j = l.take f ++ (l.drop f).take (j - f) := by
    conv => lhs; rw [show j = f + (j - f) by omega]
    rw [List.take_add]
  rw [e, out_append, out_none ((l.drop f).take (j - f))]
  intro x hx
  obtain ⟨i, hi, he⟩ := List.getElem_of_mem hx
  have h1 : i < j - f := by rw [List.length_take] at hi; omega
  have h2 : l[f + i]? = some x := by
    rw [List.getElem_take, List.getElem_drop] at he
    rw [← he]
    exact List.getElem?_eq_getElem _
  exact hn (f + i) x (by omega) (by omega) h2

theorem out_skip (l : List At) (k : Int) (j : Nat) (x : At) (h : l[j]? = some x) (hx : x.1 = k) : outA (l.take (j + 1)) k = outA (l.take j) k := by
  have hj := (List.getElem?_eq_some_iff.1 h).1
  rw [List.take_succ_eq_append_getElem hj, out_append]
  have : l[j] = x := (List.getElem?_eq_some_iff.1 h).2
  simp [outA, this, hx]

theorem out_take_le (l : List At) (k : Int) (j : Nat) : (outA (l.take j) k).length ≤ (outA l k).length := by
  conv => rhs; rw [← List.take_append_drop j l, out_append, List.length_append]
  exact Nat.le_add_right _ _

/-- What stands while a packet is turned: all that lay before, the packet's box, the answer's box, its attributes. -/
def Stand (w0 W : World) (c i : Int) (a : ByteArray) (A : Option Addr) (l : List At) (k : Nat) : Prop := Below w0.heap.size w0 W ∧ Fre W w0.heap.size (pl c i a A l.length k) ∧ Fre W (w0.heap.size + 1) (pl 0 0 ⟨#[]⟩ none 0 0) ∧ Ats w0 A l

theorem Stand.here {w0 W : World} {c i : Int} {a : ByteArray} {A : Option Addr} {l : List At} {k : Nat} (h : Stand w0 W c i a A l k) : Ats W A l := h.2.2.2.below h.1

theorem Stand.keep {w0 W W' : World} {c i : Int} {a : ByteArray} {A : Option Addr} {l : List At} {k : Nat} (h : Stand w0 W c i a A l k) (hb : Below W.heap.size W W') : Stand w0 W' c i a A l k :=
  ⟨then_below h.1 hb, h.2.1.keep hb, h.2.2.1.keep hb, h.2.2.2⟩

theorem Stand.alloc {w0 W : World} {c i : Int} {a : ByteArray} {A : Option Addr} {l : List At} {k : Nat} (h : Stand w0 W c i a A l k) (o : Obj) : Stand w0 (W.alloc o) c i a A l k := h.keep (box_below W o)

theorem Stand.drew {w0 W : World} {c i : Int} {a : ByteArray} {A : Option Addr} {l : List At} {k : Nat} (h : Stand w0 W c i a A l k) : Stand w0 W.drew c i a A l k := h.keep ((Below.refl _ W).drew)

theorem Stand.ats {w0 W : World} {c i : Int} {a : ByteArray} {A : Option Addr} {l : List At} {k : Nat} (h : Hid (Stand w0 W c i a A l k)) : Ats W A l := h.out.here

theorem Stand.keepH {w0 W W' : World} {c i : Int} {a : ByteArray} {A : Option Addr} {l : List At} {k : Nat} (h : Hid (Stand w0 W c i a A l k)) (hb : Below W.heap.size W W') : Hid (Stand w0 W' c i a A l k) := Lib.hid (h.out.keep hb)
theorem Stand.allocH {w0 W : World} {c i : Int} {a : ByteArray} {A : Option Addr} {l : List At} {k : Nat} {o : Obj} (h : Hid (Stand w0 W c i a A l k)) : Hid (Stand w0 (W.alloc o) c i a A l k) := Lib.hid (h.out.alloc o)

theorem Stand.new (w : World) (c i : Int) (a : ByteArray) (A : Option Addr) (l : List At) (k : Nat) (hA : Ats w A l) : Stand w ((w.alloc (po c i a A l.length k)).alloc (po 0 0 ⟨#[]⟩ none 0 0)) c i a A l k := by
  have bel := bel_box (box_below w (po c i a A l.length k)) (po 0 0 ⟨#[]⟩ none 0 0)
  refine ⟨bel, (Fre.new w (pl c i a A l.length k) 24).keep (box_below _ (po 0 0 ⟨#[]⟩ none 0 0)), ?_, hA⟩
  have := Fre.new (w.alloc (po c i a A l.length k)) (pl 0 0 ⟨#[]⟩ none 0 0) 24
  rwa [show (w.alloc (po c i a A l.length k)).heap.size = w.heap.size + 1 by simp] at this

theorem heap_old (w : World) (o : Obj) {g : Nat} (h : g < w.heap.size) : (w.alloc o).heap[g]? = w.heap[g]? := by
  exact (Array.getElem?_push_lt h).trans (Array.getElem?_eq_getElem h).symm

theorem flat_drop (l : List At) : ∀ f, (l.flatMap enc).drop (f * 2) = (l.drop f).flatMap enc := by
  induction l with
  | nil => intro f; simp
  | cons x l ih =>
    intro f
    cases f with
    | zero => rfl
    | succ f =>
      rw [List.drop_succ_cons, ← ih f, List.flatMap_cons, show (f + 1) * 2 = (enc x).length + f * 2 by show _ = 2 + _; omega, List.drop_append]
      simp

theorem flat_take (l : List At) : ∀ f, (l.flatMap enc).take (f * 2) = (l.take f).flatMap enc := by
  induction l with
  | nil => intro f; simp
  | cons x l ih =>
    intro f
    cases f with
    | zero => simp
    | succ f =>
      rw [List.take_succ_cons, List.flatMap_cons, List.flatMap_cons, ← ih f, show (f + 1) * 2 = (enc x).length + f * 2 by show _ = 2 + _; omega, List.take_append]
      simp
      exact List.take_of_length_le (by simp)

/-- The cells of a part of a slice of attributes. -/
theorem cells_part {W : World} {b o : Nat} {l : List At} (h : Ats W (some ⟨b, o, none⟩) l) (f c : Nat) : ∀ (j : Nat) (v : Value), (((l.drop f).take c).flatMap enc)[j]? = some v → W.cell? ((⟨b, o + f * 2, none⟩ : Addr).add j) = some v := by
  intro j v hj
  have e : (l.flatMap enc)[f * 2 + j]? = some v := by
    rw [← flat_take, ← flat_drop, List.getElem?_take] at hj
    split at hj
    · rwa [List.getElem?_drop] at hj
    · cases hj
  have := enc_cells h _ _ e
  rw [Addr.add_lit] at this ⊢
  rwa [show o + f * 2 + j = o + (f * 2 + j) by omega]

theorem splice_take {α : Type} (Y C : List α) (o : Nat) (h : o ≤ Y.length) : (splice Y o C).take (o + C.length) = Y.take o ++ C := by
  unfold splice
  have e : (Y.take o).length = o := by rw [List.length_take]; omega
  rw [← List.append_assoc, List.take_left' (by rw [List.length_append, e])]

theorem Stand.same {w0 W W' : World} {c i : Int} {a : ByteArray} {A : Option Addr} {l : List At} {k g : Nat} (h : Stand w0 W c i a A l k) (hb : Below w0.heap.size w0 W') (hs : ∀ k, k ≠ g → W'.heap[k]? = W.heap[k]?) (hz : W'.heap.size = W.heap.size) (hg : w0.heap.size + 1 < g) : Stand w0 W' c i a A l k :=
  ⟨hb, h.2.1.same (g := g) (by omega) hs hz, h.2.2.1.same (g := g) (by omega) hs hz, h.2.2.2⟩

theorem row_ats {W : World} {g : Nat} {L : List At} {Y : List Value} {t : TypeId} (hG : W.heap[g]? = some (.cells Y.toArray t (0, 0))) (hY : Y = L.flatMap enc) : Ats W (some ⟨g, 0, none⟩) L := by
  have hc : ∀ j, W.cell? ⟨g, j, none⟩ = Y[j]? := fun j => by simp [World.cell?, hG]
  intro j x hj
  refine ⟨g, 0, rfl, (Array.getElem?_eq_some_iff.1 hG).1, ?_, ?_⟩
  · rw [Nat.zero_add, hc, hY, (enc_flat L j x hj).1]
  · rw [Nat.zero_add, hc, hY, (enc_flat L j x hj).2]

set_option maxHeartbeats 4000000 in
set_option maxRecDepth 100000 in
theorem out_core (c i : Int) (a : ByteArray) (A : Option Addr) (l : List At) (kc m q : Nat) (kind : Int) (w : World) (hA : Ats w A l) (hl : l.length ≤ 1000) (hcap : l.length ≤ kc) (hnil : A = none → kc = 0) (hm : m = (outA l kind).length) (hq : (l.length : Int) - q = m)
    (HC : Hid (∀ w, Ats w A l → Calls Tryd.prog 41 #[.slice A l.length kc, .int .i64 kind] w fun e w' => e = .returned (.int .i64 q) ∧ Below w.heap.size w w')) :
    Calls Tryd.prog 18 #[pv c i a A l.length kc, .int .i64 kind] w (GivesN c i a (outA l kind) w) := by
  obtain ⟨i0, hi, hz0, hz1, hz2⟩ := info_parts info_at
  have hsz : (Tryd.prog.info? 39).map (·.size) = some 2 := by rw [hi]; simp [hz1]
  have hm1 : m ≤ 1000 := by omega
  have HM := Lib.hid hm
  clear hm
  obtain ⟨Z, hZ⟩ : ∃ Z, Z = (madeCells #[.int .i64 0, .string ⟨#[]⟩] (m * 2)).toList := ⟨_, rfl⟩
  have hZl : Z.length = m * 2 := by rw [hZ, Array.length_toList, size_madeCells]
  have hmk : ∀ w, (Instr.makeSlice 22 (.int .i64 (m : Int)) (.int .i64 (m : Int))).run Tryd.prog w = .ok (.slice (some ⟨w.heap.size, 0, none⟩) m m) (w.alloc (.cells Z.toArray 39)) := fun w => by
    have h63' : (m : Int) ≤ 9223372036854775807 := by omega
    have hr := run_make (P := Tryd.prog) w 22 39 i0 (.agg #[.int .i64 0, .string ⟨#[]⟩]) Tryd.underlying22 hi hz0 .i64 .i64 m m (by omega) (Int.le_refl _) (by rw [hz2]; omega) h63'
    simp only [Int.toNat_natCast, hz1] at hr
    rw [hZ]
    exact hr
  clear hZ
  have wm : IntKind.i64.wrap (m : Int) = m := by rw [IntKind.wrap_i64]; omega
  have ST := Lib.hid (Stand.new w c i a A l kc hA)
  obtain ⟨c0, c1, c2, c3⟩ := ST.out.2.1.1.all4
  clear hA
  go_enter Tryd.func18, Tryd.ntmps18
  go_wp2_with fail
  generalize (w.alloc (po c i a A l.length kc)).alloc (po 0 0 ⟨#[]⟩ none 0 0) = W at *
  have zz : W.drew.cell? ⟨w.heap.size, 3, none⟩ = some (.slice A l.length kc) ∧ Hid (Stand w W.drew c i a A l kc) := by exact ⟨c3, Lib.hid ST.out.drew⟩
  go_region_held3 (fun w' => w'.cell? ⟨w.heap.size, 3, none⟩ = some (.slice A l.length kc) ∧ Hid (Stand w w' c i a A l kc))
    (first | exact zz | (go_split_ands; exact ⟨keep_cell (box_below _ _) (by assumption), Stand.allocH (by assumption)⟩) | (go_split_ands; exact ⟨keep_cell (by assumption) (by assumption), Stand.keepH (by assumption) (by assumption)⟩) | go_keep | exact ⟨c3, Lib.hid ST.out.drew⟩ | (go_split_ands; exact ⟨keep_cell (by assumption) (by assumption), Stand.keepH (by assumption) (by assumption)⟩) | (go_split_ands; exact ⟨keep_cell (box_below _ _) (by assumption), Stand.allocH (by assumption)⟩))
    (first | (go_at_call 41; go_split_ands; refine (HC.out _ (Stand.ats (w0 := w) (c := c) (i := i) (a := a) (k := kc) (by assumption))).mono ?_; rintro e w2 ⟨rfl, hb2⟩))
  have S2 := Lib.hid ((ST.out.drew).keep hb2)
  have ST3 := Lib.hid (S2.out.alloc (Obj.cells Z.toArray 39))
  have HG : Hid ((w2.alloc (Obj.cells Z.toArray 39)).heap[w2.heap.size]? = some (.cells Z.toArray 39 (0, 0))) := Lib.hid (Go.heap_alloc_new w2 _)
  have hg : w.heap.size + 1 < w2.heap.size := S2.out.2.2.1.2.1
  clear ST hb2 c0 c1 c2 c3 S2
  generalize w2.alloc (Obj.cells Z.toArray 39) = w3 at *
  generalize w2.heap.size = g at *
  obtain ⟨c0, c1, c2, c3⟩ := ST3.out.2.1.1.all4
  go_wp2
  go_loopw [6, 7, 22] (fun u6 f7 ix wr => ∃ (k u f : Nat) (Y : List Value), k ≤ l.length ∧ f ≤ k ∧ u ≤ m ∧ u6 = .int .i64 u ∧ f7 = .int .i64 f ∧ ix = .int .i64 k ∧ Y.length = m * 2 ∧
    Aside (∀ (j : Nat) (x : At), f ≤ j → j < k → l[j]? = some x → x.1 ≠ kind) ∧ Aside (wr.heap[g]? = some (.cells Y.toArray 39 (0, 0))) ∧ Aside (Y.take (u * 2) = (outA (l.take f) kind).flatMap enc) ∧ Aside (u = (outA (l.take f) kind).length) ∧ Aside (Stand w wr c i a A l kc)) (fun _ _ ix _ => l.length - (intOf ix).toNat)
  case atStart => exact ⟨0, 0, 0, Z, Nat.zero_le _, Nat.le_refl _, Nat.zero_le _, rfl, rfl, rfl, hZl, fun j x _ h => absurd h (Nat.not_lt_zero _), HG.out, rfl, rfl, ST3.out⟩
  case round =>
    obtain ⟨k, u, f, Y, hk, hf, hu, rfl, rfl, rfl, hYl, HNO, HGR, HTK, HU, HST⟩ := hrel
    clear c0 c1 c2 c3 ST3 HG
    obtain ⟨c0, c1, c2, c3⟩ := HST.out.2.1.1.all4
    have hgl := (Array.getElem?_eq_some_iff.1 HGR.out).1
    by_cases hlt : k < l.length
    · obtain ⟨b, o, rfl, _, d0, d1⟩ := HST.out.here.at hlt
      have HX := Lib.hid (show l[k]? = some l[k] from List.getElem?_eq_getElem hlt)
      generalize l[k] = x at *
      obtain ⟨x1, x2⟩ := x
      simp only at d0 d1
      have ST4 := Lib.hid (HST.out.alloc (Obj.cells #[.int .i64 x1, .string x2] 39))
      have HG4 : Hid ((wr.alloc (Obj.cells #[.int .i64 x1, .string x2] 39)).heap[g]? = some (.cells Y.toArray 39 (0, 0))) := Lib.hid (by rw [heap_old _ _ hgl]; exact HGR.out)
      by_cases hx : x1 = kind
      · subst hx
        have hf' : (f : Int) ≤ k := by omega
        have hk' : (k : Int) ≤ kc := by omega
        have hu' : (u : Int) ≤ m := by omega
        obtain ⟨cnt, hcnt⟩ : ∃ cnt, cnt = k - f := ⟨_, rfl⟩
        have hRun := out_run l x1 f k hf HNO.out
        have hLen : ((l.drop f).take (k - f)).length = cnt := by rw [List.length_take, List.length_drop]; omega
        have hum : u + cnt ≤ m := by
          have h1 := out_take_le l x1 k
          have h2 := HM.out
          have h3 := HU.out
          rw [hRun, List.length_append, hLen] at h1
          omega
        have HSK := Lib.hid (out_skip l x1 k _ HX.out rfl)
        rw [hRun] at HSK
        have HE3 := Lib.hid (cells_part ST4.out.drew.here f (k - f))
        have HE1 : Hid (cnt = Nat.min (k - f) (m - u)) := Lib.hid (show cnt = min (k - f) (m - u) by omega)
        have HE2 := Lib.hid ((enc_length ((l.drop f).take (k - f))).trans (by rw [hLen]))
        have HE5 := Lib.hid (enc_one ((l.drop f).take (k - f)))
        have HE6 := Lib.hid ST4.out.drew.1
        have HPL := Lib.hid hLen
        clear hRun hLen
        generalize (l.drop f).take (k - f) = PT at *
        generalize hCS : PT.flatMap enc = CS at *
        obtain ⟨c0, c1, c2, c3⟩ := ST4.out.drew.2.1.1.all4
        rcases (show u < m ∨ u = m by omega) with hum2 | hum2
        · have hmu : ¬ m = u := by omega
          have hkf : ¬ kc = f := by omega
          go_wp2
          go_region_law (refine Cp.step_copy_two rfl (.tmp 34) (.tmp 39) 22 22 rfl 39 Tryd.underlying22 hsz (some ⟨g, u * 2, none⟩) (some ⟨b, o + f * 2, none⟩) (m - u) (m - u) (k - f) (kc - f) (by simp [Act.eval, Act.put]) (by simp [Act.eval, Act.put]) g (u * 2) Y 39 HG4.out CS cnt HE1.out HE2.out (fun _ => ⟨rfl, _, rfl, HE3.out⟩) (by rw [hYl, HE2.out]; omega) HE5.out w.heap.size w HE6.out (by omega) ?_; intro w5 h5 b5 s5 z5)
          have HYl := Lib.hid ((length_splice Y (u * 2) CS (by rw [hYl, HE2.out]; omega)).trans hYl)
          have HT5 := Lib.hid (splice_take Y CS (u * 2) (by rw [hYl]; omega))
          have ST5 := Lib.hid (ST4.out.drew.same b5.out s5.out z5.out hg)
          rw [HE2.out] at HT5
          have HT6 : Hid ((splice Y (u * 2) CS).take ((u + cnt) * 2) = (outA (l.take (k + 1)) x1).flatMap enc) := Lib.hid (by rw [show (u + cnt) * 2 = u * 2 + cnt * 2 by omega, HT5.out, HTK.out, ← hCS, ← List.flatMap_append, ← HSK.out])
          have HU5 := Lib.hid (show u + cnt = (outA (l.take (k + 1)) x1).length by rw [HSK.out, List.length_append, ← HU.out, ← HPL.out])
          go_wp2
          go_roundw
          case rel => exact ⟨k + 1, u + cnt, k + 1, splice Y (u * 2) CS, by omega, Nat.le_refl _, hum, by go_num, by go_num, by go_num, HYl.out, fun j y h1 h2 _ => absurd h1 (by omega), h5.out, HT6.out, HU5.out, ST5.out⟩
          case measure => simp [intOf]; omega
        · obtain rfl : m = u := hum2.symm
          obtain rfl : cnt = 0 := by omega
          have hkf : ¬ kc = f := by omega
          have hkf0 : k - f = 0 := hcnt.symm
          clear hcnt
          have HE1' : Hid (0 = Nat.min 0 0) := Lib.hid rfl
          go_wp2
          go_region_law (refine Cp.step_copy_two rfl (.tmp 34) (.tmp 39) 22 22 rfl 39 Tryd.underlying22 hsz (some ⟨g, 0, none⟩) (some ⟨b, o + f * 2, none⟩) 0 0 0 (kc - f) (by simp [Act.eval, Act.put]) (by simp [Act.eval, Act.put]) g (m * 2) Y 39 HG4.out CS 0 HE1'.out HE2.out (fun h => absurd h (Nat.lt_irrefl 0)) (by rw [hYl, HE2.out]; omega) HE5.out w.heap.size w HE6.out (by omega) ?_; intro w5 h5 b5 s5 z5)
          have HYl := Lib.hid ((length_splice Y (m * 2) CS (by rw [hYl, HE2.out]; omega)).trans hYl)
          have HT5 := Lib.hid (splice_take Y CS (m * 2) (by rw [hYl]; omega))
          have ST5 := Lib.hid (ST4.out.drew.same b5.out s5.out z5.out hg)
          rw [HE2.out] at HT5
          have HT6 : Hid ((splice Y (m * 2) CS).take ((m + 0) * 2) = (outA (l.take (k + 1)) x1).flatMap enc) := Lib.hid (by rw [show (m + 0) * 2 = m * 2 + 0 * 2 by omega, HT5.out, HTK.out, ← hCS, ← List.flatMap_append, ← HSK.out])
          have HU5 := Lib.hid (show m + 0 = (outA (l.take (k + 1)) x1).length by rw [HSK.out, List.length_append, ← HU.out, ← HPL.out])
          go_wp2
          go_roundw
          case rel => exact ⟨k + 1, m + 0, k + 1, splice Y (m * 2) CS, by omega, Nat.le_refl _, hum, by go_num, by go_num, by go_num, HYl.out, fun j y h1 h2 _ => absurd h1 (by omega), h5.out, HT6.out, HU5.out, ST5.out⟩
          case measure => simp [intOf]; omega
      · go_wp2
        go_roundw
        case rel => exact ⟨k + 1, u, f, Y, by omega, by omega, hu, rfl, rfl, by go_num, hYl, (show Aside _ from fun j y h1 h2 h3 => by
            by_cases e : j = k
            · subst e
              rw [HX.out] at h3
              cases h3
              exact hx
            · exact HNO.out j y h1 (by omega) h3), HG4.out, HTK.out, HU.out, ST4.out⟩
        case measure => simp [intOf]; omega
    · obtain rfl : k = l.length := by omega
      have hRun := out_run l kind f l.length hf HNO.out
      rw [List.take_length] at hRun
      have hLen : ((l.drop f).take (l.length - f)).length = l.length - f := by rw [List.length_take, List.length_drop]; omega
      have hum : u + (l.length - f) = m := by
        have h2 := HM.out
        have h3 := HU.out
        rw [hRun, List.length_append, hLen] at h2
        omega
      have HSK := Lib.hid hRun
      have HE2 := Lib.hid ((enc_length ((l.drop f).take (l.length - f))).trans (by rw [hLen]))
      have HE5 := Lib.hid (enc_one ((l.drop f).take (l.length - f)))
      have HE6 := Lib.hid HST.out.drew.1
      have hu' : (u : Int) ≤ m := by omega
      have hf' : (f : Int) ≤ l.length := by omega
      have hk' : (l.length : Int) ≤ kc := by omega
      have ST4 := Lib.hid HST.out.drew
      have hle : w.heap.size ≤ g := by omega
      have n1 : ¬ w.heap.size = g := by omega
      have n2 : ¬ w.heap.size + 1 = g := by omega
      have n3 : ¬ g = w.heap.size := by omega
      have n4 : ¬ g = w.heap.size + 1 := by omega
      have n5 : w.heap.size + 1 ≠ w.heap.size := by omega
      have hne : ∀ b o', (some ⟨g, 0, none⟩ : Option Addr) = some ⟨b, o', none⟩ → b ≠ w.heap.size := fun b o' e => by cases e; exact n3
      have hne2 : ∀ b o', (some ⟨g, 0, none⟩ : Option Addr) = some ⟨b, o', none⟩ → b ≠ w.heap.size + 1 := fun b o' e => by cases e; exact n4
      have HD : Hid (∀ (w5 : World) (CS : List Value), CS = ((l.drop f).take (l.length - f)).flatMap enc → w5.heap[g]? = some (.cells (splice Y (u * 2) CS).toArray 39 (0, 0)) → Ats w5 (some ⟨g, 0, none⟩) (outA l kind)) := Lib.hid (fun w5 CS e h => row_ats h (by
        have := splice_take Y CS (u * 2) (by rw [hYl]; omega)
        rw [e, HE2.out, HTK.out, ← List.flatMap_append, ← HSK.out, List.take_of_length_le (by rw [length_splice _ _ _ (by rw [hYl, HE2.out]; omega), hYl]; omega)] at this
        rw [e]
        exact this))
      have HLm := Lib.hid HM.out
      by_cases hfn : f < l.length
      · obtain ⟨b, o, rfl, _⟩ := HST.out.here.at hfn
        have HE3 := Lib.hid (cells_part HST.out.drew.here f (l.length - f))
        clear hRun hLen
        generalize hCS : ((l.drop f).take (l.length - f)).flatMap enc = CS at *
        have hmu : ¬ m = u := by omega
        have hkf : ¬ kc = f := by omega
        have HE1 : Hid (l.length - f = Nat.min (l.length - f) (m - u)) := Lib.hid (show l.length - f = min (l.length - f) (m - u) by omega)
        go_wp2
        go_region_law (refine Cp.step_copy_two rfl (.tmp 47) (.tmp 51) 22 22 rfl 39 Tryd.underlying22 hsz (some ⟨g, u * 2, none⟩) (some ⟨b, o + f * 2, none⟩) (m - u) (m - u) (l.length - f) (kc - f) (by simp [Act.eval, Act.put]) (by simp [Act.eval, Act.put]) g (u * 2) Y 39 HGR.out CS (l.length - f) HE1.out HE2.out (fun _ => ⟨rfl, _, rfl, HE3.out⟩) (by rw [hYl, HE2.out]; omega) HE5.out w.heap.size w HE6.out hle ?_; intro w5 h5 b5 s5 z5)
        have ST5 := Lib.hid (ST4.out.same b5.out s5.out z5.out hg)
        have HAT := Lib.hid (HD.out w5 CS rfl h5.out)
        obtain ⟨⟨c0, c1, c2, c3⟩, f0, f1, f2, f3⟩ := ST5.out.2.1.all4
        obtain ⟨⟨r0, r1, r2, r3⟩, s0, s1, s2, s3⟩ := ST5.out.2.2.1.all4
        have HB4 := Lib.hid (((((ST5.out.1.setCell (p := ⟨w.heap.size, 3, none⟩) (Nat.le_refl _) (.slice (some ⟨g, 0, none⟩) m m)).setCell (p := ⟨w.heap.size + 1, 0, none⟩) (Nat.le_succ _) (.int .i64 c)).setCell (p := ⟨w.heap.size + 1, 1, none⟩) (Nat.le_succ _) (.int .i64 i)).setCell (p := ⟨w.heap.size + 1, 2, none⟩) (Nat.le_succ _) (.string a)).setCell (p := ⟨w.heap.size + 1, 3, none⟩) (Nat.le_succ _) (.slice (some ⟨g, 0, none⟩) m m))
        have R5 := Lib.hid (((ST5.out.2.2.1.1.other (o := 3) (x := .slice (some ⟨g, 0, none⟩) m m) n5).put4 (x0 := .int .i64 c) (x1 := .int .i64 i) (x2 := .string a) (x3 := .slice (some ⟨g, 0, none⟩) m m)).all4)
        go_wp2_with fail
        refine bodyPost_ret (v := pv c i a (some ⟨g, 0, none⟩) m m) ?_ rfl ?_
        · obtain ⟨d0, d1, d2, d3⟩ := R5.out
          simp [results, Tryd.results18, d0, d1, d2, d3, go_sem]
        · exact ⟨some ⟨g, 0, none⟩, m, by rw [← HLm.out], by rw [← HLm.out]; exact Nat.le_refl _, (fun h => by cases h), (fun b o' e => by cases e; exact hle), ats_set (ats_set (ats_set (ats_set (ats_set HAT.out hne) hne2) hne2) hne2) hne2, HB4.out⟩
      · obtain rfl : f = l.length := by omega
        obtain rfl : m = u := by omega
        have HE1 : Hid (0 = Nat.min 0 0) := Lib.hid rfl
        have hx0 : (l.drop l.length).take (l.length - l.length) = [] := by simp
        rw [hx0] at HD
        clear hRun hLen hx0 hum
        cases A with
        | none =>
          obtain rfl : kc = 0 := hnil rfl
          have h0 : l.length = 0 := by omega
          rw [h0]
          go_wp2
          go_region_law (refine Cp.step_copy_two rfl (.tmp 47) (.tmp 51) 22 22 rfl 39 Tryd.underlying22 hsz (some ⟨g, 0, none⟩) none 0 0 0 0 (by simp [Act.eval, Act.put]) (by simp [Act.eval, Act.put]) g (m * 2) Y 39 HGR.out [] 0 HE1.out rfl (fun h => absurd h (Nat.lt_irrefl 0)) (by simp [hYl]) (fun _ h => by cases h) w.heap.size w HE6.out hle ?_; intro w5 h5 b5 s5 z5)
          have ST5 := Lib.hid (ST4.out.same b5.out s5.out z5.out hg)
          have HAT := Lib.hid (HD.out w5 [] rfl h5.out)
          obtain ⟨⟨c0, c1, c2, c3⟩, f0, f1, f2, f3⟩ := ST5.out.2.1.all4
          obtain ⟨⟨r0, r1, r2, r3⟩, s0, s1, s2, s3⟩ := ST5.out.2.2.1.all4
          have HB4 := Lib.hid (((((ST5.out.1.setCell (p := ⟨w.heap.size, 3, none⟩) (Nat.le_refl _) (.slice (some ⟨g, 0, none⟩) m m)).setCell (p := ⟨w.heap.size + 1, 0, none⟩) (Nat.le_succ _) (.int .i64 c)).setCell (p := ⟨w.heap.size + 1, 1, none⟩) (Nat.le_succ _) (.int .i64 i)).setCell (p := ⟨w.heap.size + 1, 2, none⟩) (Nat.le_succ _) (.string a)).setCell (p := ⟨w.heap.size + 1, 3, none⟩) (Nat.le_succ _) (.slice (some ⟨g, 0, none⟩) m m))
          have R5 := Lib.hid (((ST5.out.2.2.1.1.other (o := 3) (x := .slice (some ⟨g, 0, none⟩) m m) n5).put4 (x0 := .int .i64 c) (x1 := .int .i64 i) (x2 := .string a) (x3 := .slice (some ⟨g, 0, none⟩) m m)).all4)
          go_wp2_with fail
          refine bodyPost_ret (v := pv c i a (some ⟨g, 0, none⟩) m m) ?_ rfl ?_
          · obtain ⟨d0, d1, d2, d3⟩ := R5.out
            simp [results, Tryd.results18, d0, d1, d2, d3, go_sem]
          · exact ⟨some ⟨g, 0, none⟩, m, by rw [← HLm.out], by rw [← HLm.out]; exact Nat.le_refl _, (fun h => by cases h), (fun b o' e => by cases e; exact hle), ats_set (ats_set (ats_set (ats_set (ats_set HAT.out hne) hne2) hne2) hne2) hne2, HB4.out⟩
        | some ad =>
          obtain ⟨b, o, sp⟩ := ad
          cases sp with
          | none =>
            by_cases hkn : kc = l.length
            · go_wp2
              go_region_law (refine Cp.step_copy_two rfl (.tmp 47) (.tmp 51) 22 22 rfl 39 Tryd.underlying22 hsz (some ⟨g, 0, none⟩) (some ⟨b, o, none⟩) 0 0 0 0 (by simp [Act.eval, Act.put]) (by simp [Act.eval, Act.put]) g (m * 2) Y 39 HGR.out [] 0 HE1.out rfl (fun h => absurd h (Nat.lt_irrefl 0)) (by simp [hYl]) (fun _ h => by cases h) w.heap.size w HE6.out hle ?_; intro w5 h5 b5 s5 z5)
              have ST5 := Lib.hid (ST4.out.same b5.out s5.out z5.out hg)
              have HAT := Lib.hid (HD.out w5 [] rfl h5.out)
              obtain ⟨⟨c0, c1, c2, c3⟩, f0, f1, f2, f3⟩ := ST5.out.2.1.all4
              obtain ⟨⟨r0, r1, r2, r3⟩, s0, s1, s2, s3⟩ := ST5.out.2.2.1.all4
              have HB4 := Lib.hid (((((ST5.out.1.setCell (p := ⟨w.heap.size, 3, none⟩) (Nat.le_refl _) (.slice (some ⟨g, 0, none⟩) m m)).setCell (p := ⟨w.heap.size + 1, 0, none⟩) (Nat.le_succ _) (.int .i64 c)).setCell (p := ⟨w.heap.size + 1, 1, none⟩) (Nat.le_succ _) (.int .i64 i)).setCell (p := ⟨w.heap.size + 1, 2, none⟩) (Nat.le_succ _) (.string a)).setCell (p := ⟨w.heap.size + 1, 3, none⟩) (Nat.le_succ _) (.slice (some ⟨g, 0, none⟩) m m))
              have R5 := Lib.hid (((ST5.out.2.2.1.1.other (o := 3) (x := .slice (some ⟨g, 0, none⟩) m m) n5).put4 (x0 := .int .i64 c) (x1 := .int .i64 i) (x2 := .string a) (x3 := .slice (some ⟨g, 0, none⟩) m m)).all4)
              go_wp2_with fail
              refine bodyPost_ret (v := pv c i a (some ⟨g, 0, none⟩) m m) ?_ rfl ?_
              · obtain ⟨d0, d1, d2, d3⟩ := R5.out
                simp [results, Tryd.results18, d0, d1, d2, d3, go_sem]
              · exact ⟨some ⟨g, 0, none⟩, m, by rw [← HLm.out], by rw [← HLm.out]; exact Nat.le_refl _, (fun h => by cases h), (fun b o' e => by cases e; exact hle), ats_set (ats_set (ats_set (ats_set (ats_set HAT.out hne) hne2) hne2) hne2) hne2, HB4.out⟩
            · go_wp2
              go_region_law (refine Cp.step_copy_two rfl (.tmp 47) (.tmp 51) 22 22 rfl 39 Tryd.underlying22 hsz (some ⟨g, 0, none⟩) (some ⟨b, o + l.length * 2, none⟩) 0 0 0 (kc - l.length) (by simp [Act.eval, Act.put]) (by simp [Act.eval, Act.put]) g (m * 2) Y 39 HGR.out [] 0 HE1.out rfl (fun h => absurd h (Nat.lt_irrefl 0)) (by simp [hYl]) (fun _ h => by cases h) w.heap.size w HE6.out hle ?_; intro w5 h5 b5 s5 z5)
              have ST5 := Lib.hid (ST4.out.same b5.out s5.out z5.out hg)
              have HAT := Lib.hid (HD.out w5 [] rfl h5.out)
              obtain ⟨⟨c0, c1, c2, c3⟩, f0, f1, f2, f3⟩ := ST5.out.2.1.all4
              obtain ⟨⟨r0, r1, r2, r3⟩, s0, s1, s2, s3⟩ := ST5.out.2.2.1.all4
              have HB4 := Lib.hid (((((ST5.out.1.setCell (p := ⟨w.heap.size, 3, none⟩) (Nat.le_refl _) (.slice (some ⟨g, 0, none⟩) m m)).setCell (p := ⟨w.heap.size + 1, 0, none⟩) (Nat.le_succ _) (.int .i64 c)).setCell (p := ⟨w.heap.size + 1, 1, none⟩) (Nat.le_succ _) (.int .i64 i)).setCell (p := ⟨w.heap.size + 1, 2, none⟩) (Nat.le_succ _) (.string a)).setCell (p := ⟨w.heap.size + 1, 3, none⟩) (Nat.le_succ _) (.slice (some ⟨g, 0, none⟩) m m))
              have R5 := Lib.hid (((ST5.out.2.2.1.1.other (o := 3) (x := .slice (some ⟨g, 0, none⟩) m m) n5).put4 (x0 := .int .i64 c) (x1 := .int .i64 i) (x2 := .string a) (x3 := .slice (some ⟨g, 0, none⟩) m m)).all4)
              go_wp2_with fail
              refine bodyPost_ret (v := pv c i a (some ⟨g, 0, none⟩) m m) ?_ rfl ?_
              · obtain ⟨d0, d1, d2, d3⟩ := R5.out
                simp [results, Tryd.results18, d0, d1, d2, d3, go_sem]
              · exact ⟨some ⟨g, 0, none⟩, m, by rw [← HLm.out], by rw [← HLm.out]; exact Nat.le_refl _, (fun h => by cases h), (fun b o' e => by cases e; exact hle), ats_set (ats_set (ats_set (ats_set (ats_set HAT.out hne) hne2) hne2) hne2) hne2, HB4.out⟩
          | some sq =>
            by_cases hkn : kc = l.length
            · go_wp2
              go_region_law (refine Cp.step_copy_two rfl (.tmp 47) (.tmp 51) 22 22 rfl 39 Tryd.underlying22 hsz (some ⟨g, 0, none⟩) (some ⟨b, o, some sq⟩) 0 0 0 0 (by simp [Act.eval, Act.put]) (by simp [Act.eval, Act.put]) g (m * 2) Y 39 HGR.out [] 0 HE1.out rfl (fun h => absurd h (Nat.lt_irrefl 0)) (by simp [hYl]) (fun _ h => by cases h) w.heap.size w HE6.out hle ?_; intro w5 h5 b5 s5 z5)
              have ST5 := Lib.hid (ST4.out.same b5.out s5.out z5.out hg)
              have HAT := Lib.hid (HD.out w5 [] rfl h5.out)
              obtain ⟨⟨c0, c1, c2, c3⟩, f0, f1, f2, f3⟩ := ST5.out.2.1.all4
              obtain ⟨⟨r0, r1, r2, r3⟩, s0, s1, s2, s3⟩ := ST5.out.2.2.1.all4
              have HB4 := Lib.hid (((((ST5.out.1.setCell (p := ⟨w.heap.size, 3, none⟩) (Nat.le_refl _) (.slice (some ⟨g, 0, none⟩) m m)).setCell (p := ⟨w.heap.size + 1, 0, none⟩) (Nat.le_succ _) (.int .i64 c)).setCell (p := ⟨w.heap.size + 1, 1, none⟩) (Nat.le_succ _) (.int .i64 i)).setCell (p := ⟨w.heap.size + 1, 2, none⟩) (Nat.le_succ _) (.string a)).setCell (p := ⟨w.heap.size + 1, 3, none⟩) (Nat.le_succ _) (.slice (some ⟨g, 0, none⟩) m m))
              have R5 := Lib.hid (((ST5.out.2.2.1.1.other (o := 3) (x := .slice (some ⟨g, 0, none⟩) m m) n5).put4 (x0 := .int .i64 c) (x1 := .int .i64 i) (x2 := .string a) (x3 := .slice (some ⟨g, 0, none⟩) m m)).all4)
              go_wp2_with fail
              refine bodyPost_ret (v := pv c i a (some ⟨g, 0, none⟩) m m) ?_ rfl ?_
              · obtain ⟨d0, d1, d2, d3⟩ := R5.out
                simp [results, Tryd.results18, d0, d1, d2, d3, go_sem]
              · exact ⟨some ⟨g, 0, none⟩, m, by rw [← HLm.out], by rw [← HLm.out]; exact Nat.le_refl _, (fun h => by cases h), (fun b o' e => by cases e; exact hle), ats_set (ats_set (ats_set (ats_set (ats_set HAT.out hne) hne2) hne2) hne2) hne2, HB4.out⟩
            · go_wp2
              go_region_law (refine Cp.step_copy_two rfl (.tmp 47) (.tmp 51) 22 22 rfl 39 Tryd.underlying22 hsz (some ⟨g, 0, none⟩) (some (Addr.add ⟨b, o, some sq⟩ (l.length * 2))) 0 0 0 (kc - l.length) (by simp [Act.eval, Act.put]) (by simp [Act.eval, Act.put]) g (m * 2) Y 39 HGR.out [] 0 HE1.out rfl (fun h => absurd h (Nat.lt_irrefl 0)) (by simp [hYl]) (fun _ h => by cases h) w.heap.size w HE6.out hle ?_; intro w5 h5 b5 s5 z5)
              have ST5 := Lib.hid (ST4.out.same b5.out s5.out z5.out hg)
              have HAT := Lib.hid (HD.out w5 [] rfl h5.out)
              obtain ⟨⟨c0, c1, c2, c3⟩, f0, f1, f2, f3⟩ := ST5.out.2.1.all4
              obtain ⟨⟨r0, r1, r2, r3⟩, s0, s1, s2, s3⟩ := ST5.out.2.2.1.all4
              have HB4 := Lib.hid (((((ST5.out.1.setCell (p := ⟨w.heap.size, 3, none⟩) (Nat.le_refl _) (.slice (some ⟨g, 0, none⟩) m m)).setCell (p := ⟨w.heap.size + 1, 0, none⟩) (Nat.le_succ _) (.int .i64 c)).setCell (p := ⟨w.heap.size + 1, 1, none⟩) (Nat.le_succ _) (.int .i64 i)).setCell (p := ⟨w.heap.size + 1, 2, none⟩) (Nat.le_succ _) (.string a)).setCell (p := ⟨w.heap.size + 1, 3, none⟩) (Nat.le_succ _) (.slice (some ⟨g, 0, none⟩) m m))
              have R5 := Lib.hid (((ST5.out.2.2.1.1.other (o := 3) (x := .slice (some ⟨g, 0, none⟩) m m) n5).put4 (x0 := .int .i64 c) (x1 := .int .i64 i) (x2 := .string a) (x3 := .slice (some ⟨g, 0, none⟩) m m)).all4)
              go_wp2_with fail
              refine bodyPost_ret (v := pv c i a (some ⟨g, 0, none⟩) m m) ?_ rfl ?_
              · obtain ⟨d0, d1, d2, d3⟩ := R5.out
                simp [results, Tryd.results18, d0, d1, d2, d3, go_sem]
              · exact ⟨some ⟨g, 0, none⟩, m, by rw [← HLm.out], by rw [← HLm.out]; exact Nat.le_refl _, (fun h => by cases h), (fun b o' e => by cases e; exact hle), ats_set (ats_set (ats_set (ats_set (ats_set HAT.out hne) hne2) hne2) hne2) hne2, HB4.out⟩

theorem without_fresh (c i : Int) (a : ByteArray) (l : List At) (hl : l.length ≤ 1000) (A : Option Addr) (k : Nat) (hcap : l.length ≤ k) (hnil : A = none → k = 0) (kind : Int) (w : World) (hA : Ats w A l) :
    Calls Tryd.prog 18 #[pv c i a A l.length k, .int .i64 kind] w (GivesN c i a (outA l kind) w) :=
  out_core c i a A l k (outA l kind).length (allV l kind).length kind w hA hl hcap hnil rfl (by have := out_count l kind; omega) (Lib.hid fun w hA => count_any l hl kind A k w hA)

theorem without_any (c i : Int) (a : ByteArray) (l : List At) (hl : l.length ≤ 1000) (A : Option Addr) (k : Nat) (hcap : l.length ≤ k) (hnil : A = none → k = 0) (kind : Int) (w : World) (hA : Ats w A l) :
    Calls Tryd.prog 18 #[pv c i a A l.length k, .int .i64 kind] w (GivesQ c i a (outA l kind) w) :=
  (without_fresh c i a l hl A k hcap hnil kind w hA).mono fun _ _ h => h.c.q

end Pac
end Go.Proofs.YtaeeonohakkgbaaDoor
