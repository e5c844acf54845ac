/-
  The place of the first attribute of a type (packet.firstOf, by way of slices.IndexFunc), and what packet.Put makes of any packet.
-/
import Derived.Test.YtaeeonohakkgbaaDoorPacB
import Derived.Test.YtaeeonohakkgbaaDoorAttF
import Derived.Test.YtaeeonohakkgbaaDoorCopy
namespace Go.Proofs.YtaeeonohakkgbaaDoor
open Go.RowKit
namespace Pac
open Oct Att Bx

/-- The place of the first of a type, or the place behind all. -/
def posA (l : List At) (k : Int) : Nat := l.findIdx fun x => x.1 == k

theorem posA_le (l : List At) (k : Int) : posA l k ≤ l.length := List.findIdx_le_length

theorem posA_hit {l : List At} {k : Int} {j : Nat} (hj : j < l.length) (h : j ≤ posA l k) (hk : l[j].1 = k) : posA l k = j := by
  unfold posA at *
  by_cases e : j < l.findIdx fun x => x.1 == k
  · have := List.not_of_lt_findIdx e
    simp [hk] at this
  · omega

theorem posA_miss {l : List At} {k : Int} {j : Nat} (hj : j < l.length) (h : j ≤ posA l k) (hk : l[j].1 ≠ k) : j + 1 ≤ posA l k := by
  unfold posA at *
  by_cases e : j < l.findIdx fun x => x.1 == k
  · omega
  · have e2 : (l.findIdx fun x => x.1 == k) = j := by omega
    have := List.findIdx_getElem (xs := l) (p := fun x => x.1 == k) (w := by omega)
    simp only [e2] at this
    simp at this
    exact absurd this hk

theorem put_pos (l : List At) (k : Int) (v : ByteArray) : putA l k v = if posA l k < l.length then l.set (posA l k) (k, v) else l ++ [(k, v)] := by
  induction l with
  | nil => rfl
  | cons x l ih =>
    rw [putA]
    unfold posA at *
    rw [List.findIdx_cons]
    by_cases h : x.1 = k
    · rw [if_pos h]
      simp [h]
    · rw [if_neg h, ih]
      have e : (x.1 == k) = false := by simp [h]
      rw [e]
      simp only [cond_false, List.length_cons, Nat.add_lt_add_iff_right]
      split
      · simp
      · simp

set_option maxRecDepth 20000 in
set_option maxHeartbeats 1000000 in
/-- The closure. -/
theorem is_any (x : At) (kind : Int) (b o : Nat) (w : World) (h : w.cell? ⟨b, o, none⟩ = some (.int .i64 kind)) :
    Calls Tryd.prog 57 #[av x, .pointer (some ⟨b, o, none⟩)] w fun e w' => e = .returned (.bool (x.1 == kind)) ∧ Below w.heap.size w w' := by
  have h' := keep_cell (box_below w (Obj.cells #[.int .i64 x.1, .string x.2] 39)) h
  obtain ⟨x1, x2⟩ := x
  go_enter Tryd.func57, Tryd.ntmps57
  go_wp2
  go_ret
  exact ⟨rfl, box_below _ _⟩

/-- What IndexFunc answers. -/
def idxA (l : List At) (k : Int) : Int := if posA l k < l.length then posA l k else -1

set_option maxRecDepth 20000 in
set_option maxHeartbeats 2000000 in
theorem idx_any (l : List At) (hl : l.length ≤ maxLen) (kind : Int) (A : Option Addr) (c b o : Nat) (w : World) (hA : Ats w A l) (h : w.cell? ⟨b, o, none⟩ = some (.int .i64 kind)) :
    Calls Tryd.prog 56 #[.slice A l.length c, .func (.func 57) #[] #[.pointer (some ⟨b, o, none⟩)]] w fun e w' => e = .returned (.int .i64 (idxA l kind)) ∧ Below w.heap.size w w' := by
  have HA := Lib.hid hA
  have HC := Lib.hid h
  have HR := Lib.hid (fun x w h => is_any x kind b o w h)
  have eg : ∀ args w, (callFunc 57 args).run Tryd.prog w = .ok (.enter 57 args) w := enters_of Tryd.func57 (by kernel_rfl) rfl
  clear hA h
  have hl' : l.length ≤ 9223372036854775807 := hl
  go_enter Tryd.func56, Tryd.ntmps56
  go_wp2
  go_loopw [5, 8] (fun _ ix wr => ∃ k : Nat, k ≤ l.length ∧ ix = .int .i64 k ∧ Aside (k ≤ posA l kind) ∧ Aside (Below w.heap.size w wr)) (fun _ ix _ => l.length - (intOf ix).toNat)
  case atStart => exact ⟨0, Nat.zero_le _, rfl, Nat.zero_le _, Below.refl _ _⟩
  case round =>
    obtain ⟨k, hk, rfl, HP, HB⟩ := hrel
    by_cases hlt : k < l.length
    · obtain ⟨b', o', rfl, _, c0, c1⟩ := (HA.out.below HB.out).at hlt
      have HC' := Lib.hid (keep_cell HB.out HC.out)
      by_cases hx : l[k].1 = kind
      · have HE := Lib.hid (show idxA l kind = k by unfold idxA; rw [posA_hit hlt HP.out hx, if_pos hlt])
        have HR' := Lib.hid (fun w h => HR.out l[k] w h)
        rw [beq_iff_eq.2 hx] at HR'
        clear hx
        generalize l[k] = x at *
        obtain ⟨x1, x2⟩ := x
        simp only at c0 c1 HR'
        go_wp2_with fail
        refine (HR'.out _ HC'.out).mono ?_; rintro e w1 ⟨rfl, hb1⟩
        have B2 := Lib.hid (then_below HB.out hb1)
        clear hb1
        go_wp2_with fail
        go_ret
        exact ⟨by rw [HE.out]; rfl, B2.out⟩
      · have HP2 := Lib.hid (posA_miss hlt HP.out hx)
        have HR' := Lib.hid (fun w h => HR.out l[k] w h)
        rw [beq_eq_false_iff_ne.2 hx] at HR'
        generalize l[k] = x at *
        obtain ⟨x1, x2⟩ := x
        simp only at c0 c1 HR'
        go_wp2_with fail
        refine (HR'.out _ HC'.out).mono ?_; rintro e w1 ⟨rfl, hb1⟩
        have B2 := Lib.hid (then_below HB.out hb1)
        clear hb1
        go_wp2_with fail
        go_roundw
        case rel => exact ⟨k + 1, by omega, by go_num, HP2.out, B2.out⟩
        case measure => simp [intOf]; omega
    · have e1 : idxA l kind = -1 := by unfold idxA; rw [if_neg (by have := HP.out; omega)]
      go_wp2
      go_ret
      exact ⟨by rw [e1]; rfl, HB.out⟩

set_option maxRecDepth 20000 in
set_option maxHeartbeats 1000000 in
theorem first_any (l : List At) (hl : l.length ≤ maxLen) (kind : Int) (A : Option Addr) (c : Nat) (w : World) (hA : Ats w A l) :
    Calls Tryd.prog 43 #[.slice A l.length c, .int .i64 kind] w fun e w' => e = .returned (.int .i64 (posA l kind)) ∧ Below w.heap.size w w' := by
  have HI := Lib.hid (fun (w : World) b o hA h => idx_any l hl kind A c b o w hA h)
  have HA := Lib.hid (fun o : Obj => hA.below (box_below w o))
  have HC := Lib.hid ((Blk.new w [.int .i64 kind] 3).all1)
  have bel := Lib.hid (box_below w (Obj.cells #[.int .i64 kind] 3))
  have hp := posA_le l kind
  clear hA
  by_cases h : posA l kind < l.length
  · have e : idxA l kind = posA l kind := if_pos h
    rw [e] at HI
    generalize posA l kind = p at *
    go_enter Tryd.func43, Tryd.ntmps43
    go_wp2_with fail
    refine (HI.out _ _ _ (HA.out _) HC.out).mono ?_; rintro e w1 ⟨rfl, hb1⟩
    have B2 := Lib.hid (then_below bel.out hb1)
    clear hb1
    go_wp2_with fail
    go_ret
    exact ⟨rfl, B2.out⟩
  · have e : idxA l kind = -1 := if_neg h
    rw [e] at HI
    have e2 : posA l kind = l.length := by omega
    rw [e2]
    go_enter Tryd.func43, Tryd.ntmps43
    go_wp2_with fail
    refine (HI.out _ _ _ (HA.out _) HC.out).mono ?_; rintro e w1 ⟨rfl, hb1⟩
    have B2 := Lib.hid (then_below bel.out hb1)
    clear hb1
    go_wp2_with fail
    go_ret
    exact ⟨rfl, B2.out⟩

theorem Fre.same {w w' : World} {g k : Nat} {l : List Value} (h : Fre w k l) (hk : k ≠ g) (hs : ∀ k, k ≠ g → w'.heap[k]? = w.heap[k]?) (hz : w'.heap.size = w.heap.size) : Fre w' k l := by
  have e := hs k hk
  refine ⟨fun j v hv => ?_, by rw [hz]; exact h.2.1, fun j => ?_⟩
  · have := h.1 j v hv
    unfold World.cell? at this ⊢
    rw [e]
    exact this
  · have := h.2.2 j
    unfold World.frozen? at this ⊢
    rw [e]
    exact this

theorem own_full {w : World} {base g m : Nat} {e : TypeId} {xs : List Value} (h : w.ownsRow base e 2 (.slice (some ⟨g, 0, none⟩) m m) m xs) : w.heap[g]? = some (.cells xs.toArray e (0, 0)) ∧ base ≤ g ∧ xs.length = m * 2 := by
  rcases h.2 with ⟨h1, _⟩ | ⟨g', cap, cur, h1, h2, h3, h4, h5, h6, h7⟩
  · cases h1
  · injection h1 with e1 e2 e3
    injection e1 with e1
    injection e1 with e1
    subst e1 e3
    refine ⟨?_, h2, h.1⟩
    rw [h3, ← h7, List.take_of_length_le (by rw [Array.length_toList]; omega)]

/-- A packet handed back with other attributes. -/
def GivesQ (c i : Int) (a : ByteArray) (l : List At) (w : World) (e : Ending) (w' : World) : Prop := ∃ A k, e = .returned (pv c i a A l.length k) ∧ Ats w' A l ∧ Below w.heap.size w w'

/-- The same, of a slice whose room is known. -/
def GivesC (c i : Int) (a : ByteArray) (l : List At) (w : World) (e : Ending) (w' : World) : Prop := ∃ A k, e = .returned (pv c i a A l.length k) ∧ l.length ≤ k ∧ (A = none → k = 0) ∧ Ats w' A l ∧ Below w.heap.size w w'

/-- The same, of a slice that is new, too. -/
def GivesN (c i : Int) (a : ByteArray) (l : List At) (w : World) (e : Ending) (w' : World) : Prop := ∃ A k, e = .returned (pv c i a A l.length k) ∧ l.length ≤ k ∧ (A = none → k = 0) ∧ (∀ b o', A = some ⟨b, o', none⟩ → w.heap.size ≤ b) ∧ Ats w' A l ∧ Below w.heap.size w w'

theorem GivesN.c {c i : Int} {a : ByteArray} {l : List At} {w : World} {e : Ending} {w' : World} (h : GivesN c i a l w e w') : GivesC c i a l w e w' := by
  obtain ⟨A, k, h1, h2, h3, _, h4, h5⟩ := h
  exact ⟨A, k, h1, h2, h3, h4, h5⟩

theorem GivesC.q {c i : Int} {a : ByteArray} {l : List At} {w : World} {e : Ending} {w' : World} (h : GivesC c i a l w e w') : GivesQ c i a l w e w' := by
  obtain ⟨A, k, h1, _, _, h2, h3⟩ := h
  exact ⟨A, k, h1, h2, h3⟩

theorem row_two {W : World} {g m p : Nat} {Y : List Value} {t : TypeId} (hG : W.heap[g]? = some (.cells Y.toArray t (0, 0))) (hY : Y.length = m * 2) (hp : p < m) :
    ∃ y0 y1, W.cell? ⟨g, p * 2, none⟩ = some y0 ∧ W.cell? ⟨g, p * 2 + 1, none⟩ = some y1 ∧ W.frozen? ⟨g, p * 2, none⟩ = false ∧ W.frozen? ⟨g, p * 2 + 1, none⟩ = false := by
  refine ⟨Y[p * 2]'(by omega), Y[p * 2 + 1]'(by omega), ?_, ?_, ?_, ?_⟩
  · simp [World.cell?, hG]
  · simp [World.cell?, hG]
  · simp [World.frozen?, hG]
  · simp [World.frozen?, hG]

theorem put_ats {W : World} {g p m : Nat} {l L : List At} {Y : List Value} {t : TypeId} (hG : W.heap[g]? = some (.cells Y.toArray t (0, 0))) (hY : Y.length = m * 2) (hp : p < m) (hl : ∀ (j : Nat) (u : Value), (l.flatMap enc)[j]? = some u → Y[j]? = some u) (y : At)
    (hL : ∀ (j : Nat) (x : At), L[j]? = some x → (j = p ∧ x = y) ∨ (j ≠ p ∧ l[j]? = some x)) : Ats ((W.setCell ⟨g, p * 2, none⟩ (.int .i64 y.1)).setCell ⟨g, p * 2 + 1, none⟩ (.string y.2)) (some ⟨g, 0, none⟩) L := by
  obtain ⟨y0, y1, d0, d1, _, _⟩ := row_two hG hY hp
  have hc : ∀ j, W.cell? ⟨g, j, none⟩ = Y[j]? := fun j => by simp [World.cell?, hG]
  have hg : g < W.heap.size := (Array.getElem?_eq_some_iff.1 hG).1
  intro j x hj
  refine ⟨g, 0, rfl, by simpa using hg, ?_, ?_⟩
  · rw [Nat.zero_add]
    rcases hL j x hj with ⟨rfl, rfl⟩ | ⟨h1, h2⟩
    · rw [cell_set, if_neg (by omega), cell_set, if_pos ⟨rfl, rfl⟩, d0]; rfl
    · rw [cell_set, if_neg (by omega), cell_set, if_neg (by omega), hc, hl _ _ (enc_flat l j x h2).1]
  · rw [Nat.zero_add]
    rcases hL j x hj with ⟨rfl, rfl⟩ | ⟨h1, h2⟩
    · rw [cell_set, if_pos ⟨rfl, rfl⟩, cell_set, if_neg (by omega), d1]; rfl
    · rw [cell_set, if_neg (by omega), cell_set, if_neg (by omega), hc, hl _ _ (enc_flat l j x h2).2]

set_option maxRecDepth 20000 in
set_option maxHeartbeats 2000000 in
theorem put_core (c i : Int) (a : ByteArray) (A : Option Addr) (l : List At) (k p m : Nat) (kind : Int) (v : ByteArray) (w : World) (hA : Ats w A l) (_hl : l.length ≤ 1000) (hpm : p < m) (hnm : l.length ≤ m) (hm : m ≤ 1001) (hx : max (l.length : Int) (p + 1) = m) (L : List At) (hLm : L.length = m) (hL : ∀ (j : Nat) (x : At), L[j]? = some x → (j = p ∧ x = (kind, v)) ∨ (j ≠ p ∧ l[j]? = some x))
    (HF : Hid (∀ w, Ats w A l → Calls Tryd.prog 43 #[.slice A l.length k, .int .i64 kind] w fun e w' => e = .returned (.int .i64 p) ∧ Below w.heap.size w w')) :
    Calls Tryd.prog 21 #[pv c i a A l.length k, .int .i64 kind, .string v] w (GivesN c i a L w) := by
  obtain ⟨i0, hi, hz0, hz1, hz2⟩ := info_parts info_at
  have hsz : (Tryd.prog.info? 39).map (·.size) = some 2 := by rw [hi]; simp [hz1]
  have bel := Lib.hid (bel_box (box_below w (po c i a A l.length k)) (po 0 0 ⟨#[]⟩ none 0 0))
  have K := Lib.hid ((Fre.new w (pl c i a A l.length k) 24).keep (box_below _ (po 0 0 ⟨#[]⟩ none 0 0)))
  have R : Hid (Fre ((w.alloc (po c i a A l.length k)).alloc (po 0 0 ⟨#[]⟩ none 0 0)) (w.heap.size + 1) (pl 0 0 ⟨#[]⟩ none 0 0)) := Lib.hid (by
    have := Fre.new (w.alloc (po c i a A l.length k)) (pl 0 0 ⟨#[]⟩ none 0 0) 24
    rwa [show (w.alloc (po c i a A l.length k)).heap.size = w.heap.size + 1 by simp] at this)
  have A1 := Lib.hid (hA.below bel.out)
  clear hA
  go_enter Tryd.func21, Tryd.ntmps21
  go_wp2_with fail
  refine (HF.out _ A1.out).mono ?_; rintro e w1 ⟨rfl, hb1⟩
  have bel2 := Lib.hid (then_below bel.out hb1)
  have K2 := Lib.hid (K.out.keep hb1)
  have R2 := Lib.hid (R.out.keep hb1)
  have A2 := Lib.hid (A1.out.below hb1)
  clear hb1 bel K R A1
  obtain ⟨⟨c0, c1, c2, c3⟩, f0, f1, f2, f3⟩ := K2.out.all4
  have hs2 : w.heap.size + 1 < w1.heap.size := R2.out.2.1
  go_wp2_with (at_make; refine wpList_make_full _ rfl (.tmp 18) (.tmp 18) 22 rfl w1.heap.size 39 i0 (.agg #[.int .i64 0, .string ⟨#[]⟩]) 2 Tryd.underlying22 hi hz0 hz1 .i64 .i64 _ _ m rfl rfl ?h1 ?h2 ?h3 ?h4 (Nat.le_refl _) ?_)
  case h1 => first | rfl | exact hx
  case h2 => first | rfl | exact hx
  case h3 => rw [hz2]; omega
  case h4 => unfold maxLen; omega
  intro w2 hown hgrow
  obtain ⟨hG, hge, hZ⟩ := own_full hown
  have hb2 := (Below.refl w1.heap.size w1).grown hgrow (Nat.le_refl _) (by intro k hk; cases hk)
  have bel3 := Lib.hid (then_below bel2.out hb2)
  have K3 := Lib.hid (K2.out.keep hb2)
  have R3 := Lib.hid (R2.out.keep hb2)
  have A3 := Lib.hid (A2.out.below hb2)
  have hN := Lib.hid (fun b o (e : A = some ⟨b, o, none⟩) (h : 0 < l.length) => A2.out.at h)
  generalize (madeCells _ _).toList = Z at *
  clear hown hgrow hb2 hge c0 c1 c2 c3 f0 f1 f2 f3 K2 R2 A2 bel2
  generalize w1.heap.size = g at *
  obtain ⟨⟨c0, c1, c2, c3⟩, f0, f1, f2, f3⟩ := K3.out.all4
  go_wp2_with (with_reducible refine Cp.wpList_copy_two (o := ⟨some 23, _, _, _, _, _⟩) rfl (.tmp 20) (.tmp 22) 22 22 rfl 39 Tryd.underlying22 hsz (some ⟨g, 0, none⟩) A m m l.length k rfl rfl g 0 Z 39 hG (l.flatMap enc) l.length ?e1 ?e2 ?e3 ?e4 ?e5 w.heap.size w ?e6 ?e7 ?_)
  case e1 => exact (Nat.min_eq_left hnm).symm
  case e2 => exact enc_length l
  case e3 =>
    intro h
    obtain ⟨b, o, rfl, _⟩ := A3.out.at h
    first | exact ⟨_, rfl, enc_cells A3.out⟩ | exact ⟨rfl, _, rfl, enc_cells A3.out⟩
  case e4 => rw [enc_length, hZ]; omega
  case e5 => exact enc_one l
  case e6 => exact bel3.out
  case e7 => omega
  intro w3 HG3 HB3 HS3 HZ3
  have hY : ∀ j u, (l.flatMap enc)[j]? = some u → (splice Z 0 (l.flatMap enc))[j]? = some u := fun j u h => by
    have := (List.getElem?_eq_some_iff.1 h).1
    unfold splice
    rw [List.take_zero, List.nil_append, List.getElem?_append_left this, h]
  have hYl : (splice Z 0 (l.flatMap enc)).length = m * 2 := by rw [length_splice _ _ _ (by rw [enc_length, hZ]; omega), hZ]
  generalize splice Z 0 (l.flatMap enc) = Y at *
  have K4 := Lib.hid (K3.out.same (g := g) (by omega) HS3.out HZ3.out)
  have R4 := Lib.hid (R3.out.same (g := g) (by omega) HS3.out HZ3.out)
  clear hG hZ K3 R3 A3 bel3 HS3 HZ3 c0 c1 c2 c3 f0 f1 f2 f3 hN
  obtain ⟨⟨c0, c1, c2, c3⟩, f0, f1, f2, f3⟩ := K4.out.all4
  obtain ⟨⟨r0, r1, r2, r3⟩, s0, s1, s2, s3⟩ := R4.out.all4
  obtain ⟨y0, y1, d0, d1, t0, t1⟩ := row_two HG3.out hYl hpm
  have n1 : ¬ w.heap.size = g := by omega
  have n2 : ¬ w.heap.size + 1 = g := by omega
  have n3 : ¬ g = w.heap.size := by omega
  have n4 : ¬ g = w.heap.size + 1 := by omega
  have hpm' : (p : Int) < m := by omega
  have HATS := Lib.hid (fun (L : List At) hL => put_ats (L := L) HG3.out hYl hpm hY (kind, v) hL)
  have hle : w.heap.size ≤ g := by omega
  have n5 : w.heap.size + 1 ≠ w.heap.size := by omega
  have HB4 := Lib.hid ((((((((HB3.out.setCell (p := ⟨g, p * 2, none⟩) hle (.int .i64 kind)).setCell (p := ⟨g, p * 2 + 1, none⟩) hle (.string v)).setCell (p := ⟨w.heap.size, 3, none⟩) (Nat.le_refl _) (.slice (some ⟨g, 0, none⟩) m m)).setCell (p := ⟨w.heap.size + 1, 0, none⟩) (Nat.le_succ _) (.int .i64 c)).setCell (p := ⟨w.heap.size + 1, 1, none⟩) (Nat.le_succ _) (.int .i64 i)).setCell (p := ⟨w.heap.size + 1, 2, none⟩) (Nat.le_succ _) (.string a)).setCell (p := ⟨w.heap.size + 1, 3, none⟩) (Nat.le_succ _) (.slice (some ⟨g, 0, none⟩) m m)))
  have R5 := Lib.hid (((((R4.out.1.other (o := p * 2) (x := .int .i64 kind) n2).other (o := p * 2 + 1) (x := .string v) n2).other (o := 3) (x := .slice (some ⟨g, 0, none⟩) m m) n5).put4 (x0 := .int .i64 c) (x1 := .int .i64 i) (x2 := .string a) (x3 := .slice (some ⟨g, 0, none⟩) m m)).all4)
  clear HG3 hYl hY HB3 K4 R4
  go_wp2_with fail
  refine bodyPost_ret (v := pv c i a (some ⟨g, 0, none⟩) m m) ?_ rfl ?_
  · obtain ⟨d0, d1, d2, d3⟩ := R5.out
    simp [results, Tryd.results21, d0, d1, d2, d3, go_sem]
  · have hne : ∀ b o', (some ⟨g, 0, none⟩ : Option Addr) = some ⟨b, o', none⟩ → b ≠ w.heap.size := fun b o' e => by cases e; exact n3
    have hne2 : ∀ b o', (some ⟨g, 0, none⟩ : Option Addr) = some ⟨b, o', none⟩ → b ≠ w.heap.size + 1 := fun b o' e => by cases e; exact n4
    exact ⟨some ⟨g, 0, none⟩, m, by rw [hLm], by omega, (fun h => by cases h), (fun b o' e => by cases e; exact hle), ats_set (ats_set (ats_set (ats_set (ats_set (HATS.out L hL) hne) hne2) hne2) hne2) hne2, HB4.out⟩

theorem put_fresh (c i : Int) (a : ByteArray) (l : List At) (hl : l.length ≤ 1000) (A : Option Addr) (k : Nat) (kind : Int) (v : ByteArray) (w : World) (hA : Ats w A l) :
    Calls Tryd.prog 21 #[pv c i a A l.length k, .int .i64 kind, .string v] w (GivesN c i a (putA l kind v) w) := by
  have HF := Lib.hid (fun w hA => first_any l (Nat.le_trans hl (by decide)) kind A k w hA)
  have hp := posA_le l kind
  by_cases h : posA l kind < l.length
  · rw [put_pos, if_pos h]
    refine put_core c i a A l k (posA l kind) l.length kind v w hA hl h (Nat.le_refl _) (by omega) (by omega) _ (by simp) (fun j x hj => ?_) HF
    rw [List.getElem?_set] at hj
    split at hj
    · rename_i e
      exact .inl ⟨e.symm, (Option.some.inj hj).symm⟩
    · rename_i e
      exact .inr ⟨fun h => e h.symm, hj⟩
  · rw [put_pos, if_neg h]
    refine put_core c i a A l k (posA l kind) (l.length + 1) kind v w hA hl (by omega) (by omega) (by omega) (by omega) _ (by simp) (fun j x hj => ?_) HF
    rw [List.getElem?_append] at hj
    split at hj
    · exact .inr ⟨by omega, hj⟩
    · rw [List.getElem?_singleton] at hj
      split at hj
      · exact .inl ⟨by omega, (Option.some.inj hj).symm⟩
      · cases hj

theorem put_any (c i : Int) (a : ByteArray) (l : List At) (hl : l.length ≤ 1000) (A : Option Addr) (k : Nat) (kind : Int) (v : ByteArray) (w : World) (hA : Ats w A l) :
    Calls Tryd.prog 21 #[pv c i a A l.length k, .int .i64 kind, .string v] w (GivesC c i a (putA l kind v) w) :=
  (put_fresh c i a l hl A k kind v w hA).mono fun _ _ h => h.c

end Pac
end Go.Proofs.YtaeeonohakkgbaaDoor
