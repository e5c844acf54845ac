/-
  One step of the law: an address is learnt, a tick, ports are flushed, a port's VLAN is forgotten.
-/
import Derived.Test.YtmojegnflcokjaaDoorTabJ
namespace Go.Proofs.YtmojegnflcokjaaDoor
open Go.RowKit
namespace Tab
open Oct

/-- What happens: its kind, the VLAN, the address, the port, the set of ports. -/
structure Ev where
  k : Int
  v : Int
  m : Nat
  p : Int
  s : Int

def stepL (most long : Int) (l : List En) (o : Ev) : List En :=
  if o.k = 0 then learnL most l o.v o.m o.p else if o.k = 1 then tickL long l else if o.k = 2 then l.filter (flushE (Por.low o.s)) else l.filter (lackE o.p o.v)
def stepE (most : Int) (l : List En) (o : Ev) : Int := if o.k = 0 then learnE most l o.v o.m o.p else 0
def stepN (most long : Int) (l : List En) (o : Ev) : Int := if o.k = 0 then 0 else (l.length : Int) - (stepL most long l o).length

def GivesS (A0 : Option Addr) (l0 : List En) (most long : Int) (l : List En) (n c : Int) (w : World) (e : Ending) (w' : World) : Prop :=
  ∃ A k, e = .returned (.tuple #[tv most long A l.length k, .int .i64 n, .int .i64 c]) ∧ ((A = A0 ∧ l = l0) ∨ ∀ b o, A = some ⟨b, o, none⟩ → w.heap.size ≤ b) ∧ Ents w' A l ∧ Below w.heap.size w w'

abbrev opv (k v : Int) (m : Nat) (p s : Int) : Value := .agg #[.int .i64 k, .int .i64 v, .int .u64 m, .int .i64 p, .int .i64 s]
abbrev opo (k v : Int) (m : Nat) (p s : Int) : Obj := .cells #[.int .i64 k, .int .i64 v, .int .u64 m, .int .i64 p, .int .i64 s] 55

set_option maxRecDepth 20000 in
set_option maxHeartbeats 4000000 in
theorem step_learn (most long : Int) (l : List En) (A : Option Addr) (c : Nat) (v : Int) (m : Nat) (p s : Int) (w : World) (hA : Ents w A l) (L : List En) (num : Int)
    (HC : Hid (∀ w, Ents w A l → Calls Tryd.prog 41 #[tv most long A l.length c, .int .i64 v, .int .u64 m, .int .i64 p] w (GivesL A l most long L num w))) :
    Calls Tryd.prog 20 #[tv most long A l.length c, opv (0) v m p s] w (GivesS A l most long L (0) (num) w) := by
  have hAl := Lib.hid (fun b' o' (e : A = some ⟨b', o', none⟩) (h : 0 < l.length) => show b' < w.heap.size by
    obtain ⟨b, o, e2, hb, _⟩ := hA.at h
    rw [e] at e2
    cases e2
    exact hb)
  have bel := Lib.hid (Bx.bel_box (Bx.bel_box (Bx.box_below w (to most long A l.length c)) (opo (0) v m p s)) (to 0 0 none 0 0))
  have A1 := Lib.hid (hA.below bel.out)
  have K := Lib.hid (((Fre.new w [.int .i64 most, .int .i64 long, .slice A l.length c] 24).keep (Bx.box_below _ (opo (0) v m p s))).keep (Bx.box_below _ (to 0 0 none 0 0)))
  have O := Lib.hid ((Bx.Blk.new_at (W := w.alloc (to most long A l.length c)) (k := w.heap.size + 1) [.int .i64 (0), .int .i64 v, .int .u64 m, .int .i64 p, .int .i64 s] 55 (by simp)).keep (Bx.box_below _ (to 0 0 none 0 0)))
  have R : Hid (Fre (((w.alloc (to most long A l.length c)).alloc (opo (0) v m p s)).alloc (to 0 0 none 0 0)) (w.heap.size + 2) [.int .i64 0, .int .i64 0, .slice none 0 0]) := Lib.hid (by
    have := Fre.new ((w.alloc (to most long A l.length c)).alloc (opo (0) v m p s)) [.int .i64 0, .int .i64 0, .slice none 0 0] 24
    rwa [show ((w.alloc (to most long A l.length c)).alloc (opo (0) v m p s)).heap.size = w.heap.size + 2 by simp] at this)
  have hsz := Lib.hid (show (((w.alloc (to most long A l.length c)).alloc (opo (0) v m p s)).alloc (to 0 0 none 0 0)).heap.size = w.heap.size + 3 by simp)
  have hle2 : w.heap.size ≤ w.heap.size + 2 := Nat.le_add_right _ _
  obtain ⟨⟨k0, k1, k2⟩, _⟩ := K.out.all3
  obtain ⟨o0, o1, o2, o3, o4⟩ := O.out.all5
  clear hA
  go_enter Tryd.func20, Tryd.ntmps20
  go_wp2_with fail
  refine (HC.out _ A1.out).mono ?_; rintro e w1 ⟨B, cc, rfl, hB, hE, hb1⟩
  have bel2 := Lib.hid (Bx.then_below bel.out hb1)
  have K1 := Lib.hid (K.out.keep hb1)
  have R1 := Lib.hid (R.out.keep hb1)
  obtain ⟨⟨c0, c1, c2⟩, f0, f1, f2⟩ := K1.out.all3
  obtain ⟨⟨r0, r1, r2⟩, s0, s1, s2⟩ := R1.out.all3
  have n1 : w.heap.size + 2 ≠ w.heap.size := by omega
  have HB4 := Lib.hid ((((((bel2.out.setCell (p := ⟨w.heap.size, 0, none⟩) (Nat.le_refl _) (.int .i64 most)).setCell (p := ⟨w.heap.size, 1, none⟩) (Nat.le_refl _) (.int .i64 long)).setCell (p := ⟨w.heap.size, 2, none⟩) (Nat.le_refl _) (.slice B L.length cc)).setCell (p := ⟨w.heap.size + 2, 0, none⟩) hle2 (.int .i64 most)).setCell (p := ⟨w.heap.size + 2, 1, none⟩) hle2 (.int .i64 long)).setCell (p := ⟨w.heap.size + 2, 2, none⟩) hle2 (.slice B L.length cc))
  have R5 := Lib.hid ((((((R1.out.1).other (o := 0) (x := .int .i64 most) n1).other (o := 1) (x := .int .i64 long) n1).other (o := 2) (x := .slice B L.length cc) n1).put3 (x0 := .int .i64 most) (x1 := .int .i64 long) (x2 := .slice B L.length cc)).all3)
  have K5 := Lib.hid ((K1.out.1.put3 (x0 := .int .i64 most) (x1 := .int .i64 long) (x2 := .slice B L.length cc)).all3)
  have HS : Hid (∀ b' o', B = some ⟨b', o', none⟩ → 0 < L.length → b' ≠ w.heap.size ∧ b' ≠ w.heap.size + 2) := Lib.hid (fun b' o' e h => by
    rcases hB with ⟨rfl, rfl⟩ | hB
    · have := hAl.out b' o' e h
      omega
    · have := hB b' o' e
      rw [hsz.out] at this
      omega)
  have HE : Hid (Ents ((((((w1.setCell ⟨w.heap.size, 0, none⟩ (.int .i64 most)).setCell ⟨w.heap.size, 1, none⟩ (.int .i64 long)).setCell ⟨w.heap.size, 2, none⟩ (.slice B L.length cc)).setCell ⟨w.heap.size + 2, 0, none⟩ (.int .i64 most)).setCell ⟨w.heap.size + 2, 1, none⟩ (.int .i64 long)).setCell ⟨w.heap.size + 2, 2, none⟩ (.slice B L.length cc)) B L) := Lib.hid (by
    by_cases h0 : 0 < L.length
    · have hx : ∀ b' o', B = some ⟨b', o', none⟩ → b' ≠ w.heap.size := fun b' o' e => (HS.out b' o' e h0).1
      have hy : ∀ b' o', B = some ⟨b', o', none⟩ → b' ≠ w.heap.size + 2 := fun b' o' e => (HS.out b' o' e h0).2
      exact (((((hE.set hx).set hx).set hx).set hy).set hy).set hy
    · have : L = [] := List.eq_nil_of_length_eq_zero (by omega)
      rw [this]
      exact Ents.nil _ _)
  have HN : Hid ((B = A ∧ L = l) ∨ ∀ b o, B = some ⟨b, o, none⟩ → w.heap.size ≤ b) := Lib.hid (hB.imp id (fun h b o e => by have := h b o e; rw [hsz.out] at this; omega))
  clear hB hE hb1 HC bel A1 K R O hsz k0 k1 k2 K1 R1 bel2 HS hAl o0 o1 o2 o3 o4
  obtain ⟨u0, u1, u2⟩ := K5.out
  go_wp2_with fail
  refine bodyPost_ret (v := .tuple #[tv most long B L.length cc, .int .i64 (0), .int .i64 (num)]) ?_ rfl ?_
  · obtain ⟨d0, d1, d2⟩ := R5.out
    simp [results, Tryd.results20, d0, d1, d2, go_sem]
  · exact ⟨B, cc, rfl, HN.out, HE.out, HB4.out⟩

set_option maxRecDepth 20000 in
set_option maxHeartbeats 4000000 in
theorem step_tick (most long : Int) (l : List En) (A : Option Addr) (c : Nat) (v : Int) (m : Nat) (p s : Int) (w : World) (hA : Ents w A l) (L : List En) (num : Int)
    (HC : Hid (∀ w, Ents w A l → Calls Tryd.prog 52 #[tv most long A l.length c] w (GivesL A l most long L num w))) :
    Calls Tryd.prog 20 #[tv most long A l.length c, opv (1) v m p s] w (GivesS A l most long L (num) (0) w) := by
  have hAl := Lib.hid (fun b' o' (e : A = some ⟨b', o', none⟩) (h : 0 < l.length) => show b' < w.heap.size by
    obtain ⟨b, o, e2, hb, _⟩ := hA.at h
    rw [e] at e2
    cases e2
    exact hb)
  have bel := Lib.hid (Bx.bel_box (Bx.bel_box (Bx.box_below w (to most long A l.length c)) (opo (1) v m p s)) (to 0 0 none 0 0))
  have A1 := Lib.hid (hA.below bel.out)
  have K := Lib.hid (((Fre.new w [.int .i64 most, .int .i64 long, .slice A l.length c] 24).keep (Bx.box_below _ (opo (1) v m p s))).keep (Bx.box_below _ (to 0 0 none 0 0)))
  have O := Lib.hid ((Bx.Blk.new_at (W := w.alloc (to most long A l.length c)) (k := w.heap.size + 1) [.int .i64 (1), .int .i64 v, .int .u64 m, .int .i64 p, .int .i64 s] 55 (by simp)).keep (Bx.box_below _ (to 0 0 none 0 0)))
  have R : Hid (Fre (((w.alloc (to most long A l.length c)).alloc (opo (1) v m p s)).alloc (to 0 0 none 0 0)) (w.heap.size + 2) [.int .i64 0, .int .i64 0, .slice none 0 0]) := Lib.hid (by
    have := Fre.new ((w.alloc (to most long A l.length c)).alloc (opo (1) v m p s)) [.int .i64 0, .int .i64 0, .slice none 0 0] 24
    rwa [show ((w.alloc (to most long A l.length c)).alloc (opo (1) v m p s)).heap.size = w.heap.size + 2 by simp] at this)
  have hsz := Lib.hid (show (((w.alloc (to most long A l.length c)).alloc (opo (1) v m p s)).alloc (to 0 0 none 0 0)).heap.size = w.heap.size + 3 by simp)
  have hle2 : w.heap.size ≤ w.heap.size + 2 := Nat.le_add_right _ _
  obtain ⟨⟨k0, k1, k2⟩, _⟩ := K.out.all3
  obtain ⟨o0, o1, o2, o3, o4⟩ := O.out.all5
  clear hA
  go_enter Tryd.func20, Tryd.ntmps20
  go_wp2_with fail
  refine (HC.out _ A1.out).mono ?_; rintro e w1 ⟨B, cc, rfl, hB, hE, hb1⟩
  have bel2 := Lib.hid (Bx.then_below bel.out hb1)
  have K1 := Lib.hid (K.out.keep hb1)
  have R1 := Lib.hid (R.out.keep hb1)
  obtain ⟨⟨c0, c1, c2⟩, f0, f1, f2⟩ := K1.out.all3
  obtain ⟨⟨r0, r1, r2⟩, s0, s1, s2⟩ := R1.out.all3
  have n1 : w.heap.size + 2 ≠ w.heap.size := by omega
  have HB4 := Lib.hid ((((((bel2.out.setCell (p := ⟨w.heap.size, 0, none⟩) (Nat.le_refl _) (.int .i64 most)).setCell (p := ⟨w.heap.size, 1, none⟩) (Nat.le_refl _) (.int .i64 long)).setCell (p := ⟨w.heap.size, 2, none⟩) (Nat.le_refl _) (.slice B L.length cc)).setCell (p := ⟨w.heap.size + 2, 0, none⟩) hle2 (.int .i64 most)).setCell (p := ⟨w.heap.size + 2, 1, none⟩) hle2 (.int .i64 long)).setCell (p := ⟨w.heap.size + 2, 2, none⟩) hle2 (.slice B L.length cc))
  have R5 := Lib.hid ((((((R1.out.1).other (o := 0) (x := .int .i64 most) n1).other (o := 1) (x := .int .i64 long) n1).other (o := 2) (x := .slice B L.length cc) n1).put3 (x0 := .int .i64 most) (x1 := .int .i64 long) (x2 := .slice B L.length cc)).all3)
  have K5 := Lib.hid ((K1.out.1.put3 (x0 := .int .i64 most) (x1 := .int .i64 long) (x2 := .slice B L.length cc)).all3)
  have HS : Hid (∀ b' o', B = some ⟨b', o', none⟩ → 0 < L.length → b' ≠ w.heap.size ∧ b' ≠ w.heap.size + 2) := Lib.hid (fun b' o' e h => by
    rcases hB with ⟨rfl, rfl⟩ | hB
    · have := hAl.out b' o' e h
      omega
    · have := hB b' o' e
      rw [hsz.out] at this
      omega)
  have HE : Hid (Ents ((((((w1.setCell ⟨w.heap.size, 0, none⟩ (.int .i64 most)).setCell ⟨w.heap.size, 1, none⟩ (.int .i64 long)).setCell ⟨w.heap.size, 2, none⟩ (.slice B L.length cc)).setCell ⟨w.heap.size + 2, 0, none⟩ (.int .i64 most)).setCell ⟨w.heap.size + 2, 1, none⟩ (.int .i64 long)).setCell ⟨w.heap.size + 2, 2, none⟩ (.slice B L.length cc)) B L) := Lib.hid (by
    by_cases h0 : 0 < L.length
    · have hx : ∀ b' o', B = some ⟨b', o', none⟩ → b' ≠ w.heap.size := fun b' o' e => (HS.out b' o' e h0).1
      have hy : ∀ b' o', B = some ⟨b', o', none⟩ → b' ≠ w.heap.size + 2 := fun b' o' e => (HS.out b' o' e h0).2
      exact (((((hE.set hx).set hx).set hx).set hy).set hy).set hy
    · have : L = [] := List.eq_nil_of_length_eq_zero (by omega)
      rw [this]
      exact Ents.nil _ _)
  have HN : Hid ((B = A ∧ L = l) ∨ ∀ b o, B = some ⟨b, o, none⟩ → w.heap.size ≤ b) := Lib.hid (hB.imp id (fun h b o e => by have := h b o e; rw [hsz.out] at this; omega))
  clear hB hE hb1 HC bel A1 K R O hsz k0 k1 k2 K1 R1 bel2 HS hAl o0 o1 o2 o3 o4
  obtain ⟨u0, u1, u2⟩ := K5.out
  go_wp2_with fail
  refine bodyPost_ret (v := .tuple #[tv most long B L.length cc, .int .i64 (num), .int .i64 (0)]) ?_ rfl ?_
  · obtain ⟨d0, d1, d2⟩ := R5.out
    simp [results, Tryd.results20, d0, d1, d2, go_sem]
  · exact ⟨B, cc, rfl, HN.out, HE.out, HB4.out⟩

set_option maxRecDepth 20000 in
set_option maxHeartbeats 4000000 in
theorem step_flush (most long : Int) (l : List En) (A : Option Addr) (c : Nat) (v : Int) (m : Nat) (p s : Int) (w : World) (hA : Ents w A l) (L : List En) (num : Int)
    (HC : Hid (∀ w, Ents w A l → Calls Tryd.prog 53 #[tv most long A l.length c, .int .i64 s] w (GivesL A l most long L num w))) :
    Calls Tryd.prog 20 #[tv most long A l.length c, opv (2) v m p s] w (GivesS A l most long L (num) (0) w) := by
  have hAl := Lib.hid (fun b' o' (e : A = some ⟨b', o', none⟩) (h : 0 < l.length) => show b' < w.heap.size by
    obtain ⟨b, o, e2, hb, _⟩ := hA.at h
    rw [e] at e2
    cases e2
    exact hb)
  have bel := Lib.hid (Bx.bel_box (Bx.bel_box (Bx.box_below w (to most long A l.length c)) (opo (2) v m p s)) (to 0 0 none 0 0))
  have A1 := Lib.hid (hA.below bel.out)
  have K := Lib.hid (((Fre.new w [.int .i64 most, .int .i64 long, .slice A l.length c] 24).keep (Bx.box_below _ (opo (2) v m p s))).keep (Bx.box_below _ (to 0 0 none 0 0)))
  have O := Lib.hid ((Bx.Blk.new_at (W := w.alloc (to most long A l.length c)) (k := w.heap.size + 1) [.int .i64 (2), .int .i64 v, .int .u64 m, .int .i64 p, .int .i64 s] 55 (by simp)).keep (Bx.box_below _ (to 0 0 none 0 0)))
  have R : Hid (Fre (((w.alloc (to most long A l.length c)).alloc (opo (2) v m p s)).alloc (to 0 0 none 0 0)) (w.heap.size + 2) [.int .i64 0, .int .i64 0, .slice none 0 0]) := Lib.hid (by
    have := Fre.new ((w.alloc (to most long A l.length c)).alloc (opo (2) v m p s)) [.int .i64 0, .int .i64 0, .slice none 0 0] 24
    rwa [show ((w.alloc (to most long A l.length c)).alloc (opo (2) v m p s)).heap.size = w.heap.size + 2 by simp] at this)
  have hsz := Lib.hid (show (((w.alloc (to most long A l.length c)).alloc (opo (2) v m p s)).alloc (to 0 0 none 0 0)).heap.size = w.heap.size + 3 by simp)
  have hle2 : w.heap.size ≤ w.heap.size + 2 := Nat.le_add_right _ _
  obtain ⟨⟨k0, k1, k2⟩, _⟩ := K.out.all3
  obtain ⟨o0, o1, o2, o3, o4⟩ := O.out.all5
  clear hA
  go_enter Tryd.func20, Tryd.ntmps20
  go_wp2_with fail
  refine (HC.out _ A1.out).mono ?_; rintro e w1 ⟨B, cc, rfl, hB, hE, hb1⟩
  have bel2 := Lib.hid (Bx.then_below bel.out hb1)
  have K1 := Lib.hid (K.out.keep hb1)
  have R1 := Lib.hid (R.out.keep hb1)
  obtain ⟨⟨c0, c1, c2⟩, f0, f1, f2⟩ := K1.out.all3
  obtain ⟨⟨r0, r1, r2⟩, s0, s1, s2⟩ := R1.out.all3
  have n1 : w.heap.size + 2 ≠ w.heap.size := by omega
  have HB4 := Lib.hid ((((((bel2.out.setCell (p := ⟨w.heap.size, 0, none⟩) (Nat.le_refl _) (.int .i64 most)).setCell (p := ⟨w.heap.size, 1, none⟩) (Nat.le_refl _) (.int .i64 long)).setCell (p := ⟨w.heap.size, 2, none⟩) (Nat.le_refl _) (.slice B L.length cc)).setCell (p := ⟨w.heap.size + 2, 0, none⟩) hle2 (.int .i64 most)).setCell (p := ⟨w.heap.size + 2, 1, none⟩) hle2 (.int .i64 long)).setCell (p := ⟨w.heap.size + 2, 2, none⟩) hle2 (.slice B L.length cc))
  have R5 := Lib.hid ((((((R1.out.1).other (o := 0) (x := .int .i64 most) n1).other (o := 1) (x := .int .i64 long) n1).other (o := 2) (x := .slice B L.length cc) n1).put3 (x0 := .int .i64 most) (x1 := .int .i64 long) (x2 := .slice B L.length cc)).all3)
  have K5 := Lib.hid ((K1.out.1.put3 (x0 := .int .i64 most) (x1 := .int .i64 long) (x2 := .slice B L.length cc)).all3)
  have HS : Hid (∀ b' o', B = some ⟨b', o', none⟩ → 0 < L.length → b' ≠ w.heap.size ∧ b' ≠ w.heap.size + 2) := Lib.hid (fun b' o' e h => by
    rcases hB with ⟨rfl, rfl⟩ | hB
    · have := hAl.out b' o' e h
      omega
    · have := hB b' o' e
      rw [hsz.out] at this
      omega)
  have HE : Hid (Ents ((((((w1.setCell ⟨w.heap.size, 0, none⟩ (.int .i64 most)).setCell ⟨w.heap.size, 1, none⟩ (.int .i64 long)).setCell ⟨w.heap.size, 2, none⟩ (.slice B L.length cc)).setCell ⟨w.heap.size + 2, 0, none⟩ (.int .i64 most)).setCell ⟨w.heap.size + 2, 1, none⟩ (.int .i64 long)).setCell ⟨w.heap.size + 2, 2, none⟩ (.slice B L.length cc)) B L) := Lib.hid (by
    by_cases h0 : 0 < L.length
    · have hx : ∀ b' o', B = some ⟨b', o', none⟩ → b' ≠ w.heap.size := fun b' o' e => (HS.out b' o' e h0).1
      have hy : ∀ b' o', B = some ⟨b', o', none⟩ → b' ≠ w.heap.size + 2 := fun b' o' e => (HS.out b' o' e h0).2
      exact (((((hE.set hx).set hx).set hx).set hy).set hy).set hy
    · have : L = [] := List.eq_nil_of_length_eq_zero (by omega)
      rw [this]
      exact Ents.nil _ _)
  have HN : Hid ((B = A ∧ L = l) ∨ ∀ b o, B = some ⟨b, o, none⟩ → w.heap.size ≤ b) := Lib.hid (hB.imp id (fun h b o e => by have := h b o e; rw [hsz.out] at this; omega))
  clear hB hE hb1 HC bel A1 K R O hsz k0 k1 k2 K1 R1 bel2 HS hAl o0 o1 o2 o3 o4
  obtain ⟨u0, u1, u2⟩ := K5.out
  go_wp2_with fail
  refine bodyPost_ret (v := .tuple #[tv most long B L.length cc, .int .i64 (num), .int .i64 (0)]) ?_ rfl ?_
  · obtain ⟨d0, d1, d2⟩ := R5.out
    simp [results, Tryd.results20, d0, d1, d2, go_sem]
  · exact ⟨B, cc, rfl, HN.out, HE.out, HB4.out⟩

set_option maxRecDepth 20000 in
set_option maxHeartbeats 4000000 in
theorem step_forget (most long : Int) (l : List En) (A : Option Addr) (c : Nat) (k : Int) (g0 : (k == 0) = false) (g1 : (k == 1) = false) (g2 : (k == 2) = false) (v : Int) (m : Nat) (p s : Int) (w : World) (hA : Ents w A l) (L : List En) (num : Int)
    (HC : Hid (∀ w, Ents w A l → Calls Tryd.prog 54 #[tv most long A l.length c, .int .i64 p, .int .i64 v] w (GivesL A l most long L num w))) :
    Calls Tryd.prog 20 #[tv most long A l.length c, opv (k) v m p s] w (GivesS A l most long L (num) (0) w) := by
  have hAl := Lib.hid (fun b' o' (e : A = some ⟨b', o', none⟩) (h : 0 < l.length) => show b' < w.heap.size by
    obtain ⟨b, o, e2, hb, _⟩ := hA.at h
    rw [e] at e2
    cases e2
    exact hb)
  have bel := Lib.hid (Bx.bel_box (Bx.bel_box (Bx.box_below w (to most long A l.length c)) (opo (k) v m p s)) (to 0 0 none 0 0))
  have A1 := Lib.hid (hA.below bel.out)
  have K := Lib.hid (((Fre.new w [.int .i64 most, .int .i64 long, .slice A l.length c] 24).keep (Bx.box_below _ (opo (k) v m p s))).keep (Bx.box_below _ (to 0 0 none 0 0)))
  have O := Lib.hid ((Bx.Blk.new_at (W := w.alloc (to most long A l.length c)) (k := w.heap.size + 1) [.int .i64 (k), .int .i64 v, .int .u64 m, .int .i64 p, .int .i64 s] 55 (by simp)).keep (Bx.box_below _ (to 0 0 none 0 0)))
  have R : Hid (Fre (((w.alloc (to most long A l.length c)).alloc (opo (k) v m p s)).alloc (to 0 0 none 0 0)) (w.heap.size + 2) [.int .i64 0, .int .i64 0, .slice none 0 0]) := Lib.hid (by
    have := Fre.new ((w.alloc (to most long A l.length c)).alloc (opo (k) v m p s)) [.int .i64 0, .int .i64 0, .slice none 0 0] 24
    rwa [show ((w.alloc (to most long A l.length c)).alloc (opo (k) v m p s)).heap.size = w.heap.size + 2 by simp] at this)
  have hsz := Lib.hid (show (((w.alloc (to most long A l.length c)).alloc (opo (k) v m p s)).alloc (to 0 0 none 0 0)).heap.size = w.heap.size + 3 by simp)
  have hle2 : w.heap.size ≤ w.heap.size + 2 := Nat.le_add_right _ _
  obtain ⟨⟨k0, k1, k2⟩, _⟩ := K.out.all3
  obtain ⟨o0, o1, o2, o3, o4⟩ := O.out.all5
  clear hA
  go_enter Tryd.func20, Tryd.ntmps20
  go_wp2_with fail
  refine (HC.out _ A1.out).mono ?_; rintro e w1 ⟨B, cc, rfl, hB, hE, hb1⟩
  have bel2 := Lib.hid (Bx.then_below bel.out hb1)
  have K1 := Lib.hid (K.out.keep hb1)
  have R1 := Lib.hid (R.out.keep hb1)
  obtain ⟨⟨c0, c1, c2⟩, f0, f1, f2⟩ := K1.out.all3
  obtain ⟨⟨r0, r1, r2⟩, s0, s1, s2⟩ := R1.out.all3
  have n1 : w.heap.size + 2 ≠ w.heap.size := by omega
  have HB4 := Lib.hid ((((((bel2.out.setCell (p := ⟨w.heap.size, 0, none⟩) (Nat.le_refl _) (.int .i64 most)).setCell (p := ⟨w.heap.size, 1, none⟩) (Nat.le_refl _) (.int .i64 long)).setCell (p := ⟨w.heap.size, 2, none⟩) (Nat.le_refl _) (.slice B L.length cc)).setCell (p := ⟨w.heap.size + 2, 0, none⟩) hle2 (.int .i64 most)).setCell (p := ⟨w.heap.size + 2, 1, none⟩) hle2 (.int .i64 long)).setCell (p := ⟨w.heap.size + 2, 2, none⟩) hle2 (.slice B L.length cc))
  have R5 := Lib.hid ((((((R1.out.1).other (o := 0) (x := .int .i64 most) n1).other (o := 1) (x := .int .i64 long) n1).other (o := 2) (x := .slice B L.length cc) n1).put3 (x0 := .int .i64 most) (x1 := .int .i64 long) (x2 := .slice B L.length cc)).all3)
  have K5 := Lib.hid ((K1.out.1.put3 (x0 := .int .i64 most) (x1 := .int .i64 long) (x2 := .slice B L.length cc)).all3)
  have HS : Hid (∀ b' o', B = some ⟨b', o', none⟩ → 0 < L.length → b' ≠ w.heap.size ∧ b' ≠ w.heap.size + 2) := Lib.hid (fun b' o' e h => by
    rcases hB with ⟨rfl, rfl⟩ | hB
    · have := hAl.out b' o' e h
      omega
    · have := hB b' o' e
      rw [hsz.out] at this
      omega)
  have HE : Hid (Ents ((((((w1.setCell ⟨w.heap.size, 0, none⟩ (.int .i64 most)).setCell ⟨w.heap.size, 1, none⟩ (.int .i64 long)).setCell ⟨w.heap.size, 2, none⟩ (.slice B L.length cc)).setCell ⟨w.heap.size + 2, 0, none⟩ (.int .i64 most)).setCell ⟨w.heap.size + 2, 1, none⟩ (.int .i64 long)).setCell ⟨w.heap.size + 2, 2, none⟩ (.slice B L.length cc)) B L) := Lib.hid (by
    by_cases h0 : 0 < L.length
    · have hx : ∀ b' o', B = some ⟨b', o', none⟩ → b' ≠ w.heap.size := fun b' o' e => (HS.out b' o' e h0).1
      have hy : ∀ b' o', B = some ⟨b', o', none⟩ → b' ≠ w.heap.size + 2 := fun b' o' e => (HS.out b' o' e h0).2
      exact (((((hE.set hx).set hx).set hx).set hy).set hy).set hy
    · have : L = [] := List.eq_nil_of_length_eq_zero (by omega)
      rw [this]
      exact Ents.nil _ _)
  have HN : Hid ((B = A ∧ L = l) ∨ ∀ b o, B = some ⟨b, o, none⟩ → w.heap.size ≤ b) := Lib.hid (hB.imp id (fun h b o e => by have := h b o e; rw [hsz.out] at this; omega))
  clear hB hE hb1 HC bel A1 K R O hsz k0 k1 k2 K1 R1 bel2 HS hAl o0 o1 o2 o3 o4
  obtain ⟨u0, u1, u2⟩ := K5.out
  go_wp2_with fail
  refine bodyPost_ret (v := .tuple #[tv most long B L.length cc, .int .i64 (num), .int .i64 (0)]) ?_ rfl ?_
  · obtain ⟨d0, d1, d2⟩ := R5.out
    simp [results, Tryd.results20, d0, d1, d2, go_sem]
  · exact ⟨B, cc, rfl, HN.out, HE.out, HB4.out⟩

theorem step_any (most long : Int) (hL : long ≤ 9223372036854775807) (l : List En) (hl : l.length ≤ 100000) (hla : ∀ e ∈ l, -9223372036854775808 ≤ e.a) (A : Option Addr) (c : Nat) (o : Ev) (hm : o.m < 18446744073709551616) (w : World) (hA : Ents w A l) :
    Calls Tryd.prog 20 #[tv most long A l.length c, opv o.k o.v o.m o.p o.s] w (GivesS A l most long (stepL most long l o) (stepN most long l o) (stepE most l o) w) := by
  obtain ⟨k, v, m, p, s⟩ := o
  unfold stepN stepE
  simp only at hm ⊢
  by_cases h0 : k = 0
  · subst h0
    rw [if_pos rfl, if_pos rfl, show stepL most long l ⟨0, v, m, p, s⟩ = learnL most l v m p from if_pos rfl]
    exact step_learn most long l A c v m p s w hA _ _ (Lib.hid (fun w hA => learn_any most long l hl A c v m hm p w hA))
  · rw [if_neg h0, if_neg h0]
    by_cases h1 : k = 1
    · subst h1
      rw [show stepL most long l ⟨1, v, m, p, s⟩ = tickL long l by unfold stepL; rw [if_neg h0, if_pos rfl]]
      exact step_tick most long l A c v m p s w hA _ _ (Lib.hid (fun w hA => (tick_any most long hL l hl hla A c w hA).mono (fun _ _ h => h.l A l)))
    · by_cases h2 : k = 2
      · subst h2
        rw [show stepL most long l ⟨2, v, m, p, s⟩ = l.filter (flushE (Por.low s)) by unfold stepL; rw [if_neg h0, if_neg h1, if_pos rfl]]
        exact step_flush most long l A c v m p s w hA _ _ (Lib.hid (fun w hA => (flush_any most long l hl A c s w hA).mono (fun _ _ h => h.l A l)))
      · rw [show stepL most long l ⟨k, v, m, p, s⟩ = l.filter (lackE p v) by unfold stepL; rw [if_neg h0, if_neg h1, if_neg h2]]
        exact step_forget most long l A c k (by simpa using h0) (by simpa using h1) (by simpa using h2) v m p s w hA _ _ (Lib.hid (fun w hA => (forget_any most long l hl A c p v w hA).mono (fun _ _ h => h.l A l)))

end Tab
end Go.Proofs.YtmojegnflcokjaaDoor
