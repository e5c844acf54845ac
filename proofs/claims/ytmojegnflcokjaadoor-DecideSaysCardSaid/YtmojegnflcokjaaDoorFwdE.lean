/-
  What decide.Learns and the document's own answer of any table, and any frame.
-/
import Derived.Test.YtmojegnflcokjaaDoorFwdC
import Derived.Test.YtmojegnflcokjaaDoorPkMemW
import Derived.Test.YtmojegnflcokjaaDoorPkOctAwake
namespace Go.Proofs.YtmojegnflcokjaaDoor
open Go.RowKit
namespace Fwd
open Oct Eth Tab

/-- A table handed back, its entries new or those that came. -/
def GivesT (A0 : Option Addr) (l0 : List Tab.En) (most long : Int) (l : List Tab.En) (w : World) (e : Ending) (w' : World) : Prop :=
  ∃ A k, e = .returned (tv most long A l.length k) ∧ ((A = A0 ∧ l = l0) ∨ ∀ b o, A = some ⟨b, o, none⟩ → w.heap.size ≤ b) ∧ Tab.Ents w' A l ∧ Below w.heap.size w w'

set_option maxRecDepth 40000 in
set_option maxHeartbeats 4000000 in
theorem learns_no (most long : Int) (l : List Tab.En) (A : Option Addr) (c : Nat) (d s : Int) (g : Bool) (p vv t : Int) (b : ByteArray) (v q ln : Int) (w : World) (hA : Tab.Ents w A l) (hh : Por.hasZ (Por.low ln) q = false) :
    Calls Tryd.prog 14 #[tv most long A l.length c, fr d s g p vv t b, .int .i64 v, .int .i64 q, .int .i64 ln] w (GivesT A l most long l w) := by
  have HH := Lib.hid (fun w => Por.has_any ln q w)
  rw [hh] at HH
  have HB4 := Lib.hid (Bx.bel_box (Bx.bel_box (Bx.box_below w (to most long A l.length c)) (Mem.fo d s g p vv t b)) (to most long A l.length c))
  have HE := Lib.hid (hA.below HB4.out)
  have K := Lib.hid (((Tab.Fre.new w [.int .i64 most, .int .i64 long, .slice A l.length c] 24).keep (Bx.box_below _ (Mem.fo d s g p vv t b))).keep (Bx.box_below _ (to 0 0 none 0 0)))
  have R5 := (Lib.hid (Bx.Blk.new_at (W := (w.alloc (to most long A l.length c)).alloc (Mem.fo d s g p vv t b)) (k := w.heap.size + 2) [.int .i64 most, .int .i64 long, .slice A l.length c] 24 (by simp)).all3)
  obtain ⟨⟨k0, k1, k2⟩, _⟩ := K.out.all3
  clear hA K hh
  go_enter Tryd.func14, Tryd.ntmps14
  go_wp2_with fail
  refine (HH.out _).mono ?_; rintro e w' ⟨rfl, rfl⟩
  go_wp2_with fail
  refine bodyPost_ret (v := tv most long A l.length c) ?_ rfl ?_
  · obtain ⟨d0, d1, d2⟩ := R5.out
    simp [results, Tryd.results14, d0, d1, d2, go_sem]
  · exact ⟨A, c, rfl, .inl ⟨rfl, rfl⟩, HE.out, HB4.out⟩

set_option maxRecDepth 40000 in
set_option maxHeartbeats 4000000 in
theorem learns_yes (most long : Int) (l : List Tab.En) (A : Option Addr) (c : Nat) (d : Int) (s : Nat) (g : Bool) (p vv t : Int) (b : ByteArray) (v q ln : Int) (w : World) (hA : Tab.Ents w A l) (hh : Por.hasZ (Por.low ln) q = true) (L : List Tab.En) (num : Int) 
    (HC : Hid (∀ w, Tab.Ents w A l → Calls Tryd.prog 41 #[tv most long A l.length c, .int .i64 v, .int .u64 s, .int .i64 q] w (Tab.GivesL A l most long L num w))) :
    Calls Tryd.prog 14 #[tv most long A l.length c, fr d s g p vv t b, .int .i64 v, .int .i64 q, .int .i64 ln] w (GivesT A l most long L w) := by
  have HH := Lib.hid (fun w => Por.has_any ln q w)
  rw [hh] at HH
  have bel := Lib.hid (Bx.bel_box (Bx.bel_box (Bx.box_below w (to most long A l.length c)) (Mem.fo d s g p vv t b)) (to 0 0 none 0 0))
  have A1 := Lib.hid (hA.below bel.out)
  have K := Lib.hid (((Tab.Fre.new w [.int .i64 most, .int .i64 long, .slice A l.length c] 24).keep (Bx.box_below _ (Mem.fo d s g p vv t b))).keep (Bx.box_below _ (to 0 0 none 0 0)))
  have O := Lib.hid ((Bx.Blk.new_at (W := w.alloc (to most long A l.length c)) (k := w.heap.size + 1) (Mem.fc d s g p vv t b) 32 (by simp)).keep (Bx.box_below _ (to 0 0 none 0 0)))
  have R : Hid (Tab.Fre (((w.alloc (to most long A l.length c)).alloc (Mem.fo d s g p vv t b)).alloc (to 0 0 none 0 0)) (w.heap.size + 2) [.int .i64 0, .int .i64 0, .slice none 0 0]) := Lib.hid (by
    have := Tab.Fre.new ((w.alloc (to most long A l.length c)).alloc (Mem.fo d s g p vv t b)) [.int .i64 0, .int .i64 0, .slice none 0 0] 24
    rwa [show ((w.alloc (to most long A l.length c)).alloc (Mem.fo d s g p vv t b)).heap.size = w.heap.size + 2 by simp] at this)
  have hsz := Lib.hid (show (((w.alloc (to most long A l.length c)).alloc (Mem.fo d s g p vv t b)).alloc (to 0 0 none 0 0)).heap.size = w.heap.size + 3 by simp)
  have hle2 : w.heap.size ≤ w.heap.size + 2 := Nat.le_add_right _ _
  have HAL := Lib.hid (fun b' o' (e : A = some ⟨b', o', none⟩) (h : 0 < l.length) => show b' < w.heap.size by
    obtain ⟨b, o, e2, hb, _⟩ := hA.at h
    rw [e] at e2
    cases e2
    exact hb)
  obtain ⟨⟨k0, k1, k2⟩, _⟩ := K.out.all3
  obtain ⟨o0, o1, o2, o3, o4, o5, o6⟩ := O.out.all7
  clear hh
  go_enter Tryd.func14, Tryd.ntmps14
  go_wp2_with fail
  refine (HH.out _).mono ?_; rintro e w' ⟨rfl, rfl⟩
  go_wp2_with fail
  refine (HC.out _ A1.out).mono ?_; rintro e w1 ⟨B, cc, rfl, hB, hE, hb1⟩
  have hb2 := Bx.bel_box hb1 (to most long B L.length cc)
  have T := Lib.hid ((Bx.Blk.new w1 [.int .i64 most, .int .i64 long, .slice B L.length cc] 24).all3)
  replace hE := hE.below (Bx.box_below w1 (to most long B L.length cc))
  have HW : Hid (w1.alloc (to most long B L.length cc) = w1.alloc (to most long B L.length cc)) := Lib.hid rfl
  have bel2 := Lib.hid (Bx.then_below bel.out hb2)
  have K1 := Lib.hid (K.out.keep hb2)
  have R1 := Lib.hid (R.out.keep hb2)
  have HEA := Lib.hid (A1.out.below hb2)
  have hb3 := Lib.hid hb2.size
  clear k0 k1 k2 o0 o1 o2 o3 o4 o5 o6
  have HB4 := Lib.hid (((bel2.out.setCell (p := ⟨w.heap.size + 2, 0, none⟩) hle2 (.int .i64 most)).setCell (p := ⟨w.heap.size + 2, 1, none⟩) hle2 (.int .i64 long)).setCell (p := ⟨w.heap.size + 2, 2, none⟩) hle2 (.slice B L.length cc))
  have R5 := Lib.hid (R1.out.1.put3 (x0 := .int .i64 most) (x1 := .int .i64 long) (x2 := .slice B L.length cc)).all3
  have HS : Hid (∀ b' o', B = some ⟨b', o', none⟩ → 0 < L.length → b' ≠ w.heap.size + 2) := Lib.hid (fun b' o' e h => by
    rcases hB with ⟨rfl, rfl⟩ | hB
    · have := HAL.out b' o' e h
      omega
    · have := hB b' o' e
      rw [hsz.out] at this
      omega)
  have HE : Hid (Tab.Ents ((((w1.alloc (to most long B L.length cc)).setCell ⟨w.heap.size + 2, 0, none⟩ (.int .i64 most)).setCell ⟨w.heap.size + 2, 1, none⟩ (.int .i64 long)).setCell ⟨w.heap.size + 2, 2, none⟩ (.slice B L.length cc)) B L) := Lib.hid (by
    by_cases h0 : 0 < L.length
    · have hx : ∀ b' o', B = some ⟨b', o', none⟩ → b' ≠ w.heap.size + 2 := fun b' o' e => HS.out b' o' e h0
      exact ((hE.set hx).set hx).set hx
    · have : L = [] := List.eq_nil_of_length_eq_zero (by omega)
      rw [this]
      exact Tab.Ents.nil _ _)
  have HN : Hid ((B = A ∧ L = l) ∨ ∀ b o, B = some ⟨b, o, none⟩ → w.heap.size ≤ b) := Lib.hid (hB.imp id (fun h b o e => by have := h b o e; rw [hsz.out] at this; omega))
  clear hB hE hb2 HC bel A1 K R O hsz K1 bel2 HS HAL HEA
  obtain ⟨t0, t1, t2⟩ := T.out
  obtain ⟨⟨r0, r1, r2⟩, s0, s1, s2⟩ := R1.out.all3
  clear R1 T
  go_wp2_with fail
  refine bodyPost_ret (v := tv most long B L.length cc) ?_ rfl ?_
  · obtain ⟨d0, d1, d2⟩ := R5.out
    simp [results, Tryd.results14, d0, d1, d2, go_sem]
  · exact ⟨B, cc, rfl, HN.out, HE.out, HB4.out⟩

set_option maxRecDepth 40000 in
set_option maxHeartbeats 4000000 in
theorem rlearns_no (most long : Int) (l : List Tab.En) (A : Option Addr) (c : Nat) (d s : Int) (g : Bool) (p vv t : Int) (b : ByteArray) (v q ln : Int) (w : World) (hA : Tab.Ents w A l) (hh : Por.hasZ (Por.low ln) q = false) :
    Calls Tryd.prog 15 #[tv most long A l.length c, fr d s g p vv t b, .int .i64 v, .int .i64 q, .int .i64 ln] w (GivesT A l most long l w) := by
  have HH := Lib.hid (fun w => Por.rhas_any ln q w)
  rw [hh] at HH
  have HB4 := Lib.hid (Bx.bel_box (Bx.bel_box (Bx.box_below w (to most long A l.length c)) (Mem.fo d s g p vv t b)) (to most long A l.length c))
  have HE := Lib.hid (hA.below HB4.out)
  have K := Lib.hid (((Tab.Fre.new w [.int .i64 most, .int .i64 long, .slice A l.length c] 24).keep (Bx.box_below _ (Mem.fo d s g p vv t b))).keep (Bx.box_below _ (to 0 0 none 0 0)))
  have R5 := (Lib.hid (Bx.Blk.new_at (W := (w.alloc (to most long A l.length c)).alloc (Mem.fo d s g p vv t b)) (k := w.heap.size + 2) [.int .i64 most, .int .i64 long, .slice A l.length c] 24 (by simp)).all3)
  obtain ⟨⟨k0, k1, k2⟩, _⟩ := K.out.all3
  clear hA K hh
  go_enter Tryd.func15, Tryd.ntmps15
  go_wp2_with fail
  refine (HH.out _).mono ?_; rintro e w' ⟨rfl, rfl⟩
  go_wp2_with fail
  refine bodyPost_ret (v := tv most long A l.length c) ?_ rfl ?_
  · obtain ⟨d0, d1, d2⟩ := R5.out
    simp [results, Tryd.results15, d0, d1, d2, go_sem]
  · exact ⟨A, c, rfl, .inl ⟨rfl, rfl⟩, HE.out, HB4.out⟩

set_option maxRecDepth 40000 in
set_option maxHeartbeats 4000000 in
theorem rlearns_yes (most long : Int) (l : List Tab.En) (A : Option Addr) (c : Nat) (d : Int) (s : Nat) (g : Bool) (p vv t : Int) (b : ByteArray) (v q ln : Int) (w : World) (hA : Tab.Ents w A l) (hh : Por.hasZ (Por.low ln) q = true) (L : List Tab.En) (num : Int) (hnum : ¬ num = 0 → L = l) 
    (HC : Hid (∀ w, Tab.Ents w A l → Calls Tryd.prog 43 #[tv most long A l.length c, .int .i64 v, .int .u64 s, .int .i64 q] w (Tab.GivesL A l most long L num w))) :
    Calls Tryd.prog 15 #[tv most long A l.length c, fr d s g p vv t b, .int .i64 v, .int .i64 q, .int .i64 ln] w (GivesT A l most long L w) := by
  have HH := Lib.hid (fun w => Por.rhas_any ln q w)
  rw [hh] at HH
  have bel := Lib.hid (Bx.bel_box (Bx.bel_box (Bx.box_below w (to most long A l.length c)) (Mem.fo d s g p vv t b)) (to 0 0 none 0 0))
  have A1 := Lib.hid (hA.below bel.out)
  have K := Lib.hid (((Tab.Fre.new w [.int .i64 most, .int .i64 long, .slice A l.length c] 24).keep (Bx.box_below _ (Mem.fo d s g p vv t b))).keep (Bx.box_below _ (to 0 0 none 0 0)))
  have O := Lib.hid ((Bx.Blk.new_at (W := w.alloc (to most long A l.length c)) (k := w.heap.size + 1) (Mem.fc d s g p vv t b) 32 (by simp)).keep (Bx.box_below _ (to 0 0 none 0 0)))
  have R : Hid (Tab.Fre (((w.alloc (to most long A l.length c)).alloc (Mem.fo d s g p vv t b)).alloc (to 0 0 none 0 0)) (w.heap.size + 2) [.int .i64 0, .int .i64 0, .slice none 0 0]) := Lib.hid (by
    have := Tab.Fre.new ((w.alloc (to most long A l.length c)).alloc (Mem.fo d s g p vv t b)) [.int .i64 0, .int .i64 0, .slice none 0 0] 24
    rwa [show ((w.alloc (to most long A l.length c)).alloc (Mem.fo d s g p vv t b)).heap.size = w.heap.size + 2 by simp] at this)
  have hsz := Lib.hid (show (((w.alloc (to most long A l.length c)).alloc (Mem.fo d s g p vv t b)).alloc (to 0 0 none 0 0)).heap.size = w.heap.size + 3 by simp)
  have hle2 : w.heap.size ≤ w.heap.size + 2 := Nat.le_add_right _ _
  have HAL := Lib.hid (fun b' o' (e : A = some ⟨b', o', none⟩) (h : 0 < l.length) => show b' < w.heap.size by
    obtain ⟨b, o, e2, hb, _⟩ := hA.at h
    rw [e] at e2
    cases e2
    exact hb)
  obtain ⟨⟨k0, k1, k2⟩, _⟩ := K.out.all3
  obtain ⟨o0, o1, o2, o3, o4, o5, o6⟩ := O.out.all7
  clear hh
  have hN := Lib.hid hnum
  clear hnum
  go_enter Tryd.func15, Tryd.ntmps15
  go_wp2_with fail
  refine (HH.out _).mono ?_; rintro e w' ⟨rfl, rfl⟩
  go_wp2_with fail
  refine (HC.out _ A1.out).mono ?_; rintro e w1 ⟨B, cc, rfl, hB, hE, hb1⟩
  have hb2 := Bx.bel_box hb1 (to most long B L.length cc)
  have T := Lib.hid ((Bx.Blk.new w1 [.int .i64 most, .int .i64 long, .slice B L.length cc] 24).all3)
  replace hE := hE.below (Bx.box_below w1 (to most long B L.length cc))
  have HW : Hid (w1.alloc (to most long B L.length cc) = w1.alloc (to most long B L.length cc)) := Lib.hid rfl
  have bel2 := Lib.hid (Bx.then_below bel.out hb2)
  have K1 := Lib.hid (K.out.keep hb2)
  have R1 := Lib.hid (R.out.keep hb2)
  have HEA := Lib.hid (A1.out.below hb2)
  have hb3 := Lib.hid hb2.size
  clear k0 k1 k2 o0 o1 o2 o3 o4 o5 o6
  by_cases hz : num = 0
  · subst hz
    have HB4 := Lib.hid (((bel2.out.setCell (p := ⟨w.heap.size + 2, 0, none⟩) hle2 (.int .i64 most)).setCell (p := ⟨w.heap.size + 2, 1, none⟩) hle2 (.int .i64 long)).setCell (p := ⟨w.heap.size + 2, 2, none⟩) hle2 (.slice B L.length cc))
    have R5 := Lib.hid (R1.out.1.put3 (x0 := .int .i64 most) (x1 := .int .i64 long) (x2 := .slice B L.length cc)).all3
    have HS : Hid (∀ b' o', B = some ⟨b', o', none⟩ → 0 < L.length → b' ≠ w.heap.size + 2) := Lib.hid (fun b' o' e h => by
      rcases hB with ⟨rfl, rfl⟩ | hB
      · have := HAL.out b' o' e h
        omega
      · have := hB b' o' e
        rw [hsz.out] at this
        omega)
    have HE : Hid (Tab.Ents ((((w1.alloc (to most long B L.length cc)).setCell ⟨w.heap.size + 2, 0, none⟩ (.int .i64 most)).setCell ⟨w.heap.size + 2, 1, none⟩ (.int .i64 long)).setCell ⟨w.heap.size + 2, 2, none⟩ (.slice B L.length cc)) B L) := Lib.hid (by
      by_cases h0 : 0 < L.length
      · have hx : ∀ b' o', B = some ⟨b', o', none⟩ → b' ≠ w.heap.size + 2 := fun b' o' e => HS.out b' o' e h0
        exact ((hE.set hx).set hx).set hx
      · have : L = [] := List.eq_nil_of_length_eq_zero (by omega)
        rw [this]
        exact Tab.Ents.nil _ _)
    have HN : Hid ((B = A ∧ L = l) ∨ ∀ b o, B = some ⟨b, o, none⟩ → w.heap.size ≤ b) := Lib.hid (hB.imp id (fun h b o e => by have := h b o e; rw [hsz.out] at this; omega))
    clear hB hE hb2 HC bel A1 K R O hsz K1 bel2 HS HAL HEA
    obtain ⟨t0, t1, t2⟩ := T.out
    obtain ⟨⟨r0, r1, r2⟩, s0, s1, s2⟩ := R1.out.all3
    clear R1 T
    go_wp2_with fail
    refine bodyPost_ret (v := tv most long B L.length cc) ?_ rfl ?_
    · obtain ⟨d0, d1, d2⟩ := R5.out
      simp [results, Tryd.results15, d0, d1, d2, go_sem]
    · exact ⟨B, cc, rfl, HN.out, HE.out, HB4.out⟩
  · have hz1 : (num == 0) = false := by simpa using hz
    have hz2 : (num != 0) = true := by simpa using hz
    have hLl : l = L := (hN.out hz).symm
    subst hLl
    have hE1 := hE
    clear hE
    have hE := HEA.out
    have HB4 := Lib.hid (((bel2.out.setCell (p := ⟨w.heap.size + 2, 0, none⟩) hle2 (.int .i64 most)).setCell (p := ⟨w.heap.size + 2, 1, none⟩) hle2 (.int .i64 long)).setCell (p := ⟨w.heap.size + 2, 2, none⟩) hle2 (.slice A l.length c))
    have R5 := Lib.hid (R1.out.1.put3 (x0 := .int .i64 most) (x1 := .int .i64 long) (x2 := .slice A l.length c)).all3
    have HS : Hid (∀ b' o', A = some ⟨b', o', none⟩ → 0 < l.length → b' ≠ w.heap.size + 2) := Lib.hid (fun b' o' e h => by
      have := HAL.out b' o' e h
      omega)
    have HE : Hid (Tab.Ents ((((w1.alloc (to most long B l.length cc)).setCell ⟨w.heap.size + 2, 0, none⟩ (.int .i64 most)).setCell ⟨w.heap.size + 2, 1, none⟩ (.int .i64 long)).setCell ⟨w.heap.size + 2, 2, none⟩ (.slice A l.length c)) A l) := Lib.hid (by
      by_cases h0 : 0 < l.length
      · have hx : ∀ b' o', A = some ⟨b', o', none⟩ → b' ≠ w.heap.size + 2 := fun b' o' e => HS.out b' o' e h0
        exact ((hE.set hx).set hx).set hx
      · have : l = [] := List.eq_nil_of_length_eq_zero (by omega)
        rw [this]
        exact Tab.Ents.nil _ _)
    clear hB hE hE1 hb2 HC bel A1 K R O hsz bel2 HS HAL HEA
    obtain ⟨⟨k0, k1, k2⟩, _⟩ := K1.out.all3
    obtain ⟨⟨r0, r1, r2⟩, s0, s1, s2⟩ := R1.out.all3
    obtain ⟨t0, t1, t2⟩ := T.out
    clear R1 T K1
    go_wp2_with fail
    refine bodyPost_ret (v := tv most long A l.length c) ?_ rfl ?_
    · obtain ⟨d0, d1, d2⟩ := R5.out
      simp [results, Tryd.results15, d0, d1, d2, go_sem]
    · exact ⟨A, c, rfl, .inl ⟨rfl, rfl⟩, HE.out, HB4.out⟩

theorem learns_any (most long : Int) (l : List Tab.En) (hl : l.length ≤ 100000) (A : Option Addr) (c : Nat) (d : Int) (s : Nat) (hs : s < 18446744073709551616) (g : Bool) (p vv t : Int) (b : ByteArray) (v q ln : Int) (w : World) (hA : Tab.Ents w A l) :
    Calls Tryd.prog 14 #[tv most long A l.length c, fr d s g p vv t b, .int .i64 v, .int .i64 q, .int .i64 ln] w (GivesT A l most long (learnsL most l v s q ln) w) := by
  unfold learnsL
  cases hh : Por.hasZ (Por.low ln) q with
  | false => exact learns_no most long l A c d s g p vv t b v q ln w hA hh
  | true => exact learns_yes most long l A c d s g p vv t b v q ln w hA hh _ _ (Lib.hid fun w hA => Tab.learn_any most long l hl A c v s hs q w hA)

theorem rlearns_any (most long : Int) (l : List Tab.En) (hl : l.length ≤ 100000) (hsr : l.Pairwise fun x y => Tab.ahd x y = true) (A : Option Addr) (c : Nat) (d : Int) (s : Nat) (hs : s < 18446744073709551616) (g : Bool) (p vv t : Int) (b : ByteArray) (v q ln : Int) (w : World) (hA : Tab.Ents w A l) :
    Calls Tryd.prog 15 #[tv most long A l.length c, fr d s g p vv t b, .int .i64 v, .int .i64 q, .int .i64 ln] w (GivesT A l most long (learnsL most l v s q ln) w) := by
  unfold learnsL
  cases hh : Por.hasZ (Por.low ln) q with
  | false => exact rlearns_no most long l A c d s g p vv t b v q ln w hA hh
  | true => exact rlearns_yes most long l A c d s g p vv t b v q ln w hA hh _ _ (fun h => Tab.learn_err h) (Lib.hid fun w hA => Tab.rlearn_any most long l hl hsr A c v s hs q w hA)

end Fwd
end Go.Proofs.YtmojegnflcokjaaDoor
