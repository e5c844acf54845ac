/-
  What sign.signed, sign.Request and sign.Reply, and the document's Request and Reply, answer of any packet, authenticator and secret; and that they change nothing that was there.
-/
import Derived.Test.YtaeeonohakkgbaaDoorSigB
namespace Go.Proofs.YtaeeonohakkgbaaDoor
open Go.RowKit
namespace Sig
open Oct Att Pac Key Bx Dig

theorem fre_other {W : World} {k k' o : Nat} {l : List Value} {x : Value} (h : Fre W k l) (hne : k ≠ k') : Fre (W.setCell ⟨k', o, none⟩ x) k l :=
  ⟨h.1.other hne, by simpa using h.2.1, fun j => by rw [World.frozen?_setCell]; exact h.2.2 j⟩

theorem fre_set {W : World} {k : Nat} {l : List Value} (h : Fre W k l) (o : Nat) (x : Value) : Fre (W.setCell ⟨k, o, none⟩ x) k (l.set o x) :=
  ⟨h.1.set o x, by simpa using h.2.1, fun j => by rw [World.frozen?_setCell]; exact h.2.2 j⟩

/-- What stands while an answer is made: all that was there, the packet's box, and the answer's. -/
def Tw (w W : World) (p r : List Value) : Prop := Below w.heap.size w W ∧ Fre W w.heap.size p ∧ Fre W (w.heap.size + 1) r

theorem Tw.keep {w W : World} {p r : List Value} {W' : World} (h : Hid (Tw w W p r)) (hb : Below W.heap.size W W') : Hid (Tw w W' p r) := Lib.hid ⟨then_below h.out.1 hb, h.out.2.1.keep hb, h.out.2.2.keep hb⟩

theorem Tw.new (w : World) (c i : Int) (a : ByteArray) (A : Option Addr) (n k : Nat) : Hid (Tw w ((w.alloc (po c i a A n k)).alloc (po 0 0 ⟨#[]⟩ none 0 0)) (pl c i a A n k) zl) := by
  have bel := bel_box (box_below w (po c i a A n k)) (po 0 0 ⟨#[]⟩ none 0 0)
  refine Lib.hid ⟨bel, (Fre.new w (pl c i a A n k) 24).keep (box_below _ (po 0 0 ⟨#[]⟩ none 0 0)), ?_⟩
  have := Fre.new (w.alloc (po c i a A n k)) zl 24
  rwa [show (w.alloc (po c i a A n k)).heap.size = w.heap.size + 1 by simp] at this

/-- A packet stored into the packet's box. -/
theorem Tw.inp {w W : World} {y0 y1 y2 y3 x0 x1 x2 x3 : Value} {r : List Value} (h : Hid (Tw w W [y0, y1, y2, y3] r)) : Hid (Tw w ((((W.setCell ⟨w.heap.size, 0, none⟩ x0).setCell ⟨w.heap.size, 1, none⟩ x1).setCell ⟨w.heap.size, 2, none⟩ x2).setCell ⟨w.heap.size, 3, none⟩ x3) [x0, x1, x2, x3] r) :=
  Lib.hid ⟨(((h.out.1.setCell (p := ⟨w.heap.size, 0, none⟩) (Nat.le_refl _) x0).setCell (p := ⟨w.heap.size, 1, none⟩) (Nat.le_refl _) x1).setCell (p := ⟨w.heap.size, 2, none⟩) (Nat.le_refl _) x2).setCell (p := ⟨w.heap.size, 3, none⟩) (Nat.le_refl _) x3,
    fre_set (fre_set (fre_set (fre_set h.out.2.1 0 x0) 1 x1) 2 x2) 3 x3, fre_other (fre_other (fre_other (fre_other h.out.2.2 (by omega)) (by omega)) (by omega)) (by omega)⟩

/-- An authenticator stored into it. -/
theorem Tw.auth {w W : World} {y0 y1 y2 y3 x : Value} {r : List Value} (h : Hid (Tw w W [y0, y1, y2, y3] r)) : Hid (Tw w (W.setCell ⟨w.heap.size, 2, none⟩ x) [y0, y1, x, y3] r) :=
  Lib.hid ⟨h.out.1.setCell (p := ⟨w.heap.size, 2, none⟩) (Nat.le_refl _) x, fre_set h.out.2.1 2 x, fre_other h.out.2.2 (by omega)⟩

/-- A packet stored into the answer's box. -/
theorem Tw.ans {w W : World} {y0 y1 y2 y3 x0 x1 x2 x3 : Value} {p : List Value} (h : Hid (Tw w W p [y0, y1, y2, y3])) : Hid (Tw w ((((W.setCell ⟨w.heap.size + 1, 0, none⟩ x0).setCell ⟨w.heap.size + 1, 1, none⟩ x1).setCell ⟨w.heap.size + 1, 2, none⟩ x2).setCell ⟨w.heap.size + 1, 3, none⟩ x3) p [x0, x1, x2, x3]) :=
  Lib.hid ⟨(((h.out.1.setCell (p := ⟨w.heap.size + 1, 0, none⟩) (Nat.le_succ _) x0).setCell (p := ⟨w.heap.size + 1, 1, none⟩) (Nat.le_succ _) x1).setCell (p := ⟨w.heap.size + 1, 2, none⟩) (Nat.le_succ _) x2).setCell (p := ⟨w.heap.size + 1, 3, none⟩) (Nat.le_succ _) x3,
    fre_other (fre_other (fre_other (fre_other h.out.2.1 (by omega)) (by omega)) (by omega)) (by omega), fre_set (fre_set (fre_set (fre_set h.out.2.2 0 x0) 1 x1) 2 x2) 3 x3⟩

theorem Tw.lt {w W : World} {p r : List Value} (h : Hid (Tw w W p r)) : w.heap.size + 2 ≤ W.heap.size := h.out.2.2.2.1

/-- What is new lies in neither box. -/
def Far (w : World) (B : Option Addr) : Prop := ∀ b o', B = some ⟨b, o', none⟩ → w.heap.size + 2 ≤ b

theorem Far.inp {w W : World} {B : Option Addr} {l : List At} {v0 v1 v2 v3 : Value} (hF : Far w B) (h : Ats W B l) : Ats ((((W.setCell ⟨w.heap.size, 0, none⟩ v0).setCell ⟨w.heap.size, 1, none⟩ v1).setCell ⟨w.heap.size, 2, none⟩ v2).setCell ⟨w.heap.size, 3, none⟩ v3) B l := ats_set4 h fun b o' e => by have := hF b o' e; omega
theorem Far.auth {w W : World} {B : Option Addr} {l : List At} {v : Value} (hF : Far w B) (h : Ats W B l) : Ats (W.setCell ⟨w.heap.size, 2, none⟩ v) B l := ats_set h fun b o' e => by have := hF b o' e; omega
theorem Far.ans {w W : World} {B : Option Addr} {l : List At} {v0 v1 v2 v3 : Value} (hF : Far w B) (h : Ats W B l) : Ats ((((W.setCell ⟨w.heap.size + 1, 0, none⟩ v0).setCell ⟨w.heap.size + 1, 1, none⟩ v1).setCell ⟨w.heap.size + 1, 2, none⟩ v2).setCell ⟨w.heap.size + 1, 3, none⟩ v3) B l := ats_set4 h fun b o' e => by have := hF b o' e; omega

/-- A packet and an error handed back: its attributes lie in a slice that is new, with room for all. -/
def GivesR (r : Rd) (w : World) (e : Ending) (w' : World) : Prop := ∃ A k, e = .returned (.tuple #[pv r.c r.i r.a A r.l.length k, .int .i64 r.e]) ∧ r.l.length ≤ k ∧ (A = none → k = 0) ∧ (∀ b o', A = some ⟨b, o', none⟩ → w.heap.size ≤ b) ∧ Ats w' A r.l ∧ Below w.heap.size w w'
/-- The same, where nothing is said of the room. -/
def GivesD (r : Rd) (w : World) (e : Ending) (w' : World) : Prop := ∃ A k, e = .returned (.tuple #[pv r.c r.i r.a A r.l.length k, .int .i64 r.e]) ∧ (∀ b o', A = some ⟨b, o', none⟩ → w.heap.size ≤ b) ∧ Ats w' A r.l ∧ Below w.heap.size w w'

theorem givesR_none {w w' : World} {E : Int} (hb : Below w.heap.size w w') : GivesR (noR E) w (.returned (.tuple #[pv 0 0 ⟨#[]⟩ none 0 0, .int .i64 E])) w' := ⟨none, 0, rfl, Nat.le_refl _, fun _ => rfl, fun _ _ h => (by cases h), Ats.nil _ _, hb⟩
theorem givesD_none {w w' : World} {E : Int} (hb : Below w.heap.size w w') : GivesD (noR E) w (.returned (.tuple #[pv 0 0 ⟨#[]⟩ none 0 0, .int .i64 E])) w' := ⟨none, 0, rfl, fun _ _ h => (by cases h), Ats.nil _ _, hb⟩

set_option maxRecDepth 20000 in
set_option maxHeartbeats 2000000 in
theorem signed_err (c i : Int) (a u k : ByteArray) (l : List At) (A : Option Addr) (kc : Nat) (w : World) (hA : Ats w A l) (hm : Home w)
    (HM : Hid (∀ w, Ats w A l → Home w → Calls Tryd.prog 7 #[pv c i a A l.length kc, .string u, .string k] w fun e w' => e = .returned (.tuple #[.string ⟨#[]⟩, .int .i64 1]) ∧ Below w.heap.size w w')) :
    Calls Tryd.prog 33 #[pv c i a A l.length kc, .string u, .string k] w (GivesR (noR 1) w) := by
  have T0 := Tw.new w c i a A l.length kc
  have HA0 := Lib.hid (hA.below T0.out.1)
  have HW := Lib.hid hA
  have HH := Lib.hid (hm.below T0.out.1)
  have HM0 := Lib.hid hm
  clear hA hm
  go_enter Tryd.func33, Tryd.ntmps33
  go_wp2_with fail
  refine (HM.out _ HA0.out HH.out).mono ?_; rintro e w1 ⟨rfl, hb1⟩
  have T1 := Tw.keep T0 hb1
  obtain ⟨⟨c0, c1, c2, c3⟩, f0, f1, f2, f3⟩ := T1.out.2.1.all4
  obtain ⟨⟨r0, r1, r2, r3⟩, s0, s1, s2, s3⟩ := T1.out.2.2.all4
  clear hb1
  go_wp2_with fail
  have T2 := Tw.ans (x0 := .int .i64 0) (x1 := .int .i64 0) (x2 := .string ⟨#[]⟩) (x3 := .slice none 0 0) T1
  refine bodyPost_ret (v := .tuple #[pv 0 0 ⟨#[]⟩ none 0 0, .int .i64 1]) ?_ rfl ?_
  · obtain ⟨d0, d1, d2, d3⟩ := T2.out.2.2.1.all4
    simp [results, Tryd.results33, d0, d1, d2, d3, go_sem]
  · exact givesR_none T2.out.1

set_option maxRecDepth 20000 in
set_option maxHeartbeats 2000000 in
theorem signed_ok (c i : Int) (a u k : ByteArray) (l : List At) (A : Option Addr) (kc : Nat) (M : ByteArray) (L : List At) (w : World) (hA : Ats w A l) (hm : Home w)
    (HM : Hid (∀ w, Ats w A l → Home w → Calls Tryd.prog 7 #[pv c i a A l.length kc, .string u, .string k] w fun e w' => e = .returned (.tuple #[.string M, .int .i64 0]) ∧ Below w.heap.size w w'))
    (HP : Hid (∀ w, Ats w A l → Calls Tryd.prog 21 #[pv c i a A l.length kc, .int .i64 80, .string M] w (GivesN c i a L w))) :
    Calls Tryd.prog 33 #[pv c i a A l.length kc, .string u, .string k] w (GivesR ⟨0, c, i, a, L⟩ w) := by
  have T0 := Tw.new w c i a A l.length kc
  have HA0 := Lib.hid (hA.below T0.out.1)
  have HW := Lib.hid hA
  have HH := Lib.hid (hm.below T0.out.1)
  have HM0 := Lib.hid hm
  clear hA hm
  go_enter Tryd.func33, Tryd.ntmps33
  go_wp2_with fail
  refine (HM.out _ HA0.out HH.out).mono ?_; rintro e w1 ⟨rfl, hb1⟩
  have T1 := Tw.keep T0 hb1
  have HA1 := Lib.hid (HA0.out.below hb1)
  obtain ⟨⟨c0, c1, c2, c3⟩, f0, f1, f2, f3⟩ := T1.out.2.1.all4
  obtain ⟨⟨r0, r1, r2, r3⟩, s0, s1, s2, s3⟩ := T1.out.2.2.all4
  clear hb1
  go_wp2_with fail
  refine (HP.out _ HA1.out).mono ?_; rintro e w2 ⟨B, kb, rfl, hk1, hk2, hN, hB, hb2⟩
  clear c0 c1 c2 c3 f0 f1 f2 f3 r0 r1 r2 r3 s0 s1 s2 s3
  have T2 := Tw.keep T1 hb2
  have HF : Hid (Far w B) := Lib.hid fun b o' e => Nat.le_trans (Tw.lt T1) (hN b o' e)
  have HB := Lib.hid hB
  obtain ⟨⟨c0, c1, c2, c3⟩, f0, f1, f2, f3⟩ := T2.out.2.1.all4
  obtain ⟨⟨r0, r1, r2, r3⟩, s0, s1, s2, s3⟩ := T2.out.2.2.all4
  clear hb2 hN hB
  go_wp2_with fail
  have T3 := Tw.ans (x0 := .int .i64 c) (x1 := .int .i64 i) (x2 := .string a) (x3 := .slice B L.length kb) T2
  refine bodyPost_ret (v := .tuple #[pv c i a B L.length kb, .int .i64 0]) ?_ rfl ?_
  · obtain ⟨d0, d1, d2, d3⟩ := T3.out.2.2.1.all4
    simp [results, Tryd.results33, d0, d1, d2, d3, go_sem]
  · exact ⟨B, kb, rfl, hk1, hk2, fun b o' e => by have := HF.out b o' e; omega, HF.out.ans HB.out, T3.out.1⟩

set_option maxRecDepth 20000 in
set_option maxHeartbeats 2000000 in
theorem rrequest_err (c i : Int) (a k : ByteArray) (l : List At) (A : Option Addr) (kc : Nat) (w : World) (hA : Ats w A l) (hm : Home w)
    (HM : Hid (∀ w, Ats w A l → Home w → Calls Tryd.prog 8 #[pv c i a A l.length kc, .string a, .string k] w fun e w' => e = .returned (.tuple #[.string ⟨#[]⟩, .int .i64 1]) ∧ Below w.heap.size w w')) :
    Calls Tryd.prog 12 #[pv c i a A l.length kc, .string k] w (GivesD (noR 1) w) := by
  have T0 := Tw.new w c i a A l.length kc
  have HA0 := Lib.hid (hA.below T0.out.1)
  have HW := Lib.hid hA
  have HH := Lib.hid (hm.below T0.out.1)
  have HM0 := Lib.hid hm
  clear hA hm
  go_enter Tryd.func12, Tryd.ntmps12
  go_wp2_with fail
  refine (HM.out _ HA0.out HH.out).mono ?_; rintro e w1 ⟨rfl, hb1⟩
  have T1 := Tw.keep T0 hb1
  obtain ⟨⟨c0, c1, c2, c3⟩, f0, f1, f2, f3⟩ := T1.out.2.1.all4
  obtain ⟨⟨r0, r1, r2, r3⟩, s0, s1, s2, s3⟩ := T1.out.2.2.all4
  clear hb1
  go_wp2_with fail
  have T2 := Tw.ans (x0 := .int .i64 0) (x1 := .int .i64 0) (x2 := .string ⟨#[]⟩) (x3 := .slice none 0 0) T1
  refine bodyPost_ret (v := .tuple #[pv 0 0 ⟨#[]⟩ none 0 0, .int .i64 1]) ?_ rfl ?_
  · obtain ⟨d0, d1, d2, d3⟩ := T2.out.2.2.1.all4
    simp [results, Tryd.results12, d0, d1, d2, d3, go_sem]
  · exact givesD_none T2.out.1

set_option maxRecDepth 20000 in
set_option maxHeartbeats 2000000 in
theorem rrequest_ok (c i : Int) (a k : ByteArray) (l : List At) (A : Option Addr) (kc : Nat) (M : ByteArray) (L : List At) (w : World) (hA : Ats w A l) (hm : Home w)
    (HM : Hid (∀ w, Ats w A l → Home w → Calls Tryd.prog 8 #[pv c i a A l.length kc, .string a, .string k] w fun e w' => e = .returned (.tuple #[.string M, .int .i64 0]) ∧ Below w.heap.size w w'))
    (HP : Hid (∀ w, Ats w A l → Calls Tryd.prog 27 #[pv c i a A l.length kc, .int .i64 80, .string M] w (GivesF c i a L w))) :
    Calls Tryd.prog 12 #[pv c i a A l.length kc, .string k] w (GivesD ⟨0, c, i, a, L⟩ w) := by
  have T0 := Tw.new w c i a A l.length kc
  have HA0 := Lib.hid (hA.below T0.out.1)
  have HW := Lib.hid hA
  have HH := Lib.hid (hm.below T0.out.1)
  have HM0 := Lib.hid hm
  clear hA hm
  go_enter Tryd.func12, Tryd.ntmps12
  go_wp2_with fail
  refine (HM.out _ HA0.out HH.out).mono ?_; rintro e w1 ⟨rfl, hb1⟩
  have T1 := Tw.keep T0 hb1
  have HA1 := Lib.hid (HA0.out.below hb1)
  obtain ⟨⟨c0, c1, c2, c3⟩, f0, f1, f2, f3⟩ := T1.out.2.1.all4
  obtain ⟨⟨r0, r1, r2, r3⟩, s0, s1, s2, s3⟩ := T1.out.2.2.all4
  clear hb1
  go_wp2_with fail
  refine (HP.out _ HA1.out).mono ?_; rintro e w2 ⟨B, kb, rfl, hN, hB, hb2⟩
  clear c0 c1 c2 c3 f0 f1 f2 f3 r0 r1 r2 r3 s0 s1 s2 s3
  have T2 := Tw.keep T1 hb2
  have HF : Hid (Far w B) := Lib.hid fun b o' e => Nat.le_trans (Tw.lt T1) (hN b o' e)
  have HB := Lib.hid hB
  obtain ⟨⟨c0, c1, c2, c3⟩, f0, f1, f2, f3⟩ := T2.out.2.1.all4
  obtain ⟨⟨r0, r1, r2, r3⟩, s0, s1, s2, s3⟩ := T2.out.2.2.all4
  clear hb2 hN hB
  go_wp2_with fail
  have T3 := Tw.ans (x0 := .int .i64 c) (x1 := .int .i64 i) (x2 := .string a) (x3 := .slice B L.length kb) T2
  refine bodyPost_ret (v := .tuple #[pv c i a B L.length kb, .int .i64 0]) ?_ rfl ?_
  · obtain ⟨d0, d1, d2, d3⟩ := T3.out.2.2.1.all4
    simp [results, Tryd.results12, d0, d1, d2, d3, go_sem]
  · exact ⟨B, kb, rfl, fun b o' e => by have := HF.out b o' e; omega, HF.out.ans HB.out, T3.out.1⟩

set_option maxRecDepth 20000 in
set_option maxHeartbeats 2000000 in
theorem request_core (c i : Int) (a k : ByteArray) (l : List At) (A : Option Addr) (kc : Nat) (r : Rd) (w : World) (hA : Ats w A l) (hm : Home w)
    (HS : Hid (∀ w, Ats w A l → Home w → Calls Tryd.prog 33 #[pv c i a A l.length kc, .string a, .string k] w (GivesR r w))) :
    Calls Tryd.prog 11 #[pv c i a A l.length kc, .string k] w (GivesR r w) := by
  obtain ⟨re, rc, ri, ra, rl⟩ := r
  have T0 := Tw.new w c i a A l.length kc
  have HA0 := Lib.hid (hA.below T0.out.1)
  have HW := Lib.hid hA
  have HH := Lib.hid (hm.below T0.out.1)
  have HM0 := Lib.hid hm
  clear hA hm
  go_enter Tryd.func11, Tryd.ntmps11
  go_wp2_with fail
  refine (HS.out _ HA0.out HH.out).mono ?_; rintro e w1 ⟨B, kb, rfl, hk1, hk2, hN, hB, hb1⟩
  have T1 := Tw.keep T0 hb1
  have HF : Hid (Far w B) := Lib.hid fun b o' e => Nat.le_trans (Tw.lt T0) (hN b o' e)
  have HB := Lib.hid hB
  obtain ⟨⟨c0, c1, c2, c3⟩, f0, f1, f2, f3⟩ := T1.out.2.1.all4
  obtain ⟨⟨r0, r1, r2, r3⟩, s0, s1, s2, s3⟩ := T1.out.2.2.all4
  clear hb1 hN hB
  go_wp2_with fail
  have T3 := Tw.ans (x0 := .int .i64 rc) (x1 := .int .i64 ri) (x2 := .string ra) (x3 := .slice B rl.length kb) T1
  refine bodyPost_ret (v := .tuple #[pv rc ri ra B rl.length kb, .int .i64 re]) ?_ rfl ?_
  · obtain ⟨d0, d1, d2, d3⟩ := T3.out.2.2.1.all4
    simp [results, Tryd.results11, d0, d1, d2, d3, go_sem]
  · exact ⟨B, kb, rfl, hk1, hk2, fun b o' e => by have := HF.out b o' e; omega, HF.out.ans HB.out, T3.out.1⟩

set_option maxRecDepth 20000 in
set_option maxHeartbeats 2000000 in
theorem reply_err (c i : Int) (a u k : ByteArray) (l : List At) (A : Option Addr) (kc : Nat) (w : World) (hA : Ats w A l) (hm : Home w)
    (HS : Hid (∀ w, Ats w A l → Home w → Calls Tryd.prog 33 #[pv c i a A l.length kc, .string u, .string k] w (GivesR (noR 1) w))) :
    Calls Tryd.prog 13 #[pv c i a A l.length kc, .string u, .string k] w (GivesR (noR 1) w) := by
  have T0 := Tw.new w c i a A l.length kc
  have HA0 := Lib.hid (hA.below T0.out.1)
  have HW := Lib.hid hA
  have HH := Lib.hid (hm.below T0.out.1)
  have HM0 := Lib.hid hm
  clear hA hm
  go_enter Tryd.func13, Tryd.ntmps13
  go_wp2_with fail
  refine (HS.out _ HA0.out HH.out).mono ?_; rintro e w1 ⟨B, kb, rfl, hk1, hk2, hN, hB, hb1⟩
  have T1 := Tw.keep T0 hb1
  obtain ⟨⟨c0, c1, c2, c3⟩, f0, f1, f2, f3⟩ := T1.out.2.1.all4
  obtain ⟨⟨r0, r1, r2, r3⟩, s0, s1, s2, s3⟩ := T1.out.2.2.all4
  clear hb1 hN hB
  simp only [noR]
  have T2 := Tw.inp (x0 := .int .i64 0) (x1 := .int .i64 0) (x2 := .string ⟨#[]⟩) (x3 := .slice B 0 kb) T1
  go_wp2_with fail
  have T3 := Tw.ans (x0 := .int .i64 0) (x1 := .int .i64 0) (x2 := .string ⟨#[]⟩) (x3 := .slice none 0 0) T2
  refine bodyPost_ret (v := .tuple #[pv 0 0 ⟨#[]⟩ none 0 0, .int .i64 1]) ?_ rfl ?_
  · obtain ⟨d0, d1, d2, d3⟩ := T3.out.2.2.1.all4
    simp [results, Tryd.results13, d0, d1, d2, d3, go_sem]
  · exact givesR_none T3.out.1

set_option maxRecDepth 20000 in
set_option maxHeartbeats 2000000 in
theorem reply_ok (c i : Int) (a u k : ByteArray) (l : List At) (A : Option Addr) (kc : Nat) (L : List At) (V : ByteArray) (w : World) (hA : Ats w A l) (hm : Home w)
    (HS : Hid (∀ w, Ats w A l → Home w → Calls Tryd.prog 33 #[pv c i a A l.length kc, .string u, .string k] w (GivesR ⟨0, c, i, a, L⟩ w)))
    (HR : Hid (∀ B kb w, Ats w B L → Home w → Calls Tryd.prog 9 #[pv c i a B L.length kb, .string u, .string k] w fun e w' => e = .returned (.tuple #[.string V, .int .i64 0]) ∧ Below w.heap.size w w')) :
    Calls Tryd.prog 13 #[pv c i a A l.length kc, .string u, .string k] w (GivesR ⟨0, c, i, V, L⟩ w) := by
  have T0 := Tw.new w c i a A l.length kc
  have HA0 := Lib.hid (hA.below T0.out.1)
  have HW := Lib.hid hA
  have HH := Lib.hid (hm.below T0.out.1)
  have HM0 := Lib.hid hm
  clear hA hm
  go_enter Tryd.func13, Tryd.ntmps13
  go_wp2_with fail
  refine (HS.out _ HA0.out HH.out).mono ?_; rintro e w1 ⟨B, kb, rfl, hk1, hk2, hN, hB, hb1⟩
  have T1 := Tw.keep T0 hb1
  have HF : Hid (Far w B) := Lib.hid fun b o' e => Nat.le_trans (Tw.lt T0) (hN b o' e)
  obtain ⟨⟨c0, c1, c2, c3⟩, f0, f1, f2, f3⟩ := T1.out.2.1.all4
  obtain ⟨⟨r0, r1, r2, r3⟩, s0, s1, s2, s3⟩ := T1.out.2.2.all4
  clear hb1 hN
  have T2 := Tw.inp (x0 := .int .i64 c) (x1 := .int .i64 i) (x2 := .string a) (x3 := .slice B L.length kb) T1
  have HB2 := Lib.hid (HF.out.inp (v0 := .int .i64 c) (v1 := .int .i64 i) (v2 := .string a) (v3 := .slice B L.length kb) hB)
  clear hB
  go_wp2_with fail
  refine (HR.out _ _ _ HB2.out (HM0.out.below T2.out.1)).mono ?_; rintro e w3 ⟨rfl, hb3⟩
  clear c0 c1 c2 c3 f0 f1 f2 f3 r0 r1 r2 r3 s0 s1 s2 s3
  have T3 := Tw.keep T2 hb3
  have HB3 := Lib.hid (HB2.out.below hb3)
  obtain ⟨⟨c0, c1, c2, c3⟩, f0, f1, f2, f3⟩ := T3.out.2.1.all4
  obtain ⟨⟨r0, r1, r2, r3⟩, s0, s1, s2, s3⟩ := T3.out.2.2.all4
  clear hb3
  go_wp2_with fail
  have T8 := Tw.auth (x := .string V) T3
  have HB8 := Lib.hid (HF.out.auth (v := .string V) HB3.out)
  have T9 := Tw.ans (x0 := .int .i64 c) (x1 := .int .i64 i) (x2 := .string V) (x3 := .slice B L.length kb) T8
  refine bodyPost_ret (v := .tuple #[pv c i V B L.length kb, .int .i64 0]) ?_ rfl ?_
  · obtain ⟨d0, d1, d2, d3⟩ := T9.out.2.2.1.all4
    simp [results, Tryd.results13, d0, d1, d2, d3, go_sem]
  · exact ⟨B, kb, rfl, hk1, hk2, fun b o' e => by have := HF.out b o' e; omega, HF.out.ans HB8.out, T9.out.1⟩

set_option maxRecDepth 20000 in
set_option maxHeartbeats 2000000 in
theorem rreply_err (c i : Int) (a u k : ByteArray) (l : List At) (A : Option Addr) (kc : Nat) (w : World) (hA : Ats w A l) (hm : Home w)
    (HM : Hid (∀ w, Ats w A l → Home w → Calls Tryd.prog 8 #[pv c i a A l.length kc, .string u, .string k] w fun e w' => e = .returned (.tuple #[.string ⟨#[]⟩, .int .i64 1]) ∧ Below w.heap.size w w')) :
    Calls Tryd.prog 14 #[pv c i a A l.length kc, .string u, .string k] w (GivesD (noR 1) w) := by
  have T0 := Tw.new w c i a A l.length kc
  have HA0 := Lib.hid (hA.below T0.out.1)
  have HW := Lib.hid hA
  have HH := Lib.hid (hm.below T0.out.1)
  have HM0 := Lib.hid hm
  clear hA hm
  go_enter Tryd.func14, Tryd.ntmps14
  go_wp2_with fail
  refine (HM.out _ HA0.out HH.out).mono ?_; rintro e w1 ⟨rfl, hb1⟩
  have T1 := Tw.keep T0 hb1
  obtain ⟨⟨c0, c1, c2, c3⟩, f0, f1, f2, f3⟩ := T1.out.2.1.all4
  obtain ⟨⟨r0, r1, r2, r3⟩, s0, s1, s2, s3⟩ := T1.out.2.2.all4
  clear hb1
  go_wp2_with fail
  have T2 := Tw.ans (x0 := .int .i64 0) (x1 := .int .i64 0) (x2 := .string ⟨#[]⟩) (x3 := .slice none 0 0) T1
  refine bodyPost_ret (v := .tuple #[pv 0 0 ⟨#[]⟩ none 0 0, .int .i64 1]) ?_ rfl ?_
  · obtain ⟨d0, d1, d2, d3⟩ := T2.out.2.2.1.all4
    simp [results, Tryd.results14, d0, d1, d2, d3, go_sem]
  · exact givesD_none T2.out.1

set_option maxRecDepth 20000 in
set_option maxHeartbeats 2000000 in
theorem rreply_ok (c i : Int) (a u k : ByteArray) (l : List At) (A : Option Addr) (kc : Nat) (M : ByteArray) (L : List At) (V : ByteArray) (w : World) (hA : Ats w A l) (hm : Home w)
    (HM : Hid (∀ w, Ats w A l → Home w → Calls Tryd.prog 8 #[pv c i a A l.length kc, .string u, .string k] w fun e w' => e = .returned (.tuple #[.string M, .int .i64 0]) ∧ Below w.heap.size w w'))
    (HP : Hid (∀ w, Ats w A l → Calls Tryd.prog 27 #[pv c i a A l.length kc, .int .i64 80, .string M] w (GivesF c i a L w)))
    (HR : Hid (∀ B kb w, Ats w B L → Home w → Calls Tryd.prog 10 #[pv c i a B L.length kb, .string u, .string k] w fun e w' => e = .returned (.tuple #[.string V, .int .i64 0]) ∧ Below w.heap.size w w')) :
    Calls Tryd.prog 14 #[pv c i a A l.length kc, .string u, .string k] w (GivesD ⟨0, c, i, V, L⟩ w) := by
  have T0 := Tw.new w c i a A l.length kc
  have HA0 := Lib.hid (hA.below T0.out.1)
  have HW := Lib.hid hA
  have HH := Lib.hid (hm.below T0.out.1)
  have HM0 := Lib.hid hm
  clear hA hm
  go_enter Tryd.func14, Tryd.ntmps14
  go_wp2_with fail
  refine (HM.out _ HA0.out HH.out).mono ?_; rintro e w1 ⟨rfl, hb1⟩
  have T1 := Tw.keep T0 hb1
  have HA1 := Lib.hid (HA0.out.below hb1)
  obtain ⟨⟨c0, c1, c2, c3⟩, f0, f1, f2, f3⟩ := T1.out.2.1.all4
  obtain ⟨⟨r0, r1, r2, r3⟩, s0, s1, s2, s3⟩ := T1.out.2.2.all4
  clear hb1
  go_wp2_with fail
  refine (HP.out _ HA1.out).mono ?_; rintro e w2 ⟨B, kb, rfl, hN, hB, hb2⟩
  clear c0 c1 c2 c3 f0 f1 f2 f3 r0 r1 r2 r3 s0 s1 s2 s3
  have T2 := Tw.keep T1 hb2
  have HF : Hid (Far w B) := Lib.hid fun b o' e => Nat.le_trans (Tw.lt T1) (hN b o' e)
  obtain ⟨⟨c0, c1, c2, c3⟩, f0, f1, f2, f3⟩ := T2.out.2.1.all4
  obtain ⟨⟨r0, r1, r2, r3⟩, s0, s1, s2, s3⟩ := T2.out.2.2.all4
  clear hb2 hN
  have T3 := Tw.inp (x0 := .int .i64 c) (x1 := .int .i64 i) (x2 := .string a) (x3 := .slice B L.length kb) T2
  have HB3 := Lib.hid (HF.out.inp (v0 := .int .i64 c) (v1 := .int .i64 i) (v2 := .string a) (v3 := .slice B L.length kb) hB)
  clear hB
  go_wp2_with fail
  refine (HR.out _ _ _ HB3.out (HM0.out.below T3.out.1)).mono ?_; rintro e w4 ⟨rfl, hb4⟩
  clear c0 c1 c2 c3 f0 f1 f2 f3 r0 r1 r2 r3 s0 s1 s2 s3
  have T4 := Tw.keep T3 hb4
  have HB4 := Lib.hid (HB3.out.below hb4)
  obtain ⟨⟨c0, c1, c2, c3⟩, f0, f1, f2, f3⟩ := T4.out.2.1.all4
  obtain ⟨⟨r0, r1, r2, r3⟩, s0, s1, s2, s3⟩ := T4.out.2.2.all4
  clear hb4
  go_wp2_with fail
  have T8 := Tw.auth (x := .string V) T4
  have HB8 := Lib.hid (HF.out.auth (v := .string V) HB4.out)
  have T9 := Tw.ans (x0 := .int .i64 c) (x1 := .int .i64 i) (x2 := .string V) (x3 := .slice B L.length kb) T8
  refine bodyPost_ret (v := .tuple #[pv c i V B L.length kb, .int .i64 0]) ?_ rfl ?_
  · obtain ⟨d0, d1, d2, d3⟩ := T9.out.2.2.1.all4
    simp [results, Tryd.results14, d0, d1, d2, d3, go_sem]
  · exact ⟨B, kb, rfl, fun b o' e => by have := HF.out b o' e; omega, HF.out.ans HB8.out, T9.out.1⟩

/-- sign.signed. -/
theorem signed_any (c i : Int) (a u k : ByteArray) (hu : u.size ≤ maxLen) (hk : k.size ≤ 40000) (l : List At) (hl : l.length ≤ 900) (A : Option Addr) (kc : Nat) (w : World) (hA : Ats w A l) (hm : Home w) :
    Calls Tryd.prog 33 #[pv c i a A l.length kc, .string u, .string k] w (GivesR (signP c i a l u k) w) := by
  have HM := Lib.hid (fun w hA hm => message_any c i a u k hu (by omega) l (by omega) A kc w hA hm)
  unfold signP
  rcases mE_two c i u l with h | h
  · rw [h] at HM
    rw [if_pos h]
    exact signed_ok c i a u k l A kc _ _ w hA hm HM (Lib.hid fun w hA => put_fresh c i a l (by omega) A kc 80 _ w hA)
  · have e : mT c i u l k = ⟨#[]⟩ := if_neg (by rw [h]; decide)
    rw [h, e] at HM
    rw [if_neg (by rw [h]; decide), h]
    exact signed_err c i a u k l A kc w hA hm HM

/-- Request(p, secret). -/
theorem request_any (c i : Int) (a k : ByteArray) (ha : a.size ≤ maxLen) (hk : k.size ≤ 40000) (l : List At) (hl : l.length ≤ 900) (A : Option Addr) (kc : Nat) (w : World) (hA : Ats w A l) (hm : Home w) :
    Calls Tryd.prog 11 #[pv c i a A l.length kc, .string k] w (GivesR (signP c i a l a k) w) :=
  request_core c i a k l A kc _ w hA hm (Lib.hid fun w hA hm => signed_any c i a a k ha hk l hl A kc w hA hm)

/-- The document's Request(p, secret). -/
theorem rrequest_any (c i : Int) (a k : ByteArray) (ha : a.size ≤ maxLen) (hk : k.size ≤ 40000) (l : List At) (hl : l.length ≤ 900) (A : Option Addr) (kc : Nat) (w : World) (hA : Ats w A l) (hm : Home w) :
    Calls Tryd.prog 12 #[pv c i a A l.length kc, .string k] w (GivesD (signP c i a l a k) w) := by
  have HM := Lib.hid (fun w hA (_ : Home w) => rmessage_any c i a a k ha (by omega) l (by omega) A kc w hA)
  unfold signP
  rcases mE_two c i a l with h | h
  · rw [h] at HM
    rw [if_pos h]
    exact rrequest_ok c i a k l A kc _ _ w hA hm HM (Lib.hid fun w hA => rput_fresh c i a l (by omega) A kc 80 _ w hA)
  · have e : mT c i a l k = ⟨#[]⟩ := if_neg (by rw [h]; decide)
    rw [h, e] at HM
    rw [if_neg (by rw [h]; decide), h]
    exact rrequest_err c i a k l A kc w hA hm HM

/-- Reply(p, auth, secret). -/
theorem reply_any (c i : Int) (a u k : ByteArray) (hu : u.size ≤ maxLen) (hk : k.size ≤ 40000) (l : List At) (hl : l.length ≤ 900) (A : Option Addr) (kc : Nat) (w : World) (hA : Ats w A l) (hm : Home w) :
    Calls Tryd.prog 13 #[pv c i a A l.length kc, .string u, .string k] w (GivesR (replyP c i l u k) w) := by
  have HS := Lib.hid (fun w hA hm => signed_any c i a u k hu hk l hl A kc w hA hm)
  have hLn := put_length l 80 (mT c i u l k)
  unfold signP at HS
  rcases mE_two c i u l with h | h
  · have HR := Lib.hid (fun B kb w hB hm => response_any c i a u k hu hk (putA l 80 (mT c i u l k)) (by unfold maxLen; omega) B kb w hB hm)
    rw [err_put k h] at HR
    rw [if_pos h] at HS
    unfold replyP
    rw [if_pos h]
    exact reply_ok c i a u k l A kc _ _ w hA hm HS HR
  · have h0 : ¬ mE c i u l = 0 := by rw [h]; decide
    rw [if_neg h0, h] at HS
    rw [reply_error c i l u k h0]
    exact reply_err c i a u k l A kc w hA hm HS

/-- The document's Reply(p, auth, secret). -/
theorem rreply_any (c i : Int) (a u k : ByteArray) (hu : u.size ≤ maxLen) (hk : k.size ≤ 40000) (l : List At) (hl : l.length ≤ 900) (A : Option Addr) (kc : Nat) (w : World) (hA : Ats w A l) (hm : Home w) :
    Calls Tryd.prog 14 #[pv c i a A l.length kc, .string u, .string k] w (GivesD (replyP c i l u k) w) := by
  have HM := Lib.hid (fun w hA (_ : Home w) => rmessage_any c i a u k hu (by omega) l (by omega) A kc w hA)
  have hLn := put_length l 80 (mT c i u l k)
  rcases mE_two c i u l with h | h
  · have HR := Lib.hid (fun B kb w hB (_ : Home w) => rresponse_any c i a u k hu hk (putA l 80 (mT c i u l k)) (by unfold maxLen; omega) B kb w hB)
    rw [err_put k h] at HR
    rw [h] at HM
    unfold replyP
    rw [if_pos h]
    exact rreply_ok c i a u k l A kc _ _ _ w hA hm HM (Lib.hid fun w hA => rput_fresh c i a l (by omega) A kc 80 _ w hA) HR
  · have h0 : ¬ mE c i u l = 0 := by rw [h]; decide
    have e : mT c i u l k = ⟨#[]⟩ := if_neg h0
    rw [h, e] at HM
    rw [reply_error c i l u k h0]
    exact rreply_err c i a u k l A kc w hA hm HM

end Sig
end Go.Proofs.YtaeeonohakkgbaaDoor
