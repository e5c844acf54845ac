/-
  decide.Forward of any table, plan and frame.
-/
import Derived.Test.YtmojegnflcokjaaDoorPkOctAwake
import Derived.Test.YtmojegnflcokjaaDoorFwdF
import Derived.Test.YtmojegnflcokjaaDoorPkPorB
import Derived.Test.YtmojegnflcokjaaDoorPkTabNum
namespace Go.Proofs.YtmojegnflcokjaaDoor
open Go.RowKit
namespace Fwd
open Oct Eth Tab

/-- A table and what goes out, handed back: the entries new or those that came, the rest new. -/
def GivesF (A0 : Option Addr) (l0 : List Tab.En) (most long : Int) (l : List Tab.En) (outs : List Ou) (w : World) (e : Ending) (w' : World) : Prop :=
  ∃ B c Ao co, e = .returned (.tuple #[tv most long B l.length c, .slice Ao outs.length co]) ∧ ((B = A0 ∧ l = l0) ∨ ∀ b o, B = some ⟨b, o, none⟩ → w.heap.size ≤ b) ∧ (∀ b o, Ao = some ⟨b, o, none⟩ → w.heap.size ≤ b) ∧ Tab.Ents w' B l ∧ Outs w' Ao outs ∧ Below w.heap.size w w'

set_option maxRecDepth 100000 in
set_option maxHeartbeats 4000000 in
theorem forward_no (most long : Int) (l : List Tab.En) (A : Option Addr) (c : Nat) (o k : Nat → Int) (AP : Option Addr) (np cp : Nat) (d s : Int) (g : Bool) (p vv t : Int) (X : ByteArray) (q ln op : Int) (v : Int) (w : World) (hA : Tab.Ents w A l)
    (HTK : Hid (∀ w', Below w.heap.size w w' → Calls Tryd.prog 21 #[Mem.pv o k AP np cp, .int .i64 q, fr d s g p vv t X] w' fun e w'' => e = .returned (.tuple #[.int .i64 v, .bool false]) ∧ Below w'.heap.size w' w'')) :
    Calls Tryd.prog 9 #[tv most long A l.length c, Mem.pv o k AP np cp, fr d s g p vv t X, .int .i64 q, .int .i64 ln, .int .i64 op] w (GivesF A l most long l [] w) := by
  have bel := Lib.hid (Bx.bel_box (Bx.bel_box (Bx.bel_box (Bx.box_below w (to most long A l.length c)) (Mem.po o k AP np cp)) (Mem.fo d s g p vv t X)) (to 0 0 none 0 0))
  have A1 := Lib.hid (hA.below bel.out)
  have T6 := Lib.hid ((((Bx.Fre.new w [.int .i64 most, .int .i64 long, .slice A l.length c] 24).more (Mem.po o k AP np cp)).more (Mem.fo d s g p vv t X)).more (to 0 0 none 0 0))
  have P7 := Lib.hid (((Bx.Blk.new_at (W := w.alloc (to most long A l.length c)) (k := w.heap.size + 1) (Mem.pc o k AP np cp) 28 (by simp)).more (Mem.fo d s g p vv t X)).more (to 0 0 none 0 0))
  have F8 := Lib.hid ((Bx.Blk.new_at (W := (w.alloc (to most long A l.length c)).alloc (Mem.po o k AP np cp)) (k := w.heap.size + 1 + 1) (Mem.fc d s g p vv t X) 32 (by simp)).more (to 0 0 none 0 0))
  have R := Lib.hid (Bx.Fre.new_at (W := ((w.alloc (to most long A l.length c)).alloc (Mem.po o k AP np cp)).alloc (Mem.fo d s g p vv t X)) (k := w.heap.size + 1 + 1 + 1) [.int .i64 0, .int .i64 0, .slice none 0 0] 24 (by simp))
  have hsz := Lib.hid (show ((((w.alloc (to most long A l.length c)).alloc (Mem.po o k AP np cp)).alloc (Mem.fo d s g p vv t X)).alloc (to 0 0 none 0 0)).heap.size = w.heap.size + 4 by simp)
  have hle : w.heap.size ≤ w.heap.size + 1 + 1 + 1 := by omega
  have HAL := Lib.hid (fun b' o' (e : A = some ⟨b', o', none⟩) (h : 0 < l.length) => show b' < w.heap.size by
    obtain ⟨b, o, e2, hb, _⟩ := hA.at h
    rw [e] at e2
    cases e2
    exact hb)
  obtain ⟨f0, f1, f2, f3, f4, f5, f6⟩ := F8.out.all7
  clear hA
  go_enter Tryd.func9, Tryd.ntmps9
  go_wp2_with (first | ((with_reducible refine Mem.load_at ?_ ?_ (w.heap.size + 1) ?_ o k AP np cp ?_ ?_); (· rfl); (· rfl); (· rfl); (· exact P7.out)))
  refine (HTK.out _ bel.out).mono ?_; rintro e w1 ⟨rfl, hb⟩
  have hsz1 : w.heap.size + 4 ≤ w1.heap.size := by have := hb.size; have := hsz.out; omega
  replace hb := Bx.bel_box hb (Obj.cells #[.int .i64 v] 3)
  have V14 := Lib.hid (Bx.Blk.new w1 [.int .i64 v] 3).all1
  replace bel := Lib.hid (Bx.then_below bel.out hb)
  replace A1 := Lib.hid (A1.out.below hb)
  replace T6 := Lib.hid (T6.out.keep hb)
  replace P7 := Lib.hid (P7.out.keep hb)
  replace F8 := Lib.hid (F8.out.keep hb)
  replace R := Lib.hid (R.out.keep hb)
  clear hb f0 f1 f2 f3 f4 f5 f6
  obtain ⟨f0, f1, f2, f3, f4, f5, f6⟩ := F8.out.all7
  have R5 := Lib.hid (R.out.1.put3 (x0 := .int .i64 most) (x1 := .int .i64 long) (x2 := .slice A l.length c)).all3
  have bel3 := Lib.hid (((bel.out.setCell (p := ⟨w.heap.size + 1 + 1 + 1, 0, none⟩) hle (.int .i64 most)).setCell (p := ⟨w.heap.size + 1 + 1 + 1, 1, none⟩) hle (.int .i64 long)).setCell (p := ⟨w.heap.size + 1 + 1 + 1, 2, none⟩) hle (.slice A l.length c))
  have HE : Hid (Tab.Ents ((((w1.alloc (Obj.cells #[.int .i64 v] 3)).setCell ⟨w.heap.size + 1 + 1 + 1, 0, none⟩ (.int .i64 most)).setCell ⟨w.heap.size + 1 + 1 + 1, 1, none⟩ (.int .i64 long)).setCell ⟨w.heap.size + 1 + 1 + 1, 2, none⟩ (.slice A l.length c)) A l) := Lib.hid (by
    by_cases h0 : 0 < l.length
    · have hx : ∀ b' o', A = some ⟨b', o', none⟩ → b' ≠ w.heap.size + 1 + 1 + 1 := fun b' o' e => by have := HAL.out b' o' e h0; omega
      exact ((A1.out.set hx).set hx).set hx
    · have : l = [] := List.eq_nil_of_length_eq_zero (by omega)
      rw [this]
      exact Tab.Ents.nil _ _)
  obtain ⟨⟨t0, t1, t2⟩, _⟩ := T6.out.all3
  obtain ⟨⟨r0, r1, r2⟩, z0, z1, z2⟩ := R.out.all3
  clear R T6 A1 bel P7 F8
  go_wp2_with fail
  refine bodyPost_ret (v := .tuple #[tv most long A l.length c, .slice none 0 0]) ?_ rfl ?_
  · obtain ⟨d0, d1, d2⟩ := R5.out
    simp [results, Tryd.results9, d0, d1, d2, go_sem]
  · exact ⟨A, c, none, 0, rfl, .inl ⟨rfl, rfl⟩, (fun b o h => by cases h), HE.out, Outs.nil _ _, bel3.out⟩

set_option maxRecDepth 100000 in
set_option maxHeartbeats 4000000 in
theorem forward_kind (most long : Int) (l : List Tab.En) (A : Option Addr) (c : Nat) (o k : Nat → Int) (AP : Option Addr) (np cp : Nat) (d s : Int) (g : Bool) (p vv t : Int) (X : ByteArray) (q ln op : Int) (v K : Int) (hK : ¬ K = 0) (w : World) (hA : Tab.Ents w A l)
    (HTK : Hid (∀ w', Below w.heap.size w w' → Calls Tryd.prog 21 #[Mem.pv o k AP np cp, .int .i64 q, fr d s g p vv t X] w' fun e w'' => e = .returned (.tuple #[.int .i64 v, .bool true]) ∧ Below w'.heap.size w' w''))
    (HK : Hid (∀ w', Below w.heap.size w w' → Calls Tryd.prog 12 #[fr d s g p vv t X] w' fun e w'' => e = .returned (.int .i64 K) ∧ Below w'.heap.size w' w'')) :
    Calls Tryd.prog 9 #[tv most long A l.length c, Mem.pv o k AP np cp, fr d s g p vv t X, .int .i64 q, .int .i64 ln, .int .i64 op] w (GivesF A l most long l [] w) := by
  have e1 : (K == 0) = false := by simpa using hK
  have e2 : (K != 0) = true := by simpa using hK
  have bel := Lib.hid (Bx.bel_box (Bx.bel_box (Bx.bel_box (Bx.box_below w (to most long A l.length c)) (Mem.po o k AP np cp)) (Mem.fo d s g p vv t X)) (to 0 0 none 0 0))
  have A1 := Lib.hid (hA.below bel.out)
  have T6 := Lib.hid ((((Bx.Fre.new w [.int .i64 most, .int .i64 long, .slice A l.length c] 24).more (Mem.po o k AP np cp)).more (Mem.fo d s g p vv t X)).more (to 0 0 none 0 0))
  have P7 := Lib.hid (((Bx.Blk.new_at (W := w.alloc (to most long A l.length c)) (k := w.heap.size + 1) (Mem.pc o k AP np cp) 28 (by simp)).more (Mem.fo d s g p vv t X)).more (to 0 0 none 0 0))
  have F8 := Lib.hid ((Bx.Blk.new_at (W := (w.alloc (to most long A l.length c)).alloc (Mem.po o k AP np cp)) (k := w.heap.size + 1 + 1) (Mem.fc d s g p vv t X) 32 (by simp)).more (to 0 0 none 0 0))
  have R := Lib.hid (Bx.Fre.new_at (W := ((w.alloc (to most long A l.length c)).alloc (Mem.po o k AP np cp)).alloc (Mem.fo d s g p vv t X)) (k := w.heap.size + 1 + 1 + 1) [.int .i64 0, .int .i64 0, .slice none 0 0] 24 (by simp))
  have hsz := Lib.hid (show ((((w.alloc (to most long A l.length c)).alloc (Mem.po o k AP np cp)).alloc (Mem.fo d s g p vv t X)).alloc (to 0 0 none 0 0)).heap.size = w.heap.size + 4 by simp)
  have hle : w.heap.size ≤ w.heap.size + 1 + 1 + 1 := by omega
  have HAL := Lib.hid (fun b' o' (e : A = some ⟨b', o', none⟩) (h : 0 < l.length) => show b' < w.heap.size by
    obtain ⟨b, o, e2, hb, _⟩ := hA.at h
    rw [e] at e2
    cases e2
    exact hb)
  obtain ⟨f0, f1, f2, f3, f4, f5, f6⟩ := F8.out.all7
  clear hA
  go_enter Tryd.func9, Tryd.ntmps9
  go_wp2_with (first | ((with_reducible refine Mem.load_at ?_ ?_ (w.heap.size + 1) ?_ o k AP np cp ?_ ?_); (· rfl); (· rfl); (· rfl); (· exact P7.out)))
  refine (HTK.out _ bel.out).mono ?_; rintro e w1 ⟨rfl, hb⟩
  have hsz1 : w.heap.size + 4 ≤ w1.heap.size := by have := hb.size; have := hsz.out; omega
  replace hb := Bx.bel_box hb (Obj.cells #[.int .i64 v] 3)
  have V14 := Lib.hid (Bx.Blk.new w1 [.int .i64 v] 3).all1
  replace bel := Lib.hid (Bx.then_below bel.out hb)
  replace A1 := Lib.hid (A1.out.below hb)
  replace T6 := Lib.hid (T6.out.keep hb)
  replace P7 := Lib.hid (P7.out.keep hb)
  replace F8 := Lib.hid (F8.out.keep hb)
  replace R := Lib.hid (R.out.keep hb)
  clear hb f0 f1 f2 f3 f4 f5 f6
  obtain ⟨f0, f1, f2, f3, f4, f5, f6⟩ := F8.out.all7
  go_wp2_with fail
  refine (HK.out _ bel.out).mono ?_; rintro e w2 ⟨rfl, hb⟩
  replace bel := Lib.hid (Bx.then_below bel.out hb)
  replace A1 := Lib.hid (A1.out.below hb)
  replace T6 := Lib.hid (T6.out.keep hb)
  replace P7 := Lib.hid (P7.out.keep hb)
  replace F8 := Lib.hid (F8.out.keep hb)
  replace R := Lib.hid (R.out.keep hb)
  replace V14 := Lib.hid (Bx.keep_cell hb V14.out)
  clear hb f0 f1 f2 f3 f4 f5 f6
  have R5 := Lib.hid (R.out.1.put3 (x0 := .int .i64 most) (x1 := .int .i64 long) (x2 := .slice A l.length c)).all3
  have bel3 := Lib.hid (((bel.out.setCell (p := ⟨w.heap.size + 1 + 1 + 1, 0, none⟩) hle (.int .i64 most)).setCell (p := ⟨w.heap.size + 1 + 1 + 1, 1, none⟩) hle (.int .i64 long)).setCell (p := ⟨w.heap.size + 1 + 1 + 1, 2, none⟩) hle (.slice A l.length c))
  have HE : Hid (Tab.Ents (((w2.setCell ⟨w.heap.size + 1 + 1 + 1, 0, none⟩ (.int .i64 most)).setCell ⟨w.heap.size + 1 + 1 + 1, 1, none⟩ (.int .i64 long)).setCell ⟨w.heap.size + 1 + 1 + 1, 2, none⟩ (.slice A l.length c)) A l) := Lib.hid (by
    by_cases h0 : 0 < l.length
    · have hx : ∀ b' o', A = some ⟨b', o', none⟩ → b' ≠ w.heap.size + 1 + 1 + 1 := fun b' o' e => by have := HAL.out b' o' e h0; omega
      exact ((A1.out.set hx).set hx).set hx
    · have : l = [] := List.eq_nil_of_length_eq_zero (by omega)
      rw [this]
      exact Tab.Ents.nil _ _)
  obtain ⟨⟨t0, t1, t2⟩, _⟩ := T6.out.all3
  obtain ⟨⟨r0, r1, r2⟩, z0, z1, z2⟩ := R.out.all3
  clear R T6 A1 bel P7 F8
  go_wp2_with fail
  refine bodyPost_ret (v := .tuple #[tv most long A l.length c, .slice none 0 0]) ?_ rfl ?_
  · obtain ⟨d0, d1, d2⟩ := R5.out
    simp [results, Tryd.results9, d0, d1, d2, go_sem]
  · exact ⟨A, c, none, 0, rfl, .inl ⟨rfl, rfl⟩, (fun b o h => by cases h), HE.out, Outs.nil _ _, bel3.out⟩

theorem all7_blk {w : World} {m : Nat} {x0 x1 x2 x3 x4 x5 x6 : Value} (h0 : w.cell? ⟨m, 0, none⟩ = some x0) (h1 : w.cell? ⟨m, 1, none⟩ = some x1) (h2 : w.cell? ⟨m, 2, none⟩ = some x2) (h3 : w.cell? ⟨m, 3, none⟩ = some x3) (h4 : w.cell? ⟨m, 4, none⟩ = some x4) (h5 : w.cell? ⟨m, 5, none⟩ = some x5) (h6 : w.cell? ⟨m, 6, none⟩ = some x6) : Bx.Blk w m [x0, x1, x2, x3, x4, x5, x6] := fun j v hv => by
  match j, hv with
  | 0, hv => cases hv; exact h0
  | 1, hv => cases hv; exact h1
  | 2, hv => cases hv; exact h2
  | 3, hv => cases hv; exact h3
  | 4, hv => cases hv; exact h4
  | 5, hv => cases hv; exact h5
  | 6, hv => cases hv; exact h6

set_option maxRecDepth 100000 in
set_option maxHeartbeats 4000000 in
theorem forward_go (most long : Int) (l : List Tab.En) (A : Option Addr) (c : Nat) (o k : Nat → Int) (AP : Option Addr) (np cp : Nat) (d s : Int) (g : Bool) (p vv t : Int) (X : ByteArray) (q ln op : Int) (v : Int) (l2 : List Tab.En) (x : Int) (outs : List Ou) (w : World) (hA : Tab.Ents w A l)
    (HTK : Hid (∀ w', Below w.heap.size w w' → Calls Tryd.prog 21 #[Mem.pv o k AP np cp, .int .i64 q, fr d s g p vv t X] w' fun e w'' => e = .returned (.tuple #[.int .i64 v, .bool true]) ∧ Below w'.heap.size w' w''))
    (HK : Hid (∀ w', Below w.heap.size w w' → Calls Tryd.prog 12 #[fr d s g p vv t X] w' fun e w'' => e = .returned (.int .i64 0) ∧ Below w'.heap.size w' w''))
    (HL : Hid (∀ w', Below w.heap.size w w' → Tab.Ents w' A l → Calls Tryd.prog 14 #[tv most long A l.length c, fr d s g p vv t X, .int .i64 v, .int .i64 q, .int .i64 ln] w' (GivesT A l most long l2 w')))
    (HP : Hid (∀ (B : Option Addr) (cb : Nat) (w' : World), Below w.heap.size w w' → Tab.Ents w' B l2 → Calls Tryd.prog 16 #[tv most long B l2.length cb, Mem.pv o k AP np cp, fr d s g p vv t X, .int .i64 v, .int .i64 q, .int .i64 op] w' fun e w'' => e = .returned (.int .i64 x) ∧ Below w'.heap.size w' w''))
    (HO : Hid (∀ (b7 b14 b8 : Nat) (w' : World), Below w.heap.size w w' → Bx.Blk w' b7 (Mem.pc o k AP np cp) → w'.cell? ⟨b14, 0, none⟩ = some (.int .i64 v) → Bx.Blk w' b8 (Mem.fc d s g p vv t X) → Calls Tryd.prog 35 #[.int .i64 x, .func (.func 33) #[] #[.pointer (some ⟨b7, 0, none⟩), .pointer (some ⟨b14, 0, none⟩), .pointer (some ⟨b8, 0, none⟩)]] w' (GivesO outs w'))) :
    Calls Tryd.prog 9 #[tv most long A l.length c, Mem.pv o k AP np cp, fr d s g p vv t X, .int .i64 q, .int .i64 ln, .int .i64 op] w (GivesF A l most long l2 outs w) := by
  have bel := Lib.hid (Bx.bel_box (Bx.bel_box (Bx.bel_box (Bx.box_below w (to most long A l.length c)) (Mem.po o k AP np cp)) (Mem.fo d s g p vv t X)) (to 0 0 none 0 0))
  have A1 := Lib.hid (hA.below bel.out)
  have T6 := Lib.hid ((((Bx.Fre.new w [.int .i64 most, .int .i64 long, .slice A l.length c] 24).more (Mem.po o k AP np cp)).more (Mem.fo d s g p vv t X)).more (to 0 0 none 0 0))
  have P7 := Lib.hid (((Bx.Blk.new_at (W := w.alloc (to most long A l.length c)) (k := w.heap.size + 1) (Mem.pc o k AP np cp) 28 (by simp)).more (Mem.fo d s g p vv t X)).more (to 0 0 none 0 0))
  have F8 := Lib.hid ((Bx.Blk.new_at (W := (w.alloc (to most long A l.length c)).alloc (Mem.po o k AP np cp)) (k := w.heap.size + 1 + 1) (Mem.fc d s g p vv t X) 32 (by simp)).more (to 0 0 none 0 0))
  have R := Lib.hid (Bx.Fre.new_at (W := ((w.alloc (to most long A l.length c)).alloc (Mem.po o k AP np cp)).alloc (Mem.fo d s g p vv t X)) (k := w.heap.size + 1 + 1 + 1) [.int .i64 0, .int .i64 0, .slice none 0 0] 24 (by simp))
  have hsz := Lib.hid (show ((((w.alloc (to most long A l.length c)).alloc (Mem.po o k AP np cp)).alloc (Mem.fo d s g p vv t X)).alloc (to 0 0 none 0 0)).heap.size = w.heap.size + 4 by simp)
  have hle : w.heap.size ≤ w.heap.size + 1 + 1 + 1 := by omega
  have HAL := Lib.hid (fun b' o' (e : A = some ⟨b', o', none⟩) (h : 0 < l.length) => show b' < w.heap.size by
    obtain ⟨b, o, e2, hb, _⟩ := hA.at h
    rw [e] at e2
    cases e2
    exact hb)
  obtain ⟨f0, f1, f2, f3, f4, f5, f6⟩ := F8.out.all7
  clear hA
  go_enter Tryd.func9, Tryd.ntmps9
  go_wp2_with (first | ((with_reducible refine Mem.load_at ?_ ?_ (w.heap.size + 1) ?_ o k AP np cp ?_ ?_); (· rfl); (· rfl); (· rfl); (· exact P7.out)))
  refine (HTK.out _ bel.out).mono ?_; rintro e w1 ⟨rfl, hb⟩
  have hsz1 : w.heap.size + 4 ≤ w1.heap.size := by have := hb.size; have := hsz.out; omega
  replace hb := Bx.bel_box hb (Obj.cells #[.int .i64 v] 3)
  have V14 := Lib.hid (Bx.Blk.new w1 [.int .i64 v] 3).all1
  replace bel := Lib.hid (Bx.then_below bel.out hb)
  replace A1 := Lib.hid (A1.out.below hb)
  replace T6 := Lib.hid (T6.out.keep hb)
  replace P7 := Lib.hid (P7.out.keep hb)
  replace F8 := Lib.hid (F8.out.keep hb)
  replace R := Lib.hid (R.out.keep hb)
  clear hb f0 f1 f2 f3 f4 f5 f6
  obtain ⟨f0, f1, f2, f3, f4, f5, f6⟩ := F8.out.all7
  go_wp2_with fail
  refine (HK.out _ bel.out).mono ?_; rintro e w2 ⟨rfl, hb⟩
  have hsz2 : w.heap.size + 4 ≤ w2.heap.size := by have := hb.size; simp at this; omega
  replace bel := Lib.hid (Bx.then_below bel.out hb)
  replace A1 := Lib.hid (A1.out.below hb)
  replace T6 := Lib.hid (T6.out.keep hb)
  replace P7 := Lib.hid (P7.out.keep hb)
  replace F8 := Lib.hid (F8.out.keep hb)
  replace R := Lib.hid (R.out.keep hb)
  replace V14 := Lib.hid (Bx.keep_cell hb V14.out)
  clear hb f0 f1 f2 f3 f4 f5 f6
  obtain ⟨f0, f1, f2, f3, f4, f5, f6⟩ := F8.out.all7
  obtain ⟨⟨t0, t1, t2⟩, _⟩ := T6.out.all3
  have c14 := V14.out
  go_wp2_with fail
  refine (HL.out _ bel.out A1.out).mono ?_; rintro e w3 ⟨B, cb, rfl, hB, hE, hb⟩
  have hBN := Lib.hid (show ∀ b' o', B = some ⟨b', o', none⟩ → 0 < l2.length → b' < w.heap.size ∨ w.heap.size + 4 ≤ b' from fun b' o' e h => by
    rcases hB with ⟨rfl, rfl⟩ | hB
    · exact .inl (HAL.out b' o' e h)
    · have := hB b' o' e
      exact .inr (by omega))
  have hBW := Lib.hid (show (B = A ∧ l2 = l) ∨ ∀ b o, B = some ⟨b, o, none⟩ → w.heap.size ≤ b from hB.imp id (fun h b o e => by have := h b o e; omega))
  replace bel := Lib.hid (Bx.then_below bel.out hb)
  replace A1 := Lib.hid (A1.out.below hb)
  replace T6 := Lib.hid (T6.out.keep hb)
  replace P7 := Lib.hid (P7.out.keep hb)
  replace F8 := Lib.hid (F8.out.keep hb)
  replace R := Lib.hid (R.out.keep hb)
  replace V14 := Lib.hid (Bx.keep_cell hb V14.out)
  clear hb hB t0 t1 t2 f0 f1 f2 f3 f4 f5 f6 c14 A1 HAL
  have hm6 : w.heap.size ≠ w1.heap.size := by omega
  have n67 : w.heap.size + 1 ≠ w.heap.size := by omega
  have n68 : w.heap.size + 1 + 1 ≠ w.heap.size := by omega
  have n6C : w.heap.size + 1 + 1 + 1 ≠ w.heap.size := by omega
  have n6E : w1.heap.size ≠ w.heap.size := by omega
  have E2 := Lib.hid (show Tab.Ents (((w3.setCell ⟨w.heap.size, 0, none⟩ (.int .i64 most)).setCell ⟨w.heap.size, 1, none⟩ (.int .i64 long)).setCell ⟨w.heap.size, 2, none⟩ (.slice B l2.length cb)) B l2 from by
    by_cases h0 : 0 < l2.length
    · have hx : ∀ b' o', B = some ⟨b', o', none⟩ → b' ≠ w.heap.size := fun b' o' e => by have := hBN.out b' o' e h0; omega
      exact ((hE.set hx).set hx).set hx
    · have : l2 = [] := List.eq_nil_of_length_eq_zero (by omega)
      rw [this]
      exact Tab.Ents.nil _ _)
  obtain ⟨⟨t0, t1, t2⟩, y0, y1, y2⟩ := T6.out.all3
  have bel3 := Lib.hid (((bel.out.setCell (p := ⟨w.heap.size, 0, none⟩) (Nat.le_refl _) (.int .i64 most)).setCell (p := ⟨w.heap.size, 1, none⟩) (Nat.le_refl _) (.int .i64 long)).setCell (p := ⟨w.heap.size, 2, none⟩) (Nat.le_refl _) (.slice B l2.length cb))
  have T7 := Lib.hid (T6.out.1.put3 (x0 := .int .i64 most) (x1 := .int .i64 long) (x2 := .slice B l2.length cb)).all3
  replace P7 := Lib.hid (((P7.out.other (o := 0) (x := .int .i64 most) n67).other (o := 1) (x := .int .i64 long) n67).other (o := 2) (x := .slice B l2.length cb) n67)
  replace F8 := Lib.hid (((F8.out.other (o := 0) (x := .int .i64 most) n68).other (o := 1) (x := .int .i64 long) n68).other (o := 2) (x := .slice B l2.length cb) n68)
  replace R := Lib.hid (((R.out.other (o := 0) (x := .int .i64 most) n6C).other (o := 1) (x := .int .i64 long) n6C).other (o := 2) (x := .slice B l2.length cb) n6C)
  replace V14 := Lib.hid (Bx.cell_off (o := 2) (x := .slice B l2.length cb) n6E (Bx.cell_off (o := 1) (x := .int .i64 long) n6E (Bx.cell_off (o := 0) (x := .int .i64 most) n6E V14.out)))
  clear bel hE T6
  have bel := bel3
  clear bel3
  go_wp2_with fail
  obtain ⟨t0, t1, t2⟩ := T7.out
  obtain ⟨f0, f1, f2, f3, f4, f5, f6⟩ := F8.out.all7
  have n7 : w.heap.size + 1 ≠ w.heap.size + 1 + 1 + 1 := by omega
  have n6 : w.heap.size ≠ w.heap.size + 1 + 1 + 1 := by omega
  have n8 : w.heap.size + 1 + 1 ≠ w.heap.size + 1 + 1 + 1 := by omega
  have n14 : w1.heap.size ≠ w.heap.size + 1 + 1 + 1 := by omega
  have hle6 : w.heap.size ≤ w.heap.size + 1 + 1 + 1 := by omega
  generalize hg : ((w3.setCell ⟨w.heap.size, 0, none⟩ (.int .i64 most)).setCell ⟨w.heap.size, 1, none⟩ (.int .i64 long)).setCell ⟨w.heap.size, 2, none⟩ (.slice B l2.length cb) = W6 at *
  clear hg y0 y1 y2 T7
  replace E2 := Lib.hid (show Tab.Ents W6.drew B l2 from E2.out)
  replace R := Lib.hid R.out.drew
  refine wp_region_noPanic ?_
  refine wp_region_held_drew (S := fun w' => Bx.Blk w' (w.heap.size + 1) (Mem.pc o k AP np cp) ∧ w'.cell? ⟨w.heap.size, 0, none⟩ = some (.int .i64 most) ∧ w'.cell? ⟨w.heap.size, 1, none⟩ = some (.int .i64 long) ∧ w'.cell? ⟨w.heap.size, 2, none⟩ = some (.slice B l2.length cb) ∧ w'.cell? ⟨w.heap.size + 1 + 1, 0, none⟩ = some (.int .u64 d) ∧ w'.cell? ⟨w.heap.size + 1 + 1, 1, none⟩ = some (.int .u64 s) ∧ w'.cell? ⟨w.heap.size + 1 + 1, 2, none⟩ = some (.bool g) ∧ w'.cell? ⟨w.heap.size + 1 + 1, 3, none⟩ = some (.int .i64 p) ∧ w'.cell? ⟨w.heap.size + 1 + 1, 4, none⟩ = some (.int .i64 vv) ∧ w'.cell? ⟨w.heap.size + 1 + 1, 5, none⟩ = some (.int .i64 t) ∧ w'.cell? ⟨w.heap.size + 1 + 1, 6, none⟩ = some (.string X) ∧ w'.cell? ⟨w1.heap.size, 0, none⟩ = some (.int .i64 v)) (by kernel_rfl) (by exact ⟨P7.out, t0, t1, t2, f0, f1, f2, f3, f4, f5, f6, V14.out⟩) (fun hHeld => ?_)
  replace bel := Lib.hid (Bx.bel_drewn bel.out)
  refine wpAnyH_take (i := 0) (oi := ?o0) (v := ?v0) ?hi0 (by kernel_rfl) (by kernel_rfl) (by kernel_rfl) (fun _ _ _ h => h) ?y0 (by assumption) ?r0
  case hi0 => (simp only [List.getElem?_toArray, List.getElem?_cons_zero]; rfl)
  case y0 => (refine Or.inl ⟨by rfl, ?_⟩; intro w' hSw; (try dsimp only at hSw); go_simp; (try with_reducible rfl))
  try simp only [Act.put, List.setIfInBounds_toArray, List.set_cons_zero, List.set_cons_succ]
  refine wpAnyH_take (i := 1) (oi := ?o1) (v := ?v1) ?hi1 (by kernel_rfl) (by kernel_rfl) (by kernel_rfl) (fun _ _ _ h => h) ?y1 (by assumption) ?r1
  case hi1 => (simp only [List.getElem?_toArray, List.getElem?_cons_succ, List.getElem?_cons_zero]; rfl)
  case y1 => (refine Or.inl ⟨by rfl, ?_⟩; intro w' hSw; (try dsimp only at hSw); go_simp; (try with_reducible rfl))
  try simp only [Act.put, List.setIfInBounds_toArray, List.set_cons_zero, List.set_cons_succ]
  refine wpAnyH_take (i := 2) (oi := ?o2) (v := Mem.pv o k AP np cp) ?hi2 (by kernel_rfl) (by kernel_rfl) (by kernel_rfl) (fun _ _ _ h => h) ?y2 (by assumption) ?r2
  case hi2 => (simp only [List.getElem?_toArray, List.getElem?_cons_succ, List.getElem?_cons_zero]; rfl)
  case y2 => (refine Mem.yields_pl rfl _ rfl (w.heap.size + 1) rfl o k AP np cp ?_; intro w' hS; exact hS.1)
  try simp only [Act.put, List.setIfInBounds_toArray, List.set_cons_zero, List.set_cons_succ]
  refine wpAnyH_take (i := 3) (oi := ?o3) (v := ?v3) ?hi3 (by kernel_rfl) (by kernel_rfl) (by kernel_rfl) (fun _ _ _ h => h) ?y3 (by assumption) ?r3
  case hi3 => (simp only [List.getElem?_toArray, List.getElem?_cons_succ, List.getElem?_cons_zero]; rfl)
  case y3 => (refine Or.inl ⟨by rfl, ?_⟩; intro w' hSw; (try dsimp only at hSw); go_simp; (try with_reducible rfl))
  try simp only [Act.put, List.setIfInBounds_toArray, List.set_cons_zero, List.set_cons_succ]
  refine wpAnyH_take (i := 4) (oi := ?o4) (v := ?v4) ?hi4 (by kernel_rfl) (by kernel_rfl) (by kernel_rfl) (fun _ _ _ h => h) ?y4 (by assumption) ?r4
  case hi4 => (simp only [List.getElem?_toArray, List.getElem?_cons_succ, List.getElem?_cons_zero]; rfl)
  case y4 => (refine Or.inl ⟨by rfl, ?_⟩; intro w' hSw; (try dsimp only at hSw); go_simp; (try with_reducible rfl))
  try simp only [Act.put, List.setIfInBounds_toArray, List.set_cons_zero, List.set_cons_succ]
  refine wpAnyH_take (i := 5) (oi := ?o5) (v := ?v5) ?hi5 (by kernel_rfl) (by kernel_rfl) (by kernel_rfl) (fun _ _ _ h => h) ?y5 (by assumption) ?r5
  case hi5 => (simp only [List.getElem?_toArray, List.getElem?_cons_succ, List.getElem?_cons_zero]; rfl)
  case y5 => (refine Or.inl ⟨by rfl, ?_⟩; intro w' hSw; (try dsimp only at hSw); go_simp; (try with_reducible rfl))
  try simp only [Act.put, List.setIfInBounds_toArray, List.set_cons_zero, List.set_cons_succ]
  refine wpAnyH_take (i := 6) (oi := ?o6) (v := ?v6) ?hi6 (by kernel_rfl) (by kernel_rfl) (by kernel_rfl) (fun _ _ _ h => h) ?y6 (by assumption) ?r6
  case hi6 => (simp only [List.getElem?_toArray, List.getElem?_cons_succ, List.getElem?_cons_zero]; rfl)
  case y6 => (refine Or.inl ⟨by rfl, ?_⟩; intro w' hSw; (try dsimp only at hSw); go_simp; (try with_reducible rfl))
  try simp only [Act.put, List.setIfInBounds_toArray, List.set_cons_zero, List.set_cons_succ]
  refine wpAnyH_take (i := 8) (oi := ?o8) (v := ?v8) ?hi8 (by kernel_rfl) (by kernel_rfl) (by kernel_rfl) (fun _ _ _ h => h) ?y8 (by assumption) ?r8
  case hi8 => (simp only [List.getElem?_toArray, List.getElem?_cons_succ, List.getElem?_cons_zero]; rfl)
  case y8 => (refine Or.inl ⟨by rfl, ?_⟩; intro w' hSw; (try dsimp only at hSw); go_simp; (try with_reducible rfl))
  try simp only [Act.put, List.setIfInBounds_toArray, List.set_cons_zero, List.set_cons_succ]
  refine wpAnyH_ready (rs := [7]) (by kernel_rfl) (by simp) ?_
  refine AllReadyH.cons (o := ?o7) ?hi7 ?hst7 AllReadyH.nil
  case hi7 => (simp only [List.getElem?_toArray, List.getElem?_cons_succ, List.getElem?_cons_zero]; rfl)
  intro K hK
  go_simp
  (go_at_call 16; (with_reducible refine (HP.out _ _ _ bel.out E2.out).mono ?_); rintro e w4 ⟨rfl, hb⟩)
  go_wp2_with fail
  refine hK.out _ _ ⟨Bx.Blk.keep hHeld.1 hb, Bx.keep_cell hb hHeld.2.1, Bx.keep_cell hb hHeld.2.2.1, Bx.keep_cell hb hHeld.2.2.2.1, Bx.keep_cell hb hHeld.2.2.2.2.1, Bx.keep_cell hb hHeld.2.2.2.2.2.1, Bx.keep_cell hb hHeld.2.2.2.2.2.2.1, Bx.keep_cell hb hHeld.2.2.2.2.2.2.2.1, Bx.keep_cell hb hHeld.2.2.2.2.2.2.2.2.1, Bx.keep_cell hb hHeld.2.2.2.2.2.2.2.2.2.1, Bx.keep_cell hb hHeld.2.2.2.2.2.2.2.2.2.2.1, Bx.keep_cell hb hHeld.2.2.2.2.2.2.2.2.2.2.2⟩ (fun hNew => ?_)
  clear hHeld
  have hHeld := hNew
  clear hNew hK K
  replace bel := Lib.hid (Bx.then_below bel.out hb)
  replace E2 := Lib.hid (E2.out.below hb)
  replace R := Lib.hid (R.out.keep hb)
  clear hb
  refine wpAnyH_ready (rs := [9]) (by kernel_rfl) (by simp) ?_
  refine AllReadyH.cons (o := ?o9) ?hi9 ?hst9 AllReadyH.nil
  case hi9 => (simp only [List.getElem?_toArray, List.getElem?_cons_succ, List.getElem?_cons_zero]; rfl)
  intro K hK
  go_simp
  (go_at_call 35; (with_reducible refine (HO.out _ _ _ _ bel.out hHeld.1 hHeld.2.2.2.2.2.2.2.2.2.2.2 (all7_blk hHeld.2.2.2.2.1 hHeld.2.2.2.2.2.1 hHeld.2.2.2.2.2.2.1 hHeld.2.2.2.2.2.2.2.1 hHeld.2.2.2.2.2.2.2.2.1 hHeld.2.2.2.2.2.2.2.2.2.1 hHeld.2.2.2.2.2.2.2.2.2.2.1)).mono ?_); rintro e w5 ⟨Ao, co, rfl, hno, hOu, hb⟩)
  go_wp2_with fail
  refine hK.out _ _ ⟨Bx.Blk.keep hHeld.1 hb, Bx.keep_cell hb hHeld.2.1, Bx.keep_cell hb hHeld.2.2.1, Bx.keep_cell hb hHeld.2.2.2.1, Bx.keep_cell hb hHeld.2.2.2.2.1, Bx.keep_cell hb hHeld.2.2.2.2.2.1, Bx.keep_cell hb hHeld.2.2.2.2.2.2.1, Bx.keep_cell hb hHeld.2.2.2.2.2.2.2.1, Bx.keep_cell hb hHeld.2.2.2.2.2.2.2.2.1, Bx.keep_cell hb hHeld.2.2.2.2.2.2.2.2.2.1, Bx.keep_cell hb hHeld.2.2.2.2.2.2.2.2.2.2.1, Bx.keep_cell hb hHeld.2.2.2.2.2.2.2.2.2.2.2⟩ (fun hNew => ?_)
  clear hHeld
  have hHeld := hNew
  clear hNew hK K
  have hnw := Lib.hid (show ∀ b o, Ao = some ⟨b, o, none⟩ → b ≠ w.heap.size + 1 + 1 + 1 ∧ w.heap.size ≤ b from fun b o h => by have := hno b o h; have := R.out.2.1; have := bel.out.size; omega)
  replace bel := Lib.hid (Bx.then_below bel.out hb)
  replace E2 := Lib.hid (E2.out.below hb)
  replace R := Lib.hid (R.out.keep hb)
  have OU := Lib.hid hOu
  clear hOu hno hb
  obtain ⟨⟨r0, r1, r2⟩, z0, z1, z2⟩ := R.out.all3
  refine wpAnyH_ready (rs := [10]) (by kernel_rfl) (by simp) ?_
  refine AllReadyH.cons (o := ?o10) ?hi10 ?hst10 AllReadyH.nil
  case hi10 => (simp only [List.getElem?_toArray, List.getElem?_cons_succ, List.getElem?_cons_zero]; rfl)
  intro K hK
  go_simp
  refine hK.out _ _ ⟨((hHeld.1.other n7).other n7).other n7, Bx.cell_off n6 (Bx.cell_off n6 (Bx.cell_off n6 hHeld.2.1)), Bx.cell_off n6 (Bx.cell_off n6 (Bx.cell_off n6 hHeld.2.2.1)), Bx.cell_off n6 (Bx.cell_off n6 (Bx.cell_off n6 hHeld.2.2.2.1)), Bx.cell_off n8 (Bx.cell_off n8 (Bx.cell_off n8 hHeld.2.2.2.2.1)), Bx.cell_off n8 (Bx.cell_off n8 (Bx.cell_off n8 hHeld.2.2.2.2.2.1)), Bx.cell_off n8 (Bx.cell_off n8 (Bx.cell_off n8 hHeld.2.2.2.2.2.2.1)), Bx.cell_off n8 (Bx.cell_off n8 (Bx.cell_off n8 hHeld.2.2.2.2.2.2.2.1)), Bx.cell_off n8 (Bx.cell_off n8 (Bx.cell_off n8 hHeld.2.2.2.2.2.2.2.2.1)), Bx.cell_off n8 (Bx.cell_off n8 (Bx.cell_off n8 hHeld.2.2.2.2.2.2.2.2.2.1)), Bx.cell_off n8 (Bx.cell_off n8 (Bx.cell_off n8 hHeld.2.2.2.2.2.2.2.2.2.2.1)), Bx.cell_off n14 (Bx.cell_off n14 (Bx.cell_off n14 hHeld.2.2.2.2.2.2.2.2.2.2.2))⟩ (fun hNew => ?_)
  clear hHeld
  have hHeld := hNew
  clear hNew hK K
  refine wpAnyH_take (i := 11) (oi := ?o11) (v := ?v11) ?hi11 (by kernel_rfl) (by kernel_rfl) (by kernel_rfl) (fun _ _ _ h => h) ?y11 (by assumption) ?r11
  case hi11 => (simp only [List.getElem?_toArray, List.getElem?_cons_succ, List.getElem?_cons_zero]; rfl)
  case y11 => (refine Or.inl ⟨by rfl, ?_⟩; intro w' hSw; (try dsimp only at hSw); go_simp; (try with_reducible rfl))
  try simp only [Act.put, List.setIfInBounds_toArray, List.set_cons_zero, List.set_cons_succ]
  refine wpAnyH_done (by kernel_rfl) ?_ _
  refine NoPanic.normal ?_
  have HBNE := Lib.hid (show ∀ b' o', B = some ⟨b', o', none⟩ → 0 < l2.length → b' ≠ w.heap.size + 1 + 1 + 1 from fun b' o' e h => by have := hBN.out b' o' e h; omega)
  have R5 := Lib.hid (R.out.1.put3 (x0 := .int .i64 most) (x1 := .int .i64 long) (x2 := .slice B l2.length cb)).all3
  have bel3 := Lib.hid (((bel.out.setCell (p := ⟨w.heap.size + 1 + 1 + 1, 0, none⟩) hle6 (.int .i64 most)).setCell (p := ⟨w.heap.size + 1 + 1 + 1, 1, none⟩) hle6 (.int .i64 long)).setCell (p := ⟨w.heap.size + 1 + 1 + 1, 2, none⟩) hle6 (.slice B l2.length cb))
  have HE : Hid (Tab.Ents (((w5.setCell ⟨w.heap.size + 1 + 1 + 1, 0, none⟩ (.int .i64 most)).setCell ⟨w.heap.size + 1 + 1 + 1, 1, none⟩ (.int .i64 long)).setCell ⟨w.heap.size + 1 + 1 + 1, 2, none⟩ (.slice B l2.length cb)) B l2) := Lib.hid (by
    by_cases h0 : 0 < l2.length
    · have hx : ∀ b' o', B = some ⟨b', o', none⟩ → b' ≠ w.heap.size + 1 + 1 + 1 := fun b' o' e => HBNE.out b' o' e h0
      exact ((E2.out.set hx).set hx).set hx
    · have : l2 = [] := List.eq_nil_of_length_eq_zero (by omega)
      rw [this]
      exact Tab.Ents.nil _ _)
  have hx5 : ∀ b' o', Ao = some ⟨b', o', none⟩ → b' ≠ w.heap.size + 1 + 1 + 1 := fun b' o' e => (hnw.out b' o' e).1
  have HOU := Lib.hid (((OU.out.set (o := 0) (x := .int .i64 most) hx5).set (o := 1) (x := .int .i64 long) hx5).set (o := 2) (x := .slice B l2.length cb) hx5)
  clear R E2 OU bel hx5 HBNE hBN t0 t1 t2 f0 f1 f2 f3 f4 f5 f6 r0 r1 r2 z0 z1 z2 P7 F8 V14 hHeld
  go_wp2_with fail
  refine bodyPost_ret (v := .tuple #[tv most long B l2.length cb, .slice Ao outs.length co]) ?_ rfl ?_
  · obtain ⟨d0, d1, d2⟩ := R5.out
    simp [results, Tryd.results9, d0, d1, d2, go_sem]
  · exact ⟨B, cb, Ao, co, rfl, hBW.out, (fun b o h => (hnw.out b o h).2), HE.out, HOU.out, bel3.out⟩

/-- Whether a frame goes on; the entries behind it; what goes out. -/
def onB (o k : Nat → Int) (L : List Mem.Vl) (d : Nat) (q : Int) (g : Bool) (vv t : Int) : Bool := Mem.takB o k L q g vv && decide (kindN t d = 0)
def fwdL (most : Int) (l : List Tab.En) (o k : Nat → Int) (L : List Mem.Vl) (d s : Nat) (g : Bool) (vv t q ln : Int) : List Tab.En := if onB o k L d q g vv t then learnsL most l (Mem.takV o k L q g vv) s q ln else l
def fwdO (most : Int) (l : List Tab.En) (o k : Nat → Int) (L : List Mem.Vl) (d s : Nat) (g : Bool) (p vv t : Int) (X : ByteArray) (q ln op : Int) : List Ou :=
  if onB o k L d q g vv t then outsL L (Mem.takV o k L q g vv) d s p t X (portsL (learnsL most l (Mem.takV o k L q g vv) s q ln) L t d (Mem.takV o k L q g vv) q op) else []

theorem learns_len (most : Int) (l : List Tab.En) (v : Int) (s : Nat) (q ln : Int) : (learnsL most l v s q ln).length ≤ l.length + 1 := by
  unfold learnsL
  split
  · exact learn_len most l v s q
  · omega

theorem forward_any (most long : Int) (l : List Tab.En) (hl : l.length ≤ 99999) (A : Option Addr) (c : Nat) (o k : Nat → Int) (L : List Mem.Vl) (hL : L.length ≤ maxLen) (AP : Option Addr) (cp : Nat) (d : Nat) (hd : d < 18446744073709551616) (s : Nat) (hs : s < 18446744073709551616) (g : Bool) (p vv t : Int) (X : ByteArray) (q ln op : Int) (w : World) (hA : Tab.Ents w A l) (hP : Mem.Vls w AP L) (hm : Home w) :
    Calls Tryd.prog 9 #[tv most long A l.length c, Mem.pv o k AP L.length cp, fr d s g p vv t X, .int .i64 q, .int .i64 ln, .int .i64 op] w (GivesF A l most long (fwdL most l o k L d s g vv t q ln) (fwdO most l o k L d s g p vv t X q ln op) w) := by
  have HT := fun w' (hb : Below w.heap.size w w') => Mem.takes_any o k L hL AP cp q d s g p vv t X w' (hP.below hb)
  have HK := fun w' (hb : Below w.heap.size w w') => kind_any d s g p vv t X w' (hm.below hb)
  cases ht : Mem.takB o k L q g vv with
  | false =>
    rw [ht] at HT
    have hn : onB o k L d q g vv t = false := by unfold onB; rw [ht]; rfl
    rw [show fwdL most l o k L d s g vv t q ln = l by unfold fwdL; rw [hn]; rfl, show fwdO most l o k L d s g p vv t X q ln op = [] by unfold fwdO; rw [hn]; rfl]
    exact forward_no most long l A c o k AP L.length cp d s g p vv t X q ln op _ w hA (Lib.hid HT)
  | true =>
    rw [ht] at HT
    by_cases hk : kindN t d = 0
    · have hn : onB o k L d q g vv t = true := by unfold onB; rw [ht, decide_eq_true hk]; rfl
      rw [hk] at HK
      rw [show fwdL most l o k L d s g vv t q ln = learnsL most l (Mem.takV o k L q g vv) s q ln by unfold fwdL; rw [hn]; rfl, show fwdO most l o k L d s g p vv t X q ln op = outsL L (Mem.takV o k L q g vv) d s p t X (portsL (learnsL most l (Mem.takV o k L q g vv) s q ln) L t d (Mem.takV o k L q g vv) q op) by unfold fwdO; rw [hn]; rfl]
      have hll := learns_len most l (Mem.takV o k L q g vv) s q ln
      refine forward_go most long l A c o k AP L.length cp d s g p vv t X q ln op _ _ (portsI (learnsL most l (Mem.takV o k L q g vv) s q ln) L t d (Mem.takV o k L q g vv) q op) _ w hA (Lib.hid HT) (Lib.hid HK) (Lib.hid fun w' hb hA' => learns_any most long l (by omega) A c d s hs g p vv t X _ q ln w' hA')
        (Lib.hid fun B cb w' hb hE => ports_any most long _ (by unfold maxLen; omega) B cb o k L hL AP cp d hd s g p vv t X _ q op w' hE (hP.below hb) (hm.below hb)) (Lib.hid fun b7 b14 b8 w' hb h7 h14 h8 => ?_)
      refine handed_any _ b7 b14 b8 (fun to => sentF L (Mem.takV o k L q g vv) to d s p t X) w' (Lib.hid fun to w1 hb1 => ?_)
      refine sent_fn o k AP L.length cp b7 b14 b8 to (Mem.takV o k L q g vv) d s g p vv t X _ (Mem.sndB L (Mem.takV o k L q g vv) to) w1 (h7.keep hb1) (Bx.keep_cell hb1 h14) (h8.keep hb1) (Lib.hid fun w2 hb2 => ?_)
      have h := Mem.sends_any o k L hL AP cp to (Mem.takV o k L q g vv) d s g p vv t X w2 (((hP.below hb).below hb1).below hb2)
      rw [snd_is] at h
      exact h
    · have hn : onB o k L d q g vv t = false := by unfold onB; rw [decide_eq_false hk, Bool.and_false]
      rw [show fwdL most l o k L d s g vv t q ln = l by unfold fwdL; rw [hn]; rfl, show fwdO most l o k L d s g p vv t X q ln op = [] by unfold fwdO; rw [hn]; rfl]
      exact forward_kind most long l A c o k AP L.length cp d s g p vv t X q ln op _ _ hk w hA (Lib.hid HT) (Lib.hid HK)

end Fwd
end Go.Proofs.YtmojegnflcokjaaDoor
