/-
  The document's own Forward, of a table whose entries stand in order.
-/
import Derived.Test.YtmojegnflcokjaaDoorFwdH
namespace Go.Proofs.YtmojegnflcokjaaDoor
open Go.RowKit
namespace Fwd
open Oct Eth Tab

set_option maxRecDepth 100000 in
set_option maxHeartbeats 4000000 in
theorem rforward_no (most long : Int) (l : List Tab.En) (A : Option Addr) (c : Nat) (o k : Nat → Int) (AP : Option Addr) (np cp : Nat) (d s : Int) (g : Bool) (p vv t : Int) (X : ByteArray) (q ln op : Int) (v : Int) (w : World) (hA : Tab.Ents w A l)
    (HTK : Hid (∀ w', Below w.heap.size w w' → Calls Tryd.prog 36 #[Mem.pv o k AP np cp, .int .i64 q, fr d s g p vv t X] w' fun e w'' => e = .returned (.tuple #[.int .i64 v, .bool false]) ∧ Below w'.heap.size w' w'')) :
    Calls Tryd.prog 10 #[tv most long A l.length c, Mem.pv o k AP np cp, fr d s g p vv t X, .int .i64 q, .int .i64 ln, .int .i64 op] w (GivesF A l most long l [] w) := by
  have bel := Lib.hid (Bx.bel_box (Bx.bel_box (Bx.bel_box (Bx.box_below w (to most long A l.length c)) (Mem.po o k AP np cp)) (Mem.fo d s g p vv t X)) (to 0 0 none 0 0))
  have A1 := Lib.hid (hA.below bel.out)
  have T6 := Lib.hid ((((Bx.Fre.new w [.int .i64 most, .int .i64 long, .slice A l.length c] 24).more (Mem.po o k AP np cp)).more (Mem.fo d s g p vv t X)).more (to 0 0 none 0 0))
  have P7 := Lib.hid (((Bx.Blk.new_at (W := w.alloc (to most long A l.length c)) (k := w.heap.size + 1) (Mem.pc o k AP np cp) 28 (by simp)).more (Mem.fo d s g p vv t X)).more (to 0 0 none 0 0))
  have F8 := Lib.hid ((Bx.Blk.new_at (W := (w.alloc (to most long A l.length c)).alloc (Mem.po o k AP np cp)) (k := w.heap.size + 1 + 1) (Mem.fc d s g p vv t X) 32 (by simp)).more (to 0 0 none 0 0))
  have R := Lib.hid (Bx.Fre.new_at (W := ((w.alloc (to most long A l.length c)).alloc (Mem.po o k AP np cp)).alloc (Mem.fo d s g p vv t X)) (k := w.heap.size + 1 + 1 + 1) [.int .i64 0, .int .i64 0, .slice none 0 0] 24 (by simp))
  have hsz := Lib.hid (show ((((w.alloc (to most long A l.length c)).alloc (Mem.po o k AP np cp)).alloc (Mem.fo d s g p vv t X)).alloc (to 0 0 none 0 0)).heap.size = w.heap.size + 4 by simp)
  have hle : w.heap.size ≤ w.heap.size + 1 + 1 + 1 := by omega
  have HAL := Lib.hid (fun b' o' (e : A = some ⟨b', o', none⟩) (h : 0 < l.length) => show b' < w.heap.size by
    obtain ⟨b, o, e2, hb, _⟩ := hA.at h
    rw [e] at e2
    cases e2
    exact hb)
  obtain ⟨f0, f1, f2, f3, f4, f5, f6⟩ := F8.out.all7
  clear hA
  go_enter Tryd.func10, Tryd.ntmps10
  go_wp2_with (first | ((with_reducible refine Mem.load_at ?_ ?_ (w.heap.size + 1) ?_ o k AP np cp ?_ ?_); (· rfl); (· rfl); (· rfl); (· exact P7.out)))
  refine (HTK.out _ bel.out).mono ?_; rintro e w1 ⟨rfl, hb⟩
  have hsz1 : w.heap.size + 4 ≤ w1.heap.size := by have := hb.size; have := hsz.out; omega
  replace bel := Lib.hid (Bx.then_below bel.out hb)
  replace A1 := Lib.hid (A1.out.below hb)
  replace T6 := Lib.hid (T6.out.keep hb)
  replace P7 := Lib.hid (P7.out.keep hb)
  replace F8 := Lib.hid (F8.out.keep hb)
  replace R := Lib.hid (R.out.keep hb)
  clear hb f0 f1 f2 f3 f4 f5 f6
  obtain ⟨f0, f1, f2, f3, f4, f5, f6⟩ := F8.out.all7
  have R5 := Lib.hid (R.out.1.put3 (x0 := .int .i64 most) (x1 := .int .i64 long) (x2 := .slice A l.length c)).all3
  have bel3 := Lib.hid (((bel.out.setCell (p := ⟨w.heap.size + 1 + 1 + 1, 0, none⟩) hle (.int .i64 most)).setCell (p := ⟨w.heap.size + 1 + 1 + 1, 1, none⟩) hle (.int .i64 long)).setCell (p := ⟨w.heap.size + 1 + 1 + 1, 2, none⟩) hle (.slice A l.length c))
  have HE : Hid (Tab.Ents (((w1.setCell ⟨w.heap.size + 1 + 1 + 1, 0, none⟩ (.int .i64 most)).setCell ⟨w.heap.size + 1 + 1 + 1, 1, none⟩ (.int .i64 long)).setCell ⟨w.heap.size + 1 + 1 + 1, 2, none⟩ (.slice A l.length c)) A l) := Lib.hid (by
    by_cases h0 : 0 < l.length
    · have hx : ∀ b' o', A = some ⟨b', o', none⟩ → b' ≠ w.heap.size + 1 + 1 + 1 := fun b' o' e => by have := HAL.out b' o' e h0; omega
      exact ((A1.out.set hx).set hx).set hx
    · have : l = [] := List.eq_nil_of_length_eq_zero (by omega)
      rw [this]
      exact Tab.Ents.nil _ _)
  obtain ⟨⟨t0, t1, t2⟩, _⟩ := T6.out.all3
  obtain ⟨⟨r0, r1, r2⟩, z0, z1, z2⟩ := R.out.all3
  clear R T6 A1 bel P7 F8
  go_wp2_with fail
  refine bodyPost_ret (v := .tuple #[tv most long A l.length c, .slice none 0 0]) ?_ rfl ?_
  · obtain ⟨d0, d1, d2⟩ := R5.out
    simp [results, Tryd.results10, d0, d1, d2, go_sem]
  · exact ⟨A, c, none, 0, rfl, .inl ⟨rfl, rfl⟩, (fun b o h => by cases h), HE.out, Outs.nil _ _, bel3.out⟩

set_option maxRecDepth 100000 in
set_option maxHeartbeats 4000000 in
theorem rforward_kind (most long : Int) (l : List Tab.En) (A : Option Addr) (c : Nat) (o k : Nat → Int) (AP : Option Addr) (np cp : Nat) (d s : Int) (g : Bool) (p vv t : Int) (X : ByteArray) (q ln op : Int) (v K : Int) (hK : ¬ K = 0) (w : World) (hA : Tab.Ents w A l)
    (HTK : Hid (∀ w', Below w.heap.size w w' → Calls Tryd.prog 36 #[Mem.pv o k AP np cp, .int .i64 q, fr d s g p vv t X] w' fun e w'' => e = .returned (.tuple #[.int .i64 v, .bool true]) ∧ Below w'.heap.size w' w''))
    (HK : Hid (∀ w', Below w.heap.size w w' → Calls Tryd.prog 13 #[fr d s g p vv t X] w' fun e w'' => e = .returned (.int .i64 K) ∧ Below w'.heap.size w' w'')) :
    Calls Tryd.prog 10 #[tv most long A l.length c, Mem.pv o k AP np cp, fr d s g p vv t X, .int .i64 q, .int .i64 ln, .int .i64 op] w (GivesF A l most long l [] w) := by
  have e1 : (K == 0) = false := by simpa using hK
  have e2 : (K != 0) = true := by simpa using hK
  have bel := Lib.hid (Bx.bel_box (Bx.bel_box (Bx.bel_box (Bx.box_below w (to most long A l.length c)) (Mem.po o k AP np cp)) (Mem.fo d s g p vv t X)) (to 0 0 none 0 0))
  have A1 := Lib.hid (hA.below bel.out)
  have T6 := Lib.hid ((((Bx.Fre.new w [.int .i64 most, .int .i64 long, .slice A l.length c] 24).more (Mem.po o k AP np cp)).more (Mem.fo d s g p vv t X)).more (to 0 0 none 0 0))
  have P7 := Lib.hid (((Bx.Blk.new_at (W := w.alloc (to most long A l.length c)) (k := w.heap.size + 1) (Mem.pc o k AP np cp) 28 (by simp)).more (Mem.fo d s g p vv t X)).more (to 0 0 none 0 0))
  have F8 := Lib.hid ((Bx.Blk.new_at (W := (w.alloc (to most long A l.length c)).alloc (Mem.po o k AP np cp)) (k := w.heap.size + 1 + 1) (Mem.fc d s g p vv t X) 32 (by simp)).more (to 0 0 none 0 0))
  have R := Lib.hid (Bx.Fre.new_at (W := ((w.alloc (to most long A l.length c)).alloc (Mem.po o k AP np cp)).alloc (Mem.fo d s g p vv t X)) (k := w.heap.size + 1 + 1 + 1) [.int .i64 0, .int .i64 0, .slice none 0 0] 24 (by simp))
  have hsz := Lib.hid (show ((((w.alloc (to most long A l.length c)).alloc (Mem.po o k AP np cp)).alloc (Mem.fo d s g p vv t X)).alloc (to 0 0 none 0 0)).heap.size = w.heap.size + 4 by simp)
  have hle : w.heap.size ≤ w.heap.size + 1 + 1 + 1 := by omega
  have HAL := Lib.hid (fun b' o' (e : A = some ⟨b', o', none⟩) (h : 0 < l.length) => show b' < w.heap.size by
    obtain ⟨b, o, e2, hb, _⟩ := hA.at h
    rw [e] at e2
    cases e2
    exact hb)
  obtain ⟨f0, f1, f2, f3, f4, f5, f6⟩ := F8.out.all7
  clear hA
  go_enter Tryd.func10, Tryd.ntmps10
  go_wp2_with (first | ((with_reducible refine Mem.load_at ?_ ?_ (w.heap.size + 1) ?_ o k AP np cp ?_ ?_); (· rfl); (· rfl); (· rfl); (· exact P7.out)))
  refine (HTK.out _ bel.out).mono ?_; rintro e w1 ⟨rfl, hb⟩
  have hsz1 : w.heap.size + 4 ≤ w1.heap.size := by have := hb.size; have := hsz.out; omega
  replace bel := Lib.hid (Bx.then_below bel.out hb)
  replace A1 := Lib.hid (A1.out.below hb)
  replace T6 := Lib.hid (T6.out.keep hb)
  replace P7 := Lib.hid (P7.out.keep hb)
  replace F8 := Lib.hid (F8.out.keep hb)
  replace R := Lib.hid (R.out.keep hb)
  clear hb f0 f1 f2 f3 f4 f5 f6
  obtain ⟨f0, f1, f2, f3, f4, f5, f6⟩ := F8.out.all7
  go_wp2_with fail
  refine (HK.out _ bel.out).mono ?_; rintro e w2 ⟨rfl, hb⟩
  replace bel := Lib.hid (Bx.then_below bel.out hb)
  replace A1 := Lib.hid (A1.out.below hb)
  replace T6 := Lib.hid (T6.out.keep hb)
  replace P7 := Lib.hid (P7.out.keep hb)
  replace F8 := Lib.hid (F8.out.keep hb)
  replace R := Lib.hid (R.out.keep hb)
  clear hb f0 f1 f2 f3 f4 f5 f6
  have R5 := Lib.hid (R.out.1.put3 (x0 := .int .i64 most) (x1 := .int .i64 long) (x2 := .slice A l.length c)).all3
  have bel3 := Lib.hid (((bel.out.setCell (p := ⟨w.heap.size + 1 + 1 + 1, 0, none⟩) hle (.int .i64 most)).setCell (p := ⟨w.heap.size + 1 + 1 + 1, 1, none⟩) hle (.int .i64 long)).setCell (p := ⟨w.heap.size + 1 + 1 + 1, 2, none⟩) hle (.slice A l.length c))
  have HE : Hid (Tab.Ents (((w2.setCell ⟨w.heap.size + 1 + 1 + 1, 0, none⟩ (.int .i64 most)).setCell ⟨w.heap.size + 1 + 1 + 1, 1, none⟩ (.int .i64 long)).setCell ⟨w.heap.size + 1 + 1 + 1, 2, none⟩ (.slice A l.length c)) A l) := Lib.hid (by
    by_cases h0 : 0 < l.length
    · have hx : ∀ b' o', A = some ⟨b', o', none⟩ → b' ≠ w.heap.size + 1 + 1 + 1 := fun b' o' e => by have := HAL.out b' o' e h0; omega
      exact ((A1.out.set hx).set hx).set hx
    · have : l = [] := List.eq_nil_of_length_eq_zero (by omega)
      rw [this]
      exact Tab.Ents.nil _ _)
  obtain ⟨⟨t0, t1, t2⟩, _⟩ := T6.out.all3
  obtain ⟨⟨r0, r1, r2⟩, z0, z1, z2⟩ := R.out.all3
  clear R T6 A1 bel P7 F8
  go_wp2_with fail
  refine bodyPost_ret (v := .tuple #[tv most long A l.length c, .slice none 0 0]) ?_ rfl ?_
  · obtain ⟨d0, d1, d2⟩ := R5.out
    simp [results, Tryd.results10, d0, d1, d2, go_sem]
  · exact ⟨A, c, none, 0, rfl, .inl ⟨rfl, rfl⟩, (fun b o h => by cases h), HE.out, Outs.nil _ _, bel3.out⟩

set_option maxRecDepth 100000 in
set_option maxHeartbeats 4000000 in
theorem rforward_go (most long : Int) (l : List Tab.En) (A : Option Addr) (c : Nat) (o k : Nat → Int) (AP : Option Addr) (np cp : Nat) (d s : Int) (g : Bool) (p vv t : Int) (X : ByteArray) (q ln op : Int) (v : Int) (l2 : List Tab.En) (x : Int) (ps : List Int) (hps : ps.length ≤ 8) (Fs : Int → Fm) (w : World) (hA : Tab.Ents w A l)
    (HTK : Hid (∀ w', Below w.heap.size w w' → Calls Tryd.prog 36 #[Mem.pv o k AP np cp, .int .i64 q, fr d s g p vv t X] w' fun e w'' => e = .returned (.tuple #[.int .i64 v, .bool true]) ∧ Below w'.heap.size w' w''))
    (HK : Hid (∀ w', Below w.heap.size w w' → Calls Tryd.prog 13 #[fr d s g p vv t X] w' fun e w'' => e = .returned (.int .i64 0) ∧ Below w'.heap.size w' w''))
    (HL : Hid (∀ w', Below w.heap.size w w' → Tab.Ents w' A l → Calls Tryd.prog 15 #[tv most long A l.length c, fr d s g p vv t X, .int .i64 v, .int .i64 q, .int .i64 ln] w' (GivesT A l most long l2 w')))
    (HP : Hid (∀ (B : Option Addr) (cb : Nat) (w' : World), Below w.heap.size w w' → Tab.Ents w' B l2 → Calls Tryd.prog 17 #[tv most long B l2.length cb, Mem.pv o k AP np cp, fr d s g p vv t X, .int .i64 v, .int .i64 q, .int .i64 op] w' fun e w'' => e = .returned (.int .i64 x) ∧ Below w'.heap.size w' w''))
    (HLI : Hid (∀ (w' : World), Calls Tryd.prog 37 #[.int .i64 x] w' (Bx.Gives ps w')))
    (HS : Hid (∀ (to : Int) (w' : World), to ∈ ps → Below w.heap.size w w' → Calls Tryd.prog 38 #[Mem.pv o k AP np cp, .int .i64 to, .int .i64 v, fr d s g p vv t X] w' fun e w'' => e = .returned (.tuple #[fmv (Fs to), .bool true]) ∧ Below w'.heap.size w' w'')) :
    Calls Tryd.prog 10 #[tv most long A l.length c, Mem.pv o k AP np cp, fr d s g p vv t X, .int .i64 q, .int .i64 ln, .int .i64 op] w (GivesF A l most long l2 (ps.map fun q => ⟨q, Fs q⟩) w) := by
  have bel := Lib.hid (Bx.bel_box (Bx.bel_box (Bx.bel_box (Bx.box_below w (to most long A l.length c)) (Mem.po o k AP np cp)) (Mem.fo d s g p vv t X)) (to 0 0 none 0 0))
  have A1 := Lib.hid (hA.below bel.out)
  have T6 := Lib.hid ((((Bx.Fre.new w [.int .i64 most, .int .i64 long, .slice A l.length c] 24).more (Mem.po o k AP np cp)).more (Mem.fo d s g p vv t X)).more (to 0 0 none 0 0))
  have P7 := Lib.hid (((Bx.Blk.new_at (W := w.alloc (to most long A l.length c)) (k := w.heap.size + 1) (Mem.pc o k AP np cp) 28 (by simp)).more (Mem.fo d s g p vv t X)).more (to 0 0 none 0 0))
  have F8 := Lib.hid ((Bx.Blk.new_at (W := (w.alloc (to most long A l.length c)).alloc (Mem.po o k AP np cp)) (k := w.heap.size + 1 + 1) (Mem.fc d s g p vv t X) 32 (by simp)).more (to 0 0 none 0 0))
  have R := Lib.hid (Bx.Fre.new_at (W := ((w.alloc (to most long A l.length c)).alloc (Mem.po o k AP np cp)).alloc (Mem.fo d s g p vv t X)) (k := w.heap.size + 1 + 1 + 1) [.int .i64 0, .int .i64 0, .slice none 0 0] 24 (by simp))
  have hsz := Lib.hid (show ((((w.alloc (to most long A l.length c)).alloc (Mem.po o k AP np cp)).alloc (Mem.fo d s g p vv t X)).alloc (to 0 0 none 0 0)).heap.size = w.heap.size + 4 by simp)
  have hle : w.heap.size ≤ w.heap.size + 1 + 1 + 1 := by omega
  have HAL := Lib.hid (fun b' o' (e : A = some ⟨b', o', none⟩) (h : 0 < l.length) => show b' < w.heap.size by
    obtain ⟨b, o, e2, hb, _⟩ := hA.at h
    rw [e] at e2
    cases e2
    exact hb)
  obtain ⟨f0, f1, f2, f3, f4, f5, f6⟩ := F8.out.all7
  clear hA
  have HT := Lib.hid (fun k (h : k < ps.length) => show ((ps.take (k + 1)).map fun q => (⟨q, Fs q⟩ : Ou)) = ((ps.take k).map fun q => (⟨q, Fs q⟩ : Ou)) ++ [⟨ps[k], Fs ps[k]⟩] by rw [List.take_succ_eq_append_getElem h, List.map_append]; rfl)
  obtain ⟨OS, HOS⟩ : ∃ OS : List Ou, Hid (OS = ps.map fun q => (⟨q, Fs q⟩ : Ou)) := ⟨_, rfl⟩
  rw [← HOS.out]
  have HZ := Lib.hid (show ((ps.take ps.length).map fun q => (⟨q, Fs q⟩ : Ou)) = OS by rw [List.take_length, HOS.out])
  have h8 := Lib.hid hps
  clear hps
  obtain ⟨i0, hi, hz0, hz1, hz2⟩ := info_parts info_out
  go_enter Tryd.func10, Tryd.ntmps10
  go_wp2_with (first | ((with_reducible refine Mem.load_at ?_ ?_ (w.heap.size + 1) ?_ o k AP np cp ?_ ?_); (· rfl); (· rfl); (· rfl); (· exact P7.out)))
  refine (HTK.out _ bel.out).mono ?_; rintro e w1 ⟨rfl, hb⟩
  have hsz1 : w.heap.size + 4 ≤ w1.heap.size := by have := hb.size; have := hsz.out; omega
  replace bel := Lib.hid (Bx.then_below bel.out hb)
  replace A1 := Lib.hid (A1.out.below hb)
  replace T6 := Lib.hid (T6.out.keep hb)
  replace P7 := Lib.hid (P7.out.keep hb)
  replace F8 := Lib.hid (F8.out.keep hb)
  replace R := Lib.hid (R.out.keep hb)
  clear hb f0 f1 f2 f3 f4 f5 f6
  obtain ⟨f0, f1, f2, f3, f4, f5, f6⟩ := F8.out.all7
  go_wp2_with fail
  refine (HK.out _ bel.out).mono ?_; rintro e w2 ⟨rfl, hb⟩
  have hsz2 : w.heap.size + 4 ≤ w2.heap.size := by have := hb.size; omega
  replace bel := Lib.hid (Bx.then_below bel.out hb)
  replace A1 := Lib.hid (A1.out.below hb)
  replace T6 := Lib.hid (T6.out.keep hb)
  replace P7 := Lib.hid (P7.out.keep hb)
  replace F8 := Lib.hid (F8.out.keep hb)
  replace R := Lib.hid (R.out.keep hb)
  clear hb f0 f1 f2 f3 f4 f5 f6
  obtain ⟨f0, f1, f2, f3, f4, f5, f6⟩ := F8.out.all7
  obtain ⟨⟨t0, t1, t2⟩, _⟩ := T6.out.all3
  go_wp2_with fail
  refine (HL.out _ bel.out A1.out).mono ?_; rintro e w3 ⟨B, cb, rfl, hB, hE, hb⟩
  have hBN := Lib.hid (show ∀ b' o', B = some ⟨b', o', none⟩ → 0 < l2.length → b' < w.heap.size ∨ w.heap.size + 4 ≤ b' from fun b' o' e h => by
    rcases hB with ⟨rfl, rfl⟩ | hB
    · exact .inl (HAL.out b' o' e h)
    · have := hB b' o' e
      exact .inr (by omega))
  have hBW := Lib.hid (show (B = A ∧ l2 = l) ∨ ∀ b o, B = some ⟨b, o, none⟩ → w.heap.size ≤ b from hB.imp id (fun h b o e => by have := h b o e; omega))
  replace bel := Lib.hid (Bx.then_below bel.out hb)
  replace A1 := Lib.hid (A1.out.below hb)
  replace T6 := Lib.hid (T6.out.keep hb)
  replace P7 := Lib.hid (P7.out.keep hb)
  replace F8 := Lib.hid (F8.out.keep hb)
  replace R := Lib.hid (R.out.keep hb)
  clear hb hB t0 t1 t2 f0 f1 f2 f3 f4 f5 f6 A1 HAL
  have n67 : w.heap.size + 1 ≠ w.heap.size := by omega
  have n68 : w.heap.size + 1 + 1 ≠ w.heap.size := by omega
  have n6C : w.heap.size + 1 + 1 + 1 ≠ w.heap.size := by omega
  have E2 := Lib.hid (show Tab.Ents (((w3.setCell ⟨w.heap.size, 0, none⟩ (.int .i64 most)).setCell ⟨w.heap.size, 1, none⟩ (.int .i64 long)).setCell ⟨w.heap.size, 2, none⟩ (.slice B l2.length cb)) B l2 from by
    by_cases h0 : 0 < l2.length
    · have hx : ∀ b' o', B = some ⟨b', o', none⟩ → b' ≠ w.heap.size := fun b' o' e => by have := hBN.out b' o' e h0; omega
      exact ((hE.set hx).set hx).set hx
    · have : l2 = [] := List.eq_nil_of_length_eq_zero (by omega)
      rw [this]
      exact Tab.Ents.nil _ _)
  obtain ⟨⟨t0, t1, t2⟩, y0, y1, y2⟩ := T6.out.all3
  have bel3 := Lib.hid (((bel.out.setCell (p := ⟨w.heap.size, 0, none⟩) (Nat.le_refl _) (.int .i64 most)).setCell (p := ⟨w.heap.size, 1, none⟩) (Nat.le_refl _) (.int .i64 long)).setCell (p := ⟨w.heap.size, 2, none⟩) (Nat.le_refl _) (.slice B l2.length cb))
  have T7 := Lib.hid (T6.out.1.put3 (x0 := .int .i64 most) (x1 := .int .i64 long) (x2 := .slice B l2.length cb))
  replace P7 := Lib.hid (((P7.out.other (o := 0) (x := .int .i64 most) n67).other (o := 1) (x := .int .i64 long) n67).other (o := 2) (x := .slice B l2.length cb) n67)
  replace F8 := Lib.hid (((F8.out.other (o := 0) (x := .int .i64 most) n68).other (o := 1) (x := .int .i64 long) n68).other (o := 2) (x := .slice B l2.length cb) n68)
  replace R := Lib.hid (((R.out.other (o := 0) (x := .int .i64 most) n6C).other (o := 1) (x := .int .i64 long) n6C).other (o := 2) (x := .slice B l2.length cb) n6C)
  clear bel hE T6
  have bel := bel3
  clear bel3
  obtain ⟨u0, u1, u2⟩ := T7.out.all3
  obtain ⟨f0, f1, f2, f3, f4, f5, f6⟩ := F8.out.all7
  go_wp2_with (first | ((with_reducible refine Mem.load_at ?_ ?_ (w.heap.size + 1) ?_ o k AP np cp ?_ ?_); (· rfl); (· rfl); (· rfl); (· exact P7.out)))
  refine (HP.out _ _ _ bel.out E2.out).mono ?_; rintro e w4 ⟨rfl, hb⟩
  replace bel := Lib.hid (Bx.then_below bel.out hb)
  replace E2 := Lib.hid (E2.out.below hb)
  replace T7 := Lib.hid (T7.out.keep hb)
  replace P7 := Lib.hid (P7.out.keep hb)
  replace F8 := Lib.hid (F8.out.keep hb)
  replace R := Lib.hid (R.out.keep hb)
  clear hb t0 t1 t2 y0 y1 y2 u0 u1 u2 f0 f1 f2 f3 f4 f5 f6
  go_wp2_with fail
  refine (HLI.out _).mono ?_; rintro e w5 ⟨LA, lcap, rfl, hI, hb⟩
  replace bel := Lib.hid (Bx.then_below bel.out hb)
  replace E2 := Lib.hid (E2.out.below hb)
  replace T7 := Lib.hid (T7.out.keep hb)
  replace P7 := Lib.hid (P7.out.keep hb)
  replace F8 := Lib.hid (F8.out.keep hb)
  replace R := Lib.hid (R.out.keep hb)
  have HI := Lib.hid hI
  have hw5' : w.heap.size + 1 + 1 + 1 < w5.heap.size := R.out.2.1
  clear hb hI
  go_wp2
  go_loopw [16, 18, 19, 20, 51] (fun v16 _ _ _ ix wr => ∃ (j : Nat) (C : Option Addr) (cc : Nat) (os : List Ou), j ≤ ps.length ∧ ix = .int .i64 j ∧ v16 = .slice C os.length cc ∧ os.length ≤ j ∧ Aside (((ps.take j).map fun to => (⟨to, Fs to⟩ : Ou)) = os) ∧
    Aside (wr.ownsRow w5.heap.size 45 8 (.slice C os.length cc) os.length (os.flatMap oc)) ∧ Aside (Below w5.heap.size w5 wr)) (fun _ _ _ _ ix _ => ps.length - (intOf ix).toNat)
  case atStart => exact ⟨0, none, 0, [], Nat.zero_le _, rfl, rfl, Nat.le_refl _, rfl, World.ownsRow_nil _ _ _ _, Below.refl _ _⟩
  case round =>
    obtain ⟨j, C, cc, os, hj, rfl, rfl, ho, HO, HW, HB⟩ := hrel
    have hp8 := h8.out
    by_cases hlt : j < ps.length
    · obtain ⟨ad, rfl, _, c0⟩ := (HI.out.below HB.out).at hlt
      have HN := Lib.hid (HT.out j hlt)
      rw [HO.out] at HN
      have HC := Lib.hid (HS.out ps[j] _ (List.getElem_mem hlt) (Bx.then_below bel.out HB.out))
      generalize ps[j] = to at *
      obtain ⟨y, hy⟩ : ∃ y, y = Fs to := ⟨_, rfl⟩
      rw [← hy] at HC HN
      clear hy
      obtain ⟨d2, s2, g2, p2, v2, t2, X2⟩ := y
      have PJ := Lib.hid (P7.out.keep HB.out)
      obtain ⟨f0, f1, f2, f3, f4, f5, f6⟩ := (F8.out.keep HB.out).all7
      go_wp2_with (first | ((with_reducible refine Mem.load_at ?_ ?_ (w.heap.size + 1) ?_ o k AP np cp ?_ ?_); (· rfl); (· rfl); (· rfl); (· exact PJ.out)))
      refine HC.out.mono ?_; rintro e w6 ⟨rfl, hb⟩
      have B2 := Lib.hid (Bx.bel_box (Bx.then_below HB.out hb) (Mem.fo d2 s2 g2 p2 v2 t2 X2))
      have HW2 := Lib.hid ((own_below HW.out hb).alloc (Mem.fo d2 s2 g2 p2 v2 t2 X2))
      obtain ⟨g0, g1, g2', g3, g4, g5, g6⟩ := (Bx.Blk.new w6 (Mem.fc d2 s2 g2 p2 v2 t2 X2) 32).all7
      clear hb HC c0 f0 f1 f2 f3 f4 f5 f6 PJ
      have hw2 := B2.out.size
      go_wp2_with (at_builtin; refine wpList_append_own_at _ rfl _ _ 40 rfl w5.heap.size 45 i0 (.agg #[.int .i64 0, .int .u64 0, .int .u64 0, .bool false, .int .i64 0, .int .i64 0, .int .i64 0, .string ⟨#[]⟩]) 8 72 Tryd.underlying40 hi hz0 hz1 hz2 rfl (by decide) _ _ _ rfl (HW2.out.alloc _) ⟨_, 0, none⟩ 1 1 (oc ⟨to, ⟨d2, s2, g2, p2, v2, t2, X2⟩⟩) rfl rfl ?c1 ?c2 ?c3 ?c4 ?c5 ?_)
      case c1 => first | exact eight_new _ _ _ _ | exact eight_new _ _ _ _ (by simp) | exact fun j u hu => hu
      case c2 => intro u hu; exact oc_one [⟨to, ⟨d2, s2, g2, p2, v2, t2, X2⟩⟩] u (by simpa using hu)
      case c3 => unfold maxLen; omega
      case c4 => omega
      case c5 => first | omega | (simp at hw2 ⊢; omega)
      intro v' w7 hown' hgrow _ _
      have hrow := (HW2.out).lt
      have bel5 := (Bx.bel_box B2.out (oo ⟨to, ⟨d2, s2, g2, p2, v2, t2, X2⟩⟩)).grown hgrow (by simp at hw2 ⊢; omega) (fun q hq => (hrow q hq).1)
      obtain ⟨C', c', rfl, hW'⟩ := own_next hown'
      have HW3 := Lib.hid hW'
      have HBL := Lib.hid bel5
      clear hown' hgrow hrow hW' bel5
      go_wp2
      go_roundw
      case rel => exact ⟨j + 1, C', c', os ++ [(⟨to, ⟨d2, s2, g2, p2, v2, t2, X2⟩⟩ : Ou)], by omega, by go_num, rfl, by simp; omega, HN.out, HW3.out, HBL.out⟩
      case measure => simp [intOf]; omega
    · obtain rfl : j = ps.length := by omega
      have HE := Lib.hid (show os = OS by rw [← HO.out]; exact HZ.out)
      replace bel := Lib.hid (Bx.then_below bel.out HB.out)
      replace E2 := Lib.hid (E2.out.below HB.out)
      replace R := Lib.hid (R.out.keep HB.out)
      have hw5 : w.heap.size + 1 + 1 + 1 < w5.heap.size := hw5'
      obtain ⟨t0, t1, t2⟩ := (T7.out.keep HB.out).all3
      obtain ⟨⟨r0, r1, r2⟩, z0, z1, z2⟩ := R.out.all3
      have hle6 : w.heap.size ≤ w.heap.size + 1 + 1 + 1 := by omega
      have R5 := Lib.hid (R.out.1.put3 (x0 := .int .i64 most) (x1 := .int .i64 long) (x2 := .slice B l2.length cb)).all3
      have bel3 := Lib.hid (((bel.out.setCell (p := ⟨w.heap.size + 1 + 1 + 1, 0, none⟩) hle6 (.int .i64 most)).setCell (p := ⟨w.heap.size + 1 + 1 + 1, 1, none⟩) hle6 (.int .i64 long)).setCell (p := ⟨w.heap.size + 1 + 1 + 1, 2, none⟩) hle6 (.slice B l2.length cb))
      have HEN : Hid (Tab.Ents (((wr.setCell ⟨w.heap.size + 1 + 1 + 1, 0, none⟩ (.int .i64 most)).setCell ⟨w.heap.size + 1 + 1 + 1, 1, none⟩ (.int .i64 long)).setCell ⟨w.heap.size + 1 + 1 + 1, 2, none⟩ (.slice B l2.length cb)) B l2) := Lib.hid (by
        by_cases h0 : 0 < l2.length
        · have hx : ∀ b' o', B = some ⟨b', o', none⟩ → b' ≠ w.heap.size + 1 + 1 + 1 := fun b' o' e => by have := hBN.out b' o' e h0; omega
          exact ((E2.out.set hx).set hx).set hx
        · have : l2 = [] := List.eq_nil_of_length_eq_zero (by omega)
          rw [this]
          exact Tab.Ents.nil _ _)
      have HW5 := Lib.hid (own_set (o := 2) (x := .slice B l2.length cb) (own_set (o := 1) (x := .int .i64 long) (own_set (o := 0) (x := .int .i64 most) HW.out hw5) hw5) hw5)
      have HF := Lib.hid (show GivesF A l most long l2 OS w (.returned (.tuple #[tv most long B l2.length cb, .slice C os.length cc])) (((wr.setCell ⟨w.heap.size + 1 + 1 + 1, 0, none⟩ (.int .i64 most)).setCell ⟨w.heap.size + 1 + 1 + 1, 1, none⟩ (.int .i64 long)).setCell ⟨w.heap.size + 1 + 1 + 1, 2, none⟩ (.slice B l2.length cb)) from
        ⟨B, cb, C, cc, by rw [HE.out], hBW.out, (fun b o' hb => by have := (HW5.out.lt b (by rw [hb]; rfl)).1; omega), HEN.out, by rw [← HE.out]; exact Outs.of_own3 HW5.out, bel3.out⟩)
      clear R E2 bel HW HW5 HEN bel3 hBN hBW T7 P7 F8 HI HT HZ HE
      go_wp2_with fail
      refine bodyPost_ret (v := .tuple #[tv most long B l2.length cb, .slice C os.length cc]) ?_ rfl ?_
      · obtain ⟨d0, d1, d2⟩ := R5.out
        simp [results, Tryd.results10, d0, d1, d2, go_sem]
      · exact HF.out

theorem rforward_any (most long : Int) (l : List Tab.En) (hl : l.length ≤ 99999) (hsr : l.Pairwise fun x y => ahd x y = true) (A : Option Addr) (c : Nat) (o k : Nat → Int) (L : List Mem.Vl) (hL : L.length ≤ maxLen) (AP : Option Addr) (cp : Nat) (d : Nat) (hd : d < 18446744073709551616) (s : Nat) (hs : s < 18446744073709551616) (g : Bool) (p vv t : Int) (X : ByteArray) (q ln op : Int) (w : World) (hA : Tab.Ents w A l) (hP : Mem.Vls w AP L) :
    Calls Tryd.prog 10 #[tv most long A l.length c, Mem.pv o k AP L.length cp, fr d s g p vv t X, .int .i64 q, .int .i64 ln, .int .i64 op] w (GivesF A l most long (fwdL most l o k L d s g vv t q ln) (fwdO most l o k L d s g p vv t X q ln op) w) := by
  have HT := fun w' (hb : Below w.heap.size w w') => Mem.rtakes_any o k L hL AP cp q d s g p vv t X w' (hP.below hb)
  have HK := fun w' (_ : Below w.heap.size w w') => rkind_any d hd s g p vv t X w'
  cases ht : Mem.takB o k L q g vv with
  | false =>
    rw [ht] at HT
    have hn : onB o k L d q g vv t = false := by unfold onB; rw [ht]; rfl
    rw [show fwdL most l o k L d s g vv t q ln = l by unfold fwdL; rw [hn]; rfl, show fwdO most l o k L d s g p vv t X q ln op = [] by unfold fwdO; rw [hn]; rfl]
    exact rforward_no most long l A c o k AP L.length cp d s g p vv t X q ln op _ w hA (Lib.hid HT)
  | true =>
    rw [ht] at HT
    by_cases hk : kindN t d = 0
    · have hn : onB o k L d q g vv t = true := by unfold onB; rw [ht, decide_eq_true hk]; rfl
      rw [hk] at HK
      rw [show fwdL most l o k L d s g vv t q ln = learnsL most l (Mem.takV o k L q g vv) s q ln by unfold fwdL; rw [hn]; rfl, show fwdO most l o k L d s g p vv t X q ln op = outsL L (Mem.takV o k L q g vv) d s p t X (portsL (learnsL most l (Mem.takV o k L q g vv) s q ln) L t d (Mem.takV o k L q g vv) q op) by unfold fwdO; rw [hn]; rfl]
      have hll := learns_len most l (Mem.takV o k L q g vv) s q ln
      refine rforward_go most long l A c o k AP L.length cp d s g p vv t X q ln op _ _ (portsI (learnsL most l (Mem.takV o k L q g vv) s q ln) L t d (Mem.takV o k L q g vv) q op) _ (portsL_len _ L t d (Mem.takV o k L q g vv) q op) (fun to => sentF L (Mem.takV o k L q g vv) to d s p t X) w hA (Lib.hid HT) (Lib.hid HK) (Lib.hid fun w' hb hA' => rlearns_any most long l (by omega) hsr A c d s hs g p vv t X _ q ln w' hA')
        (Lib.hid fun B cb w' hb hE => rports_any most long _ (by unfold maxLen; omega) B cb o k L hL AP cp d hd s g p vv t X _ q op w' hE (hP.below hb)) (Lib.hid fun w' => Por.rlist_any _ w') (Lib.hid fun to w' hm hb => ?_)
      have h := Mem.rsends_any o k L hL AP cp to (Mem.takV o k L q g vv) d s g p vv t X w' (hP.below hb)
      rw [snd_is, (mem_ports hm).2.2.2] at h
      exact h
    · have hn : onB o k L d q g vv t = false := by unfold onB; rw [decide_eq_false hk, Bool.and_false]
      rw [show fwdL most l o k L d s g vv t q ln = l by unfold fwdL; rw [hn]; rfl, show fwdO most l o k L d s g p vv t X q ln op = [] by unfold fwdO; rw [hn]; rfl]
      exact rforward_kind most long l A c o k AP L.length cp d s g p vv t X q ln op _ _ hk w hA (Lib.hid HT) (Lib.hid HK)

end Fwd
end Go.Proofs.YtmojegnflcokjaaDoor
