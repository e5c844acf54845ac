/-
  table.Learn of any table: an error and the table as it was, or the address at its port alone.
-/
import Derived.Test.YtmojegnflcokjaaDoorTabI
import Derived.Test.YtmojegnflcokjaaDoorPkFwdB
namespace Go.Proofs.YtmojegnflcokjaaDoor
open Go.RowKit
namespace Tab
open Oct

/-- A table and an error handed back. -/
def GivesL (A0 : Option Addr) (l0 : List En) (most long : Int) (l : List En) (c : Int) (w : World) (e : Ending) (w' : World) : Prop :=
  ∃ A k, e = .returned (.tuple #[tv most long A l.length k, .int .i64 c]) ∧ ((A = A0 ∧ l = l0) ∨ ∀ b o, A = some ⟨b, o, none⟩ → w.heap.size ≤ b) ∧ Ents w' A l ∧ Below w.heap.size w w'

theorem KeptG.l {most long : Int} {l : List En} {c : Int} {w : World} {e : Ending} {w' : World} (A0 : Option Addr) (l0 : List En) (h : KeptG most long l c w e w') : GivesL A0 l0 most long l c w e w' := by
  obtain ⟨B, k, h1, h2, h3⟩ := h
  obtain ⟨A, cap, e1, e2⟩ := Ents.of_own h2
  injection e1 with e1 _ _
  subst e1
  exact ⟨B, k, h1, .inr (fun b o hb => (h2.lt b (by rw [hb]; rfl)).1), e2, h3⟩

theorem Ents.set {w : World} {A : Option Addr} {l : List En} {b o : Nat} {x : Value} (h : Ents w A l) (hb : ∀ b' o', A = some ⟨b', o', none⟩ → b' ≠ b) : Ents (w.setCell ⟨b, o, none⟩ x) A l := fun j y hj => by
  obtain ⟨b', o', e, h1, h2, h3, h4, h5⟩ := h j y hj
  have hn : b ≠ b' := fun e' => hb b' o' e e'.symm
  exact ⟨b', o', e, by simpa using h1, Bx.cell_off hn.symm h2, Bx.cell_off hn.symm h3, Bx.cell_off hn.symm h4, Bx.cell_off hn.symm h5⟩

theorem Fre.grown {W w1 : World} {k : Nat} {l : List Value} {row : Option Nat} (h : Fre W k l) (hg : W.grownBy w1 row) (hn : some k ≠ row) : Fre w1 k l :=
  ⟨fun j v hv => hg.cell (a := ⟨k, j, none⟩) (h.1 j v hv) hn, Nat.lt_of_lt_of_le h.2.1 hg.size, fun j => (World.frozen?_of_block (w := W) (w' := w1) (a := ⟨k, j, none⟩) (hg.block k h.2.1 hn)).trans (h.2.2 j)⟩

/-- A store into a block of another type. -/
theorem own_set_type {w : World} {base b o : Nat} {e t : TypeId} {v x : Value} {n : Nat} {xs : List Value} {cs : Array Value} {fr : Nat × Nat} (h : w.ownsRow base e 4 v n xs) (hb : w.heap[b]? = some (.cells cs t fr)) (ht : t ≠ e) : (w.setCell ⟨b, o, none⟩ x).ownsRow base e 4 v n xs := by
  refine ⟨h.1, ?_⟩
  rcases h.2 with hn | ⟨g, cap, cur, h1, h2, h3, h4⟩
  · exact .inl hn
  · refine .inr ⟨g, cap, cur, h1, h2, ?_, h4⟩
    rw [← h3]
    refine Below.heap_setCell w ⟨b, o, none⟩ x g ?_
    intro hg
    have hg' : g = b := hg
    rw [hg', hb] at h3
    injection h3 with h3
    injection h3 with _ h3
    exact ht h3

theorem Ents.of_own3 {w : World} {base n c : Nat} {e : TypeId} {B : Option Addr} {l : List En} (h : w.ownsRow base e 4 (.slice B n c) l.length (l.flatMap enc)) : Ents w B l := by
  obtain ⟨A, cap, e1, e2⟩ := Ents.of_own h
  injection e1 with e1 _ _
  subst e1
  exact e2

set_option maxRecDepth 20000 in
set_option maxHeartbeats 2000000 in
/-- An error: the table as it was. -/
theorem learn_wrong (most long : Int) (l : List En) (A : Option Addr) (c : Nat) (v : Int) (m : Nat) (hm : m < 18446744073709551616) (p : Int) (w : World) (hA : Ents w A l)
    (hr : (rightV v && Mac.rightB m && !Mac.groupB m && rightP p) = false) :
    Calls Tryd.prog 41 #[tv most long A l.length c, .int .i64 v, .int .u64 m, .int .i64 p] w (GivesL A l most long l 1 w) := by
  have HV := Lib.hid (vid_any v)
  have HR := Lib.hid (Mac.right_any m)
  have HG := Lib.hid (Mac.group_any m hm)
  have HP := Lib.hid (port_any p)
  have bel := Lib.hid (Bx.bel_box (Bx.box_below w (to most long A l.length c)) (to 0 0 none 0 0))
  have K := Lib.hid ((Fre.new w [.int .i64 most, .int .i64 long, .slice A l.length c] 24).keep (Bx.box_below _ (to 0 0 none 0 0)))
  have R : Hid (Fre ((w.alloc (to most long A l.length c)).alloc (to 0 0 none 0 0)) (w.heap.size + 1) [.int .i64 0, .int .i64 0, .slice none 0 0]) := Lib.hid (by
    have := Fre.new (w.alloc (to most long A l.length c)) [.int .i64 0, .int .i64 0, .slice none 0 0] 24
    rwa [show (w.alloc (to most long A l.length c)).heap.size = w.heap.size + 1 by simp] at this)
  obtain ⟨⟨k0, k1, k2⟩, _⟩ := K.out.all3
  obtain ⟨⟨r0, r1, r2⟩, f0, f1, f2⟩ := R.out.all3
  have HB4 := Lib.hid (Bx.bel_box (Bx.box_below w (to most long A l.length c)) (to most long A l.length c))
  have R5 := (Lib.hid (Bx.Blk.new_at (W := w.alloc (to most long A l.length c)) (k := w.heap.size + 1) [.int .i64 most, .int .i64 long, .slice A l.length c] 24 (by simp)).all3)
  have HE := Lib.hid (hA.below HB4.out)
  clear hA K bel R
  generalize rightV v = rv at *
  generalize Mac.rightB m = rr at *
  generalize Mac.groupB m = rg at *
  generalize rightP p = rp at *
  cases rv with
  | false =>
    go_enter Tryd.func41, Tryd.ntmps41
    go_wp2_with fail
    refine (HV.out _).mono ?_; rintro e w' ⟨rfl, rfl⟩
    go_wp2_with fail
    refine bodyPost_ret (v := .tuple #[tv most long A l.length c, .int .i64 1]) ?_ rfl ?_
    · obtain ⟨d0, d1, d2⟩ := R5.out
      simp [results, Tryd.results41, d0, d1, d2, go_sem]
    · exact ⟨A, c, rfl, .inl ⟨rfl, rfl⟩, HE.out, HB4.out⟩
  | true =>
    cases rr with
    | false =>
      go_enter Tryd.func41, Tryd.ntmps41
      go_wp2_with fail
      refine (HV.out _).mono ?_; rintro e w' ⟨rfl, rfl⟩
      go_wp2_with fail
      refine (HR.out _).mono ?_; rintro e w' ⟨rfl, rfl⟩
      go_wp2_with fail
      refine bodyPost_ret (v := .tuple #[tv most long A l.length c, .int .i64 1]) ?_ rfl ?_
      · obtain ⟨d0, d1, d2⟩ := R5.out
        simp [results, Tryd.results41, d0, d1, d2, go_sem]
      · exact ⟨A, c, rfl, .inl ⟨rfl, rfl⟩, HE.out, HB4.out⟩
    | true =>
      cases rg with
      | true =>
        go_enter Tryd.func41, Tryd.ntmps41
        go_wp2_with fail
        refine (HV.out _).mono ?_; rintro e w' ⟨rfl, rfl⟩
        go_wp2_with fail
        refine (HR.out _).mono ?_; rintro e w' ⟨rfl, rfl⟩
        go_wp2_with fail
        refine (HG.out _).mono ?_; rintro e w' ⟨rfl, rfl⟩
        go_wp2_with fail
        refine bodyPost_ret (v := .tuple #[tv most long A l.length c, .int .i64 1]) ?_ rfl ?_
        · obtain ⟨d0, d1, d2⟩ := R5.out
          simp [results, Tryd.results41, d0, d1, d2, go_sem]
        · exact ⟨A, c, rfl, .inl ⟨rfl, rfl⟩, HE.out, HB4.out⟩
      | false =>
        cases rp with
        | true => cases hr
        | false =>
          go_enter Tryd.func41, Tryd.ntmps41
          go_wp2_with fail
          refine (HV.out _).mono ?_; rintro e w' ⟨rfl, rfl⟩
          go_wp2_with fail
          refine (HR.out _).mono ?_; rintro e w' ⟨rfl, rfl⟩
          go_wp2_with fail
          refine (HG.out _).mono ?_; rintro e w' ⟨rfl, rfl⟩
          go_wp2_with fail
          refine (HP.out _).mono ?_; rintro e w' ⟨rfl, rfl⟩
          go_wp2_with fail
          refine bodyPost_ret (v := .tuple #[tv most long A l.length c, .int .i64 1]) ?_ rfl ?_
          · obtain ⟨d0, d1, d2⟩ := R5.out
            simp [results, Tryd.results41, d0, d1, d2, go_sem]
          · exact ⟨A, c, rfl, .inl ⟨rfl, rfl⟩, HE.out, HB4.out⟩

set_option maxRecDepth 20000 in
set_option maxHeartbeats 2000000 in
/-- No room: the table as it was. -/
theorem learn_full (most long : Int) (l : List En) (hl : l.length ≤ 100000) (A : Option Addr) (c : Nat) (v : Int) (m : Nat) (hm : m < 18446744073709551616) (p : Int) (w : World) (hA : Ents w A l)
    (hr : (rightV v && Mac.rightB m && !Mac.groupB m && rightP p) = true) (hf : (rest v m l).length = l.length ∧ most ≤ (l.length : Int)) :
    Calls Tryd.prog 41 #[tv most long A l.length c, .int .i64 v, .int .u64 m, .int .i64 p] w (GivesL A l most long l 8 w) := by
  have HV := Lib.hid (vid_any v)
  have HR := Lib.hid (Mac.right_any m)
  have HG := Lib.hid (Mac.group_any m hm)
  have HP := Lib.hid (port_any p)
  obtain ⟨g1, g2, g3, g4⟩ : rightV v = true ∧ Mac.rightB m = true ∧ Mac.groupB m = false ∧ rightP p = true := by
    simp only [Bool.and_eq_true, Bool.not_eq_true'] at hr
    exact ⟨hr.1.1.1, hr.1.1.2, hr.1.2, hr.2⟩
  rw [g1] at HV
  rw [g2] at HR
  rw [g3] at HG
  rw [g4] at HP
  clear g1 g2 g3 g4 hr
  have HK := Lib.hid (fun w hA => kept_any most long l hl A c 75 (.agg #[.int .i64 v, .int .u64 m]) (fun e => !isK v m e) (fun e _ w => other_any v m e w) (enters_of Tryd.func75 (by kernel_rfl) rfl) w hA)
  have hfl : (rest v m l).length ≤ l.length := List.length_filter_le _ _
  rw [show (l.filter fun e => !isK v m e) = rest v m l from rfl] at HK
  generalize rest v m l = o at *
  have bel := Lib.hid (Bx.bel_box (Bx.box_below w (to most long A l.length c)) (to 0 0 none 0 0))
  have A1 := Lib.hid (hA.below bel.out)
  have K := Lib.hid ((Fre.new w [.int .i64 most, .int .i64 long, .slice A l.length c] 24).keep (Bx.box_below _ (to 0 0 none 0 0)))
  have R : Hid (Fre ((w.alloc (to most long A l.length c)).alloc (to 0 0 none 0 0)) (w.heap.size + 1) [.int .i64 0, .int .i64 0, .slice none 0 0]) := Lib.hid (by
    have := Fre.new (w.alloc (to most long A l.length c)) [.int .i64 0, .int .i64 0, .slice none 0 0] 24
    rwa [show (w.alloc (to most long A l.length c)).heap.size = w.heap.size + 1 by simp] at this)
  have hsz := Lib.hid (show ((w.alloc (to most long A l.length c)).alloc (to 0 0 none 0 0)).heap.size = w.heap.size + 2 by simp)
  obtain ⟨⟨k0, k1, k2⟩, _⟩ := K.out.all3
  have hle1 : w.heap.size ≤ w.heap.size + 1 := Nat.le_succ _
  obtain ⟨hf1, hf2⟩ := hf
  have hgi : (l.length : Int) - (o.length : Int) = 0 := by omega
  rw [hgi] at HK
  have hAl := Lib.hid (fun b' o' (e : A = some ⟨b', o', none⟩) (h : 0 < l.length) => show b' < w.heap.size by
    obtain ⟨b, o, e2, hb, _⟩ := hA.at h
    rw [e] at e2
    cases e2
    exact hb)
  clear hA hfl hf1 hgi
  go_enter Tryd.func41, Tryd.ntmps41
  go_wp2_with fail
  refine (HV.out _).mono ?_; rintro e w' ⟨rfl, rfl⟩
  go_wp2_with fail
  refine (HR.out _).mono ?_; rintro e w' ⟨rfl, rfl⟩
  go_wp2_with fail
  refine (HG.out _).mono ?_; rintro e w' ⟨rfl, rfl⟩
  go_wp2_with fail
  refine (HP.out _).mono ?_; rintro e w' ⟨rfl, rfl⟩
  go_wp2_with fail
  refine (HK.out _ A1.out).mono ?_; rintro e w1 ⟨B, cc, rfl, hown, hb1⟩
  have hs1 : w.heap.size + 2 ≤ w1.heap.size := by have := hb1.size; rw [hsz.out] at this; exact this
  have BW := Lib.hid (Bx.bel_box (Bx.then_below bel.out hb1) (to most long B o.length cc))
  have R1 := Lib.hid ((R.out.keep hb1).keep (Bx.box_below w1 (to most long B o.length cc)))
  have K1 := Lib.hid ((K.out.keep hb1).keep (Bx.box_below w1 (to most long B o.length cc)))
  have A2 := Lib.hid ((A1.out.below hb1).below (Bx.box_below w1 (to most long B o.length cc)))
  obtain ⟨⟨c0, c1, c2⟩, _⟩ := K1.out.all3
  obtain ⟨⟨r0, r1, r2⟩, f0, f1, f2⟩ := R1.out.all3
  have HB4 := Lib.hid (((BW.out.setCell (p := ⟨w.heap.size + 1, 0, none⟩) hle1 (.int .i64 most)).setCell (p := ⟨w.heap.size + 1, 1, none⟩) hle1 (.int .i64 long)).setCell (p := ⟨w.heap.size + 1, 2, none⟩) hle1 (.slice A l.length c))
  have R5 := Lib.hid (((R1.out.1).put3 (x0 := .int .i64 most) (x1 := .int .i64 long) (x2 := .slice A l.length c)).all3)
  have HE : Hid (Ents ((((w1.alloc (to most long B o.length cc)).setCell ⟨w.heap.size + 1, 0, none⟩ (.int .i64 most)).setCell ⟨w.heap.size + 1, 1, none⟩ (.int .i64 long)).setCell ⟨w.heap.size + 1, 2, none⟩ (.slice A l.length c)) A l) := Lib.hid (by
    by_cases h0 : 0 < l.length
    · have hne : ∀ b' o', A = some ⟨b', o', none⟩ → b' ≠ w.heap.size + 1 := fun b' o' e => by have := hAl.out b' o' e h0; omega
      exact ((A2.out.set hne).set hne).set hne
    · have : l = [] := List.eq_nil_of_length_eq_zero (by omega)
      rw [this]
      exact Ents.nil _ _)
  clear hown hb1 HK bel A1 R K hsz k0 k1 k2 R1 K1 A2 BW hAl
  go_wp2_with fail
  refine bodyPost_ret (v := .tuple #[tv most long A l.length c, .int .i64 8]) ?_ rfl ?_
  · obtain ⟨d0, d1, d2⟩ := R5.out
    simp [results, Tryd.results41, d0, d1, d2, go_sem]
  · exact ⟨A, c, rfl, .inl ⟨rfl, rfl⟩, HE.out, HB4.out⟩

set_option maxRecDepth 100000 in
set_option maxHeartbeats 4000000 in
/-- Learnt: there alone. -/
theorem learn_fine (most long : Int) (l : List En) (hl : l.length ≤ 100000) (A : Option Addr) (c : Nat) (v : Int) (m : Nat) (hm : m < 18446744073709551616) (p : Int) (w : World) (hA : Ents w A l)
    (hr : (rightV v && Mac.rightB m && !Mac.groupB m && rightP p) = true) (hf : ¬ ((rest v m l).length = l.length ∧ most ≤ (l.length : Int))) :
    Calls Tryd.prog 41 #[tv most long A l.length c, .int .i64 v, .int .u64 m, .int .i64 p] w (GivesL A l most long (insL (rest v m l) ⟨v, m, p, 0⟩) 0 w) := by
  have HV := Lib.hid (vid_any v)
  have HR := Lib.hid (Mac.right_any m)
  have HG := Lib.hid (Mac.group_any m hm)
  have HP := Lib.hid (port_any p)
  obtain ⟨g1, g2, g3, g4⟩ : rightV v = true ∧ Mac.rightB m = true ∧ Mac.groupB m = false ∧ rightP p = true := by
    simp only [Bool.and_eq_true, Bool.not_eq_true'] at hr
    exact ⟨hr.1.1.1, hr.1.1.2, hr.1.2, hr.2⟩
  rw [g1] at HV
  rw [g2] at HR
  rw [g3] at HG
  rw [g4] at HP
  clear g1 g2 g3 g4 hr
  have HK := Lib.hid (fun w hA => kept_any most long l hl A c 75 (.agg #[.int .i64 v, .int .u64 m]) (fun e => !isK v m e) (fun e _ w => other_any v m e w) (enters_of Tryd.func75 (by kernel_rfl) rfl) w hA)
  have hfl : (rest v m l).length ≤ l.length := List.length_filter_le _ _
  rw [show (l.filter fun e => !isK v m e) = rest v m l from rfl] at HK
  generalize rest v m l = o at *
  have bel := Lib.hid (Bx.bel_box (Bx.box_below w (to most long A l.length c)) (to 0 0 none 0 0))
  have A1 := Lib.hid (hA.below bel.out)
  have K := Lib.hid ((Fre.new w [.int .i64 most, .int .i64 long, .slice A l.length c] 24).keep (Bx.box_below _ (to 0 0 none 0 0)))
  have R : Hid (Fre ((w.alloc (to most long A l.length c)).alloc (to 0 0 none 0 0)) (w.heap.size + 1) [.int .i64 0, .int .i64 0, .slice none 0 0]) := Lib.hid (by
    have := Fre.new (w.alloc (to most long A l.length c)) [.int .i64 0, .int .i64 0, .slice none 0 0] 24
    rwa [show (w.alloc (to most long A l.length c)).heap.size = w.heap.size + 1 by simp] at this)
  have hsz := Lib.hid (show ((w.alloc (to most long A l.length c)).alloc (to 0 0 none 0 0)).heap.size = w.heap.size + 2 by simp)
  obtain ⟨⟨k0, k1, k2⟩, _⟩ := K.out.all3
  have hle1 : w.heap.size ≤ w.heap.size + 1 := Nat.le_succ _
  obtain ⟨gi, hgi⟩ : ∃ gi : Int, gi = (l.length : Int) - (o.length : Int) := ⟨_, rfl⟩
  rw [← hgi] at HK
  have hcase : ¬ gi = 0 ∨ (gi = 0 ∧ (l.length : Int) < most) := by omega
  have ho : o.length ≤ 100000 := by omega
  have HBE := Lib.hid (fun B cc w hA => behind_any o (Nat.le_trans ho (by decide)) ⟨v, m, p, 0⟩ B cc w hA)
  have hpos : behF 0 0 o ⟨v, m, p, 0⟩ ≤ o.length := by simpa using beh_le ⟨v, m, p, 0⟩ o 0 0 (Nat.le_refl _)
  have hins : insL o ⟨v, m, p, 0⟩ = o.take (behF 0 0 o ⟨v, m, p, 0⟩) ++ ⟨v, m, p, 0⟩ :: o.drop (behF 0 0 o ⟨v, m, p, 0⟩) := rfl
  generalize behF 0 0 o ⟨v, m, p, 0⟩ = pos at *
  generalize insL o ⟨v, m, p, 0⟩ = L at *
  have HINS := Lib.hid hins
  clear hA hfl hgi hins
  go_enter Tryd.func41, Tryd.ntmps41
  go_wp2_with fail
  refine (HV.out _).mono ?_; rintro e w' ⟨rfl, rfl⟩
  go_wp2_with fail
  refine (HR.out _).mono ?_; rintro e w' ⟨rfl, rfl⟩
  go_wp2_with fail
  refine (HG.out _).mono ?_; rintro e w' ⟨rfl, rfl⟩
  go_wp2_with fail
  refine (HP.out _).mono ?_; rintro e w' ⟨rfl, rfl⟩
  go_wp2_with fail
  refine (HK.out _ A1.out).mono ?_; rintro e w1 ⟨B, cc, rfl, hown, hb1⟩
  have hs1 : w.heap.size + 2 ≤ w1.heap.size := by have := hb1.size; rw [hsz.out] at this; exact this
  have BW := Lib.hid (Bx.bel_box (Bx.then_below bel.out hb1) (to most long B o.length cc))
  have R1 := Lib.hid (((R.out.keep hb1).keep (Bx.box_below w1 (to most long B o.length cc))).keep (Bx.box_below _ (eo ⟨v, m, p, 0⟩)))
  have T1 := Lib.hid ((Fre.new w1 [.int .i64 most, .int .i64 long, .slice B o.length cc] 24).keep (Bx.box_below _ (eo ⟨v, m, p, 0⟩)))
  have TH1 : Hid (((w1.alloc (to most long B o.length cc)).alloc (eo ⟨v, m, p, 0⟩)).heap[w1.heap.size]? = some (to most long B o.length cc)) := Lib.hid ((Below.heap_alloc _ _ _ (by simp)).trans (heap_alloc_new w1 _))
  have E1 := Lib.hid (Bx.Blk.new_at (W := w1.alloc (to most long B o.length cc)) (k := w1.heap.size + 1) [.int .i64 v, .int .u64 m, .int .i64 p, .int .i64 0] 62 (by simp))
  have BW1 := Lib.hid (Bx.bel_box BW.out (eo ⟨v, m, p, 0⟩))
  have HO1 := Lib.hid ((hown.alloc (to most long B o.length cc)).alloc (eo ⟨v, m, p, 0⟩))
  have HLT := Lib.hid hown.lt
  have hz1 : ((w1.alloc (to most long B o.length cc)).alloc (eo ⟨v, m, p, 0⟩)).heap.size = w1.heap.size + 2 := by simp
  obtain ⟨⟨c0, c1, c2⟩, _⟩ := ((K.out.keep hb1).keep (Bx.box_below w1 (to most long B o.length cc))).all3
  rw [hsz.out] at HO1 HLT
  have hnr : ∀ k, w1.heap.size ≤ k → some k ≠ (Value.slice B o.length cc).ownBlock := fun k hk e => by
    have := (HLT.out k e.symm).2
    omega
  have hnl : ∀ k, k < w.heap.size + 2 → some k ≠ (Value.slice B o.length cc).ownBlock := fun k hk e => by
    have := (HLT.out k e.symm).1
    omega
  have hz1 := Lib.hid hz1
  clear hown hb1 HK bel A1 R K hsz k0 k1 k2 BW
  rcases hcase with hg | ⟨rfl, hg⟩
  · go_wp2
    clear c0 c1 c2
    generalize (w1.alloc (to most long B o.length cc)).alloc (eo ⟨v, m, p, 0⟩) = W at *
    obtain ⟨c0, c1, c2⟩ := T1.out.1.all3
    obtain ⟨e0, e1, e2, e3⟩ := E1.out.all4
    refine wp_region_noPanic ?_
    refine Rx.wp_region_x (d := 10) (S := fun w' => w'.cell? ⟨w1.heap.size, 2, none⟩ = some (.slice B o.length cc) ∧ w'.cell? ⟨w1.heap.size + 1, 0, none⟩ = some (.int .i64 v) ∧ w'.cell? ⟨w1.heap.size + 1, 1, none⟩ = some (.int .u64 m) ∧ w'.cell? ⟨w1.heap.size + 1, 2, none⟩ = some (.int .i64 p) ∧ w'.cell? ⟨w1.heap.size + 1, 3, none⟩ = some (.int .i64 0)) (by kernel_rfl) (by exact ⟨c2, e0, e1, e2, e3⟩) (fun hHeld => ?_)
    clear c0 c1 c2 e0 e1 e2 e3
    refine Rx.wpAnyX_take (i := 0) (oi := ?o0c) (v := ?v0c) (U := [0, 1, 8, 10]) ?hi0c (by kernel_rfl) (by kernel_rfl) (by kernel_rfl) (by kernel_rfl) (fun _ _ _ h => h) ?y0c (by assumption) ?r0c
    case hi0c => (simp only [List.getElem?_toArray, List.getElem?_cons_zero]; rfl)
    case y0c => (refine Or.inl ⟨by rfl, ?_⟩; intro w' hSw; (try dsimp only at hSw); go_simp; (try with_reducible rfl))
    try simp only [Act.put, List.setIfInBounds_toArray, List.set_cons_zero, List.set_cons_succ]
    refine Rx.wpAnyX_take (i := 1) (oi := ?o1c) (v := ?v1c) (U := [1, 8, 10]) ?hi1c (by kernel_rfl) (by kernel_rfl) (by kernel_rfl) (by kernel_rfl) (fun _ _ _ h => h) ?y1c (by assumption) ?r1c
    case hi1c => (simp only [List.getElem?_toArray, List.getElem?_cons_succ, List.getElem?_cons_zero]; rfl)
    case y1c => (refine Or.inl ⟨by rfl, ?_⟩; intro w' hSw; (try dsimp only at hSw); go_simp; (try with_reducible rfl))
    try simp only [Act.put, List.setIfInBounds_toArray, List.set_cons_zero, List.set_cons_succ]
    refine Rx.wpAnyX_take (i := 2) (oi := ?o2c) (v := ?v2c) (U := [2, 3, 5, 8, 10]) ?hi2c (by kernel_rfl) (by kernel_rfl) (by kernel_rfl) (by kernel_rfl) (fun _ _ _ h => h) ?y2c (by assumption) ?r2c
    case hi2c => (simp only [List.getElem?_toArray, List.getElem?_cons_succ, List.getElem?_cons_zero]; rfl)
    case y2c => (refine Or.inl ⟨by rfl, ?_⟩; intro w' hSw; (try dsimp only at hSw); go_simp; (try with_reducible rfl))
    try simp only [Act.put, List.setIfInBounds_toArray, List.set_cons_zero, List.set_cons_succ]
    refine Rx.wpAnyX_take (i := 3) (oi := ?o3c) (v := ?v3c) (U := [3, 5, 8, 10]) ?hi3c (by kernel_rfl) (by kernel_rfl) (by kernel_rfl) (by kernel_rfl) (fun _ _ _ h => h) ?y3c (by assumption) ?r3c
    case hi3c => (simp only [List.getElem?_toArray, List.getElem?_cons_succ, List.getElem?_cons_zero]; rfl)
    case y3c => (refine Or.inl ⟨by rfl, ?_⟩; intro w' hSw; (try dsimp only at hSw); go_simp; (try with_reducible rfl))
    try simp only [Act.put, List.setIfInBounds_toArray, List.set_cons_zero, List.set_cons_succ]
    refine Rx.wpAnyX_take (i := 4) (oi := ?o4c) (v := ?v4c) (U := [4, 5, 8, 10]) ?hi4c (by kernel_rfl) (by kernel_rfl) (by kernel_rfl) (by kernel_rfl) (fun _ _ _ h => h) ?y4c (by assumption) ?r4c
    case hi4c => (simp only [List.getElem?_toArray, List.getElem?_cons_succ, List.getElem?_cons_zero]; rfl)
    case y4c => (refine Or.inl ⟨by rfl, ?_⟩; intro w' hSw; (try dsimp only at hSw); go_simp; (try with_reducible rfl))
    try simp only [Act.put, List.setIfInBounds_toArray, List.set_cons_zero, List.set_cons_succ]
    refine Rx.wpAnyX_take (i := 6) (oi := ?o6c) (v := ?v6c) (U := [6, 7, 8, 10]) ?hi6c (by kernel_rfl) (by kernel_rfl) (by kernel_rfl) (by kernel_rfl) (fun _ _ _ h => h) ?y6c (by assumption) ?r6c
    case hi6c => (simp only [List.getElem?_toArray, List.getElem?_cons_succ, List.getElem?_cons_zero]; rfl)
    case y6c => (refine Or.inl ⟨by rfl, ?_⟩; intro w' hSw; (try dsimp only at hSw); go_simp; (try with_reducible rfl))
    try simp only [Act.put, List.setIfInBounds_toArray, List.set_cons_zero, List.set_cons_succ]
    refine Rx.wpAnyX_ready (rs := [5, 7]) (by kernel_rfl) (by simp) ?_
    refine Rx.AllReadyX.cons (o := ?o5c) ?hi5c (by decide) ?hst5c (Rx.AllReadyX.cons (o := ?o7c) ?hi7c (by decide) ?hst7c Rx.AllReadyX.nil)
    case hi5c => (simp only [List.getElem?_toArray, List.getElem?_cons_succ, List.getElem?_cons_zero]; rfl)
    case hi7c => (simp only [List.getElem?_toArray, List.getElem?_cons_succ, List.getElem?_cons_zero]; rfl)
    case hst5c =>
      have HEW := Lib.hid (show Ents W.drew B o from Ents.of_own3 HO1.out)
      intro K hK
      go_simp
      (go_at_call 77; (with_reducible refine (HBE.out _ _ _ HEW.out).mono ?_); rintro e w2 ⟨rfl, hb2⟩)
      go_wp2_with fail
      refine hK.out _ _ ⟨Bx.keep_cell hb2 hHeld.1, Bx.keep_cell hb2 hHeld.2.1, Bx.keep_cell hb2 hHeld.2.2.1, Bx.keep_cell hb2 hHeld.2.2.2.1, Bx.keep_cell hb2 hHeld.2.2.2.2⟩ (fun hNew => ?_)
      clear hHeld
      have hHeld := hNew
      clear hNew hK K
      have hs2 : W.heap.size ≤ w2.heap.size := hb2.size
      have HO2 := Lib.hid (own_below (w := W.drew) HO1.out hb2)
      have T2 := Lib.hid (T1.out.drew.keep hb2)
      have TH2 := Lib.hid ((hb2.block w1.heap.size (by show _ < W.heap.size; have := hz1.out; omega)).trans TH1.out)
      have R2 := Lib.hid (R1.out.drew.keep hb2)
      have BW2 := Lib.hid (Bx.bel_drew BW1.out hb2)
      clear HO1 T1 TH1 R1 BW1 E1 hb2
      refine Rx.wpAnyX_ready (rs := [7]) (by kernel_rfl) (by simp) ?_
      refine Rx.AllReadyX.cons (o := ?o7ac) ?hi7ac (by decide) ?hst7ac Rx.AllReadyX.nil
      case hi7ac => (simp only [List.getElem?_toArray, List.getElem?_cons_succ, List.getElem?_cons_zero]; rfl)
      intro K hK
      go_simp
      refine hK.out _ _ ⟨Bx.kept_new hHeld.1, Bx.kept_new hHeld.2.1, Bx.kept_new hHeld.2.2.1, Bx.kept_new hHeld.2.2.2.1, Bx.kept_new hHeld.2.2.2.2⟩ (fun hNew => ?_)
      clear hHeld
      have hHeld := hNew
      clear hNew hK K
      have HOb := Lib.hid (HO2.out.alloc (eo ⟨v, m, p, 0⟩))
      have HVb := Lib.hid (heap_alloc_new w2 (eo ⟨v, m, p, 0⟩))
      have Tb := Lib.hid (T2.out.keep (Bx.box_below w2 (eo ⟨v, m, p, 0⟩)))
      have THb := Lib.hid ((Below.heap_alloc w2 (eo ⟨v, m, p, 0⟩) w1.heap.size T2.out.2.1).trans TH2.out)
      have Rb := Lib.hid (R2.out.keep (Bx.box_below w2 (eo ⟨v, m, p, 0⟩)))
      have BWb := Lib.hid (Bx.bel_box BW2.out (eo ⟨v, m, p, 0⟩))
      have hzb : w1.heap.size + 2 ≤ (w2.alloc (eo ⟨v, m, p, 0⟩)).heap.size := by have := hz1.out; simp; omega
      have hvb : w1.heap.size + 2 ≤ w2.heap.size := by have := hz1.out; omega
      clear HO2 T2 TH2 R2 BW2
      have HIN := (insert_any (w.heap.size + 2) o ho pos hpos ⟨v, m, p, 0⟩ B cc w2.heap.size (w2.alloc (eo ⟨v, m, p, 0⟩)) (by have := hzb; omega) (fun g e => by have := (HLT.out g (by rw [e]; rfl)).2; have := hvb; omega) HOb.out HVb.out)
      rw [← HINS.out] at HIN
      replace HIN := Lib.hid HIN
      refine Rx.wpAnyX_ready (rs := [8]) (by kernel_rfl) (by simp) ?_
      refine Rx.AllReadyX.cons (o := ?o8ac) ?hi8ac (by decide) ?hst8ac Rx.AllReadyX.nil
      case hi8ac => (simp only [List.getElem?_toArray, List.getElem?_cons_succ, List.getElem?_cons_zero]; rfl)
      intro K hK
      go_simp
      (go_at_call 76; (with_reducible refine (HIN.out).mono ?_); rintro e w3 ⟨B', c', rfl, hown', hgr⟩)
      go_wp2_with fail
      refine hK.out _ _ ⟨hgr.cell hHeld.1 (hnr w1.heap.size (Nat.le_refl _)), hgr.cell hHeld.2.1 (hnr (w1.heap.size + 1) (Nat.le_succ _)), hgr.cell hHeld.2.2.1 (hnr (w1.heap.size + 1) (Nat.le_succ _)), hgr.cell hHeld.2.2.2.1 (hnr (w1.heap.size + 1) (Nat.le_succ _)), hgr.cell hHeld.2.2.2.2 (hnr (w1.heap.size + 1) (Nat.le_succ _))⟩ (fun hNew => ?_)
      clear hHeld
      have hHeld := hNew
      clear hNew hK K
      have HO3 := Lib.hid hown'
      have T3 := Lib.hid (Fre.grown Tb.out hgr (hnr _ (Nat.le_refl _)))
      have TH3 := Lib.hid ((hgr.block w1.heap.size Tb.out.2.1 (hnr _ (Nat.le_refl _))).trans THb.out)
      have R3 := Lib.hid (Fre.grown Rb.out hgr (hnl _ (by omega)))
      have BW3 := Lib.hid (BWb.out.grown hgr (by have := hzb; omega) (fun k hk => by have := (HLT.out k hk).1; omega))
      clear hown' hgr HIN HOb HVb Tb THb Rb BWb hzb hvb
      obtain ⟨⟨t0, t1, t2⟩, q0, q1, q2⟩ := T3.out.all3
      refine Rx.wpAnyX_take (i := 9) (oi := ?o9ac) (v := ?v9ac) (U := [9, 10]) ?hi9ac (by kernel_rfl) (by kernel_rfl) (by kernel_rfl) (by kernel_rfl) (fun _ _ _ h => h) ?y9ac (by assumption) ?r9ac
      case hi9ac => (simp only [List.getElem?_toArray, List.getElem?_cons_succ, List.getElem?_cons_zero]; rfl)
      case y9ac => (refine Or.inl ⟨by rfl, ?_⟩; intro w' hSw; (try dsimp only at hSw); go_simp; (try with_reducible rfl))
      try simp only [Act.put, List.setIfInBounds_toArray, List.set_cons_zero, List.set_cons_succ]
      refine Rx.wpAnyX_ready (rs := [10]) (by kernel_rfl) (by simp) ?_
      refine Rx.AllReadyX.last (o := ?o10ac) ?hi10ac ?_
      case hi10ac => (simp only [List.getElem?_toArray, List.getElem?_cons_succ, List.getElem?_cons_zero]; rfl)
      intro K hK
      go_simp
      refine hK.out _ _ ?_
      clear hK K hHeld
      refine Rx.wpAnyX_done (by kernel_rfl) ?_ _
      refine NoPanic.normal ?_
      have hne : w1.heap.size ≠ w.heap.size + 1 := by omega
      have T4 := Lib.hid (T3.out.1.set 2 (.slice B' L.length c')).all3
      have R4 := Lib.hid (R3.out.1.other (o := 2) (x := .slice B' L.length c') hne.symm)
      obtain ⟨⟨r0, r1, r2⟩, z0, z1, z2⟩ := R3.out.all3
      obtain ⟨s0, s1, s2⟩ := R4.out.all3
      obtain ⟨u0, u1, u2⟩ := T4.out
      have HB4 := Lib.hid ((((BW3.out.setCell (p := ⟨w1.heap.size, 2, none⟩) (by show w.heap.size ≤ w1.heap.size; omega) (.slice B' L.length c')).setCell (p := ⟨w.heap.size + 1, 0, none⟩) hle1 (.int .i64 most)).setCell (p := ⟨w.heap.size + 1, 1, none⟩) hle1 (.int .i64 long)).setCell (p := ⟨w.heap.size + 1, 2, none⟩) hle1 (.slice B' L.length c'))
      have R5 := Lib.hid ((R4.out.put3 (x0 := .int .i64 most) (x1 := .int .i64 long) (x2 := .slice B' L.length c')).all3)
      have HW5 := Lib.hid (Ents.of_own3 (own_set (o := 2) (x := .slice B' L.length c') (own_set (o := 1) (x := .int .i64 long) (own_set (o := 0) (x := .int .i64 most) (own_set_type (o := 2) (x := .slice B' L.length c') HO3.out TH3.out (by decide)) (Nat.lt_succ_self _)) (Nat.lt_succ_self _)) (Nat.lt_succ_self _)))
      have HNW := Lib.hid (show ∀ b o, B' = some ⟨b, o, none⟩ → w.heap.size ≤ b from fun b o hb => by have := (HO3.out.lt b (by rw [hb]; rfl)).1; omega)
      clear T3 R3 BW3 HO3 TH3 T4 R4 t0 t1 t2
      go_wp2_with fail
      refine bodyPost_ret (v := .tuple #[tv most long B' L.length c', .int .i64 0]) ?_ rfl ?_
      · obtain ⟨d0, d1, d2⟩ := R5.out
        simp [results, Tryd.results41, d0, d1, d2, go_sem]
      · exact ⟨B', c', rfl, .inr HNW.out, HW5.out, HB4.out⟩
    case hst7c =>
      intro K hK
      go_simp
      refine hK.out _ _ ⟨Bx.kept_new hHeld.1, Bx.kept_new hHeld.2.1, Bx.kept_new hHeld.2.2.1, Bx.kept_new hHeld.2.2.2.1, Bx.kept_new hHeld.2.2.2.2⟩ (fun hNew => ?_)
      clear hHeld
      have hHeld := hNew
      clear hNew hK K
      have HOx := Lib.hid (HO1.out.alloc (eo ⟨v, m, p, 0⟩))
      have HVx := Lib.hid (heap_alloc_new W (eo ⟨v, m, p, 0⟩))
      have Tx := Lib.hid (T1.out.keep (Bx.box_below W (eo ⟨v, m, p, 0⟩)))
      have THx := Lib.hid ((Below.heap_alloc W (eo ⟨v, m, p, 0⟩) w1.heap.size T1.out.2.1).trans TH1.out)
      have Rx1 := Lib.hid (R1.out.keep (Bx.box_below W (eo ⟨v, m, p, 0⟩)))
      have BWx := Lib.hid (Bx.bel_box BW1.out (eo ⟨v, m, p, 0⟩))
      have HEW := Lib.hid (show Ents (W.alloc (eo ⟨v, m, p, 0⟩)).drew B o from Ents.of_own3 HOx.out)
      have hzx : (W.alloc (eo ⟨v, m, p, 0⟩)).heap.size = W.heap.size + 1 := by simp
      clear HO1 T1 TH1 R1 BW1 E1
      refine Rx.wpAnyX_ready (rs := [5]) (by kernel_rfl) (by simp) ?_
      refine Rx.AllReadyX.cons (o := ?o5bc) ?hi5bc (by decide) ?hst5bc Rx.AllReadyX.nil
      case hi5bc => (simp only [List.getElem?_toArray, List.getElem?_cons_succ, List.getElem?_cons_zero]; rfl)
      intro K hK
      go_simp
      (go_at_call 77; (with_reducible refine (HBE.out _ _ _ HEW.out).mono ?_); rintro e w2 ⟨rfl, hb2⟩)
      go_wp2_with fail
      refine hK.out _ _ ⟨Bx.keep_cell hb2 hHeld.1, Bx.keep_cell hb2 hHeld.2.1, Bx.keep_cell hb2 hHeld.2.2.1, Bx.keep_cell hb2 hHeld.2.2.2.1, Bx.keep_cell hb2 hHeld.2.2.2.2⟩ (fun hNew => ?_)
      clear hHeld
      have hHeld := hNew
      clear hNew hK K
      have hs2 : W.heap.size + 1 ≤ w2.heap.size := by rw [← hzx]; exact hb2.size
      have HOb := Lib.hid (own_below (w := (W.alloc (eo ⟨v, m, p, 0⟩)).drew) HOx.out hb2)
      have HVb := Lib.hid (show w2.heap[w1.heap.size + 2]? = some (eo ⟨v, m, p, 0⟩) by rw [← hz1.out]; exact (hb2.block W.heap.size (by show W.heap.size < (W.alloc (eo ⟨v, m, p, 0⟩)).heap.size; omega)).trans HVx.out)
      have Tb := Lib.hid (Tx.out.drew.keep hb2)
      have THb := Lib.hid ((hb2.block w1.heap.size (by show _ < (W.alloc (eo ⟨v, m, p, 0⟩)).heap.size; have := hz1.out; omega)).trans THx.out)
      have Rb := Lib.hid (Rx1.out.drew.keep hb2)
      have BWb := Lib.hid (Bx.bel_drew BWx.out hb2)
      have hzb : w1.heap.size + 2 ≤ w2.heap.size := by have := hz1.out; omega
      have hvb : w1.heap.size + 2 ≤ w1.heap.size + 2 := Nat.le_refl _
      clear HOx Tx THx Rx1 BWx hzx hb2 HVx
      have HIN := (insert_any (w.heap.size + 2) o ho pos hpos ⟨v, m, p, 0⟩ B cc (w1.heap.size + 2) w2 (by have := hzb; omega) (fun g e => by have := (HLT.out g (by rw [e]; rfl)).2; have := hvb; omega) HOb.out HVb.out)
      rw [← HINS.out] at HIN
      replace HIN := Lib.hid HIN
      refine Rx.wpAnyX_ready (rs := [8]) (by kernel_rfl) (by simp) ?_
      refine Rx.AllReadyX.cons (o := ?o8bc) ?hi8bc (by decide) ?hst8bc Rx.AllReadyX.nil
      case hi8bc => (simp only [List.getElem?_toArray, List.getElem?_cons_succ, List.getElem?_cons_zero]; rfl)
      intro K hK
      go_simp
      (go_at_call 76; (with_reducible refine (HIN.out).mono ?_); rintro e w3 ⟨B', c', rfl, hown', hgr⟩)
      go_wp2_with fail
      refine hK.out _ _ ⟨hgr.cell hHeld.1 (hnr w1.heap.size (Nat.le_refl _)), hgr.cell hHeld.2.1 (hnr (w1.heap.size + 1) (Nat.le_succ _)), hgr.cell hHeld.2.2.1 (hnr (w1.heap.size + 1) (Nat.le_succ _)), hgr.cell hHeld.2.2.2.1 (hnr (w1.heap.size + 1) (Nat.le_succ _)), hgr.cell hHeld.2.2.2.2 (hnr (w1.heap.size + 1) (Nat.le_succ _))⟩ (fun hNew => ?_)
      clear hHeld
      have hHeld := hNew
      clear hNew hK K
      have HO3 := Lib.hid hown'
      have T3 := Lib.hid (Fre.grown Tb.out hgr (hnr _ (Nat.le_refl _)))
      have TH3 := Lib.hid ((hgr.block w1.heap.size Tb.out.2.1 (hnr _ (Nat.le_refl _))).trans THb.out)
      have R3 := Lib.hid (Fre.grown Rb.out hgr (hnl _ (by omega)))
      have BW3 := Lib.hid (BWb.out.grown hgr (by have := hzb; omega) (fun k hk => by have := (HLT.out k hk).1; omega))
      clear hown' hgr HIN HOb HVb Tb THb Rb BWb hzb hvb
      obtain ⟨⟨t0, t1, t2⟩, q0, q1, q2⟩ := T3.out.all3
      refine Rx.wpAnyX_take (i := 9) (oi := ?o9bc) (v := ?v9bc) (U := [9, 10]) ?hi9bc (by kernel_rfl) (by kernel_rfl) (by kernel_rfl) (by kernel_rfl) (fun _ _ _ h => h) ?y9bc (by assumption) ?r9bc
      case hi9bc => (simp only [List.getElem?_toArray, List.getElem?_cons_succ, List.getElem?_cons_zero]; rfl)
      case y9bc => (refine Or.inl ⟨by rfl, ?_⟩; intro w' hSw; (try dsimp only at hSw); go_simp; (try with_reducible rfl))
      try simp only [Act.put, List.setIfInBounds_toArray, List.set_cons_zero, List.set_cons_succ]
      refine Rx.wpAnyX_ready (rs := [10]) (by kernel_rfl) (by simp) ?_
      refine Rx.AllReadyX.last (o := ?o10bc) ?hi10bc ?_
      case hi10bc => (simp only [List.getElem?_toArray, List.getElem?_cons_succ, List.getElem?_cons_zero]; rfl)
      intro K hK
      go_simp
      refine hK.out _ _ ?_
      clear hK K hHeld
      refine Rx.wpAnyX_done (by kernel_rfl) ?_ _
      refine NoPanic.normal ?_
      have hne : w1.heap.size ≠ w.heap.size + 1 := by omega
      have T4 := Lib.hid (T3.out.1.set 2 (.slice B' L.length c')).all3
      have R4 := Lib.hid (R3.out.1.other (o := 2) (x := .slice B' L.length c') hne.symm)
      obtain ⟨⟨r0, r1, r2⟩, z0, z1, z2⟩ := R3.out.all3
      obtain ⟨s0, s1, s2⟩ := R4.out.all3
      obtain ⟨u0, u1, u2⟩ := T4.out
      have HB4 := Lib.hid ((((BW3.out.setCell (p := ⟨w1.heap.size, 2, none⟩) (by show w.heap.size ≤ w1.heap.size; omega) (.slice B' L.length c')).setCell (p := ⟨w.heap.size + 1, 0, none⟩) hle1 (.int .i64 most)).setCell (p := ⟨w.heap.size + 1, 1, none⟩) hle1 (.int .i64 long)).setCell (p := ⟨w.heap.size + 1, 2, none⟩) hle1 (.slice B' L.length c'))
      have R5 := Lib.hid ((R4.out.put3 (x0 := .int .i64 most) (x1 := .int .i64 long) (x2 := .slice B' L.length c')).all3)
      have HW5 := Lib.hid (Ents.of_own3 (own_set (o := 2) (x := .slice B' L.length c') (own_set (o := 1) (x := .int .i64 long) (own_set (o := 0) (x := .int .i64 most) (own_set_type (o := 2) (x := .slice B' L.length c') HO3.out TH3.out (by decide)) (Nat.lt_succ_self _)) (Nat.lt_succ_self _)) (Nat.lt_succ_self _)))
      have HNW := Lib.hid (show ∀ b o, B' = some ⟨b, o, none⟩ → w.heap.size ≤ b from fun b o hb => by have := (HO3.out.lt b (by rw [hb]; rfl)).1; omega)
      clear T3 R3 BW3 HO3 TH3 T4 R4 t0 t1 t2
      go_wp2_with fail
      refine bodyPost_ret (v := .tuple #[tv most long B' L.length c', .int .i64 0]) ?_ rfl ?_
      · obtain ⟨d0, d1, d2⟩ := R5.out
        simp [results, Tryd.results41, d0, d1, d2, go_sem]
      · exact ⟨B', c', rfl, .inr HNW.out, HW5.out, HB4.out⟩
  · go_wp2
    clear c0 c1 c2
    generalize (w1.alloc (to most long B o.length cc)).alloc (eo ⟨v, m, p, 0⟩) = W at *
    obtain ⟨c0, c1, c2⟩ := T1.out.1.all3
    obtain ⟨e0, e1, e2, e3⟩ := E1.out.all4
    refine wp_region_noPanic ?_
    refine Rx.wp_region_x (d := 10) (S := fun w' => w'.cell? ⟨w1.heap.size, 2, none⟩ = some (.slice B o.length cc) ∧ w'.cell? ⟨w1.heap.size + 1, 0, none⟩ = some (.int .i64 v) ∧ w'.cell? ⟨w1.heap.size + 1, 1, none⟩ = some (.int .u64 m) ∧ w'.cell? ⟨w1.heap.size + 1, 2, none⟩ = some (.int .i64 p) ∧ w'.cell? ⟨w1.heap.size + 1, 3, none⟩ = some (.int .i64 0)) (by kernel_rfl) (by exact ⟨c2, e0, e1, e2, e3⟩) (fun hHeld => ?_)
    clear c0 c1 c2 e0 e1 e2 e3
    refine Rx.wpAnyX_take (i := 0) (oi := ?o0d) (v := ?v0d) (U := [0, 1, 8, 10]) ?hi0d (by kernel_rfl) (by kernel_rfl) (by kernel_rfl) (by kernel_rfl) (fun _ _ _ h => h) ?y0d (by assumption) ?r0d
    case hi0d => (simp only [List.getElem?_toArray, List.getElem?_cons_zero]; rfl)
    case y0d => (refine Or.inl ⟨by rfl, ?_⟩; intro w' hSw; (try dsimp only at hSw); go_simp; (try with_reducible rfl))
    try simp only [Act.put, List.setIfInBounds_toArray, List.set_cons_zero, List.set_cons_succ]
    refine Rx.wpAnyX_take (i := 1) (oi := ?o1d) (v := ?v1d) (U := [1, 8, 10]) ?hi1d (by kernel_rfl) (by kernel_rfl) (by kernel_rfl) (by kernel_rfl) (fun _ _ _ h => h) ?y1d (by assumption) ?r1d
    case hi1d => (simp only [List.getElem?_toArray, List.getElem?_cons_succ, List.getElem?_cons_zero]; rfl)
    case y1d => (refine Or.inl ⟨by rfl, ?_⟩; intro w' hSw; (try dsimp only at hSw); go_simp; (try with_reducible rfl))
    try simp only [Act.put, List.setIfInBounds_toArray, List.set_cons_zero, List.set_cons_succ]
    refine Rx.wpAnyX_take (i := 2) (oi := ?o2d) (v := ?v2d) (U := [2, 3, 5, 8, 10]) ?hi2d (by kernel_rfl) (by kernel_rfl) (by kernel_rfl) (by kernel_rfl) (fun _ _ _ h => h) ?y2d (by assumption) ?r2d
    case hi2d => (simp only [List.getElem?_toArray, List.getElem?_cons_succ, List.getElem?_cons_zero]; rfl)
    case y2d => (refine Or.inl ⟨by rfl, ?_⟩; intro w' hSw; (try dsimp only at hSw); go_simp; (try with_reducible rfl))
    try simp only [Act.put, List.setIfInBounds_toArray, List.set_cons_zero, List.set_cons_succ]
    refine Rx.wpAnyX_take (i := 3) (oi := ?o3d) (v := ?v3d) (U := [3, 5, 8, 10]) ?hi3d (by kernel_rfl) (by kernel_rfl) (by kernel_rfl) (by kernel_rfl) (fun _ _ _ h => h) ?y3d (by assumption) ?r3d
    case hi3d => (simp only [List.getElem?_toArray, List.getElem?_cons_succ, List.getElem?_cons_zero]; rfl)
    case y3d => (refine Or.inl ⟨by rfl, ?_⟩; intro w' hSw; (try dsimp only at hSw); go_simp; (try with_reducible rfl))
    try simp only [Act.put, List.setIfInBounds_toArray, List.set_cons_zero, List.set_cons_succ]
    refine Rx.wpAnyX_take (i := 4) (oi := ?o4d) (v := ?v4d) (U := [4, 5, 8, 10]) ?hi4d (by kernel_rfl) (by kernel_rfl) (by kernel_rfl) (by kernel_rfl) (fun _ _ _ h => h) ?y4d (by assumption) ?r4d
    case hi4d => (simp only [List.getElem?_toArray, List.getElem?_cons_succ, List.getElem?_cons_zero]; rfl)
    case y4d => (refine Or.inl ⟨by rfl, ?_⟩; intro w' hSw; (try dsimp only at hSw); go_simp; (try with_reducible rfl))
    try simp only [Act.put, List.setIfInBounds_toArray, List.set_cons_zero, List.set_cons_succ]
    refine Rx.wpAnyX_take (i := 6) (oi := ?o6d) (v := ?v6d) (U := [6, 7, 8, 10]) ?hi6d (by kernel_rfl) (by kernel_rfl) (by kernel_rfl) (by kernel_rfl) (fun _ _ _ h => h) ?y6d (by assumption) ?r6d
    case hi6d => (simp only [List.getElem?_toArray, List.getElem?_cons_succ, List.getElem?_cons_zero]; rfl)
    case y6d => (refine Or.inl ⟨by rfl, ?_⟩; intro w' hSw; (try dsimp only at hSw); go_simp; (try with_reducible rfl))
    try simp only [Act.put, List.setIfInBounds_toArray, List.set_cons_zero, List.set_cons_succ]
    refine Rx.wpAnyX_ready (rs := [5, 7]) (by kernel_rfl) (by simp) ?_
    refine Rx.AllReadyX.cons (o := ?o5d) ?hi5d (by decide) ?hst5d (Rx.AllReadyX.cons (o := ?o7d) ?hi7d (by decide) ?hst7d Rx.AllReadyX.nil)
    case hi5d => (simp only [List.getElem?_toArray, List.getElem?_cons_succ, List.getElem?_cons_zero]; rfl)
    case hi7d => (simp only [List.getElem?_toArray, List.getElem?_cons_succ, List.getElem?_cons_zero]; rfl)
    case hst5d =>
      have HEW := Lib.hid (show Ents W.drew B o from Ents.of_own3 HO1.out)
      intro K hK
      go_simp
      (go_at_call 77; (with_reducible refine (HBE.out _ _ _ HEW.out).mono ?_); rintro e w2 ⟨rfl, hb2⟩)
      go_wp2_with fail
      refine hK.out _ _ ⟨Bx.keep_cell hb2 hHeld.1, Bx.keep_cell hb2 hHeld.2.1, Bx.keep_cell hb2 hHeld.2.2.1, Bx.keep_cell hb2 hHeld.2.2.2.1, Bx.keep_cell hb2 hHeld.2.2.2.2⟩ (fun hNew => ?_)
      clear hHeld
      have hHeld := hNew
      clear hNew hK K
      have hs2 : W.heap.size ≤ w2.heap.size := hb2.size
      have HO2 := Lib.hid (own_below (w := W.drew) HO1.out hb2)
      have T2 := Lib.hid (T1.out.drew.keep hb2)
      have TH2 := Lib.hid ((hb2.block w1.heap.size (by show _ < W.heap.size; have := hz1.out; omega)).trans TH1.out)
      have R2 := Lib.hid (R1.out.drew.keep hb2)
      have BW2 := Lib.hid (Bx.bel_drew BW1.out hb2)
      clear HO1 T1 TH1 R1 BW1 E1 hb2
      refine Rx.wpAnyX_ready (rs := [7]) (by kernel_rfl) (by simp) ?_
      refine Rx.AllReadyX.cons (o := ?o7ad) ?hi7ad (by decide) ?hst7ad Rx.AllReadyX.nil
      case hi7ad => (simp only [List.getElem?_toArray, List.getElem?_cons_succ, List.getElem?_cons_zero]; rfl)
      intro K hK
      go_simp
      refine hK.out _ _ ⟨Bx.kept_new hHeld.1, Bx.kept_new hHeld.2.1, Bx.kept_new hHeld.2.2.1, Bx.kept_new hHeld.2.2.2.1, Bx.kept_new hHeld.2.2.2.2⟩ (fun hNew => ?_)
      clear hHeld
      have hHeld := hNew
      clear hNew hK K
      have HOb := Lib.hid (HO2.out.alloc (eo ⟨v, m, p, 0⟩))
      have HVb := Lib.hid (heap_alloc_new w2 (eo ⟨v, m, p, 0⟩))
      have Tb := Lib.hid (T2.out.keep (Bx.box_below w2 (eo ⟨v, m, p, 0⟩)))
      have THb := Lib.hid ((Below.heap_alloc w2 (eo ⟨v, m, p, 0⟩) w1.heap.size T2.out.2.1).trans TH2.out)
      have Rb := Lib.hid (R2.out.keep (Bx.box_below w2 (eo ⟨v, m, p, 0⟩)))
      have BWb := Lib.hid (Bx.bel_box BW2.out (eo ⟨v, m, p, 0⟩))
      have hzb : w1.heap.size + 2 ≤ (w2.alloc (eo ⟨v, m, p, 0⟩)).heap.size := by have := hz1.out; simp; omega
      have hvb : w1.heap.size + 2 ≤ w2.heap.size := by have := hz1.out; omega
      clear HO2 T2 TH2 R2 BW2
      have HIN := (insert_any (w.heap.size + 2) o ho pos hpos ⟨v, m, p, 0⟩ B cc w2.heap.size (w2.alloc (eo ⟨v, m, p, 0⟩)) (by have := hzb; omega) (fun g e => by have := (HLT.out g (by rw [e]; rfl)).2; have := hvb; omega) HOb.out HVb.out)
      rw [← HINS.out] at HIN
      replace HIN := Lib.hid HIN
      refine Rx.wpAnyX_ready (rs := [8]) (by kernel_rfl) (by simp) ?_
      refine Rx.AllReadyX.cons (o := ?o8ad) ?hi8ad (by decide) ?hst8ad Rx.AllReadyX.nil
      case hi8ad => (simp only [List.getElem?_toArray, List.getElem?_cons_succ, List.getElem?_cons_zero]; rfl)
      intro K hK
      go_simp
      (go_at_call 76; (with_reducible refine (HIN.out).mono ?_); rintro e w3 ⟨B', c', rfl, hown', hgr⟩)
      go_wp2_with fail
      refine hK.out _ _ ⟨hgr.cell hHeld.1 (hnr w1.heap.size (Nat.le_refl _)), hgr.cell hHeld.2.1 (hnr (w1.heap.size + 1) (Nat.le_succ _)), hgr.cell hHeld.2.2.1 (hnr (w1.heap.size + 1) (Nat.le_succ _)), hgr.cell hHeld.2.2.2.1 (hnr (w1.heap.size + 1) (Nat.le_succ _)), hgr.cell hHeld.2.2.2.2 (hnr (w1.heap.size + 1) (Nat.le_succ _))⟩ (fun hNew => ?_)
      clear hHeld
      have hHeld := hNew
      clear hNew hK K
      have HO3 := Lib.hid hown'
      have T3 := Lib.hid (Fre.grown Tb.out hgr (hnr _ (Nat.le_refl _)))
      have TH3 := Lib.hid ((hgr.block w1.heap.size Tb.out.2.1 (hnr _ (Nat.le_refl _))).trans THb.out)
      have R3 := Lib.hid (Fre.grown Rb.out hgr (hnl _ (by omega)))
      have BW3 := Lib.hid (BWb.out.grown hgr (by have := hzb; omega) (fun k hk => by have := (HLT.out k hk).1; omega))
      clear hown' hgr HIN HOb HVb Tb THb Rb BWb hzb hvb
      obtain ⟨⟨t0, t1, t2⟩, q0, q1, q2⟩ := T3.out.all3
      refine Rx.wpAnyX_take (i := 9) (oi := ?o9ad) (v := ?v9ad) (U := [9, 10]) ?hi9ad (by kernel_rfl) (by kernel_rfl) (by kernel_rfl) (by kernel_rfl) (fun _ _ _ h => h) ?y9ad (by assumption) ?r9ad
      case hi9ad => (simp only [List.getElem?_toArray, List.getElem?_cons_succ, List.getElem?_cons_zero]; rfl)
      case y9ad => (refine Or.inl ⟨by rfl, ?_⟩; intro w' hSw; (try dsimp only at hSw); go_simp; (try with_reducible rfl))
      try simp only [Act.put, List.setIfInBounds_toArray, List.set_cons_zero, List.set_cons_succ]
      refine Rx.wpAnyX_ready (rs := [10]) (by kernel_rfl) (by simp) ?_
      refine Rx.AllReadyX.last (o := ?o10ad) ?hi10ad ?_
      case hi10ad => (simp only [List.getElem?_toArray, List.getElem?_cons_succ, List.getElem?_cons_zero]; rfl)
      intro K hK
      go_simp
      refine hK.out _ _ ?_
      clear hK K hHeld
      refine Rx.wpAnyX_done (by kernel_rfl) ?_ _
      refine NoPanic.normal ?_
      have hne : w1.heap.size ≠ w.heap.size + 1 := by omega
      have T4 := Lib.hid (T3.out.1.set 2 (.slice B' L.length c')).all3
      have R4 := Lib.hid (R3.out.1.other (o := 2) (x := .slice B' L.length c') hne.symm)
      obtain ⟨⟨r0, r1, r2⟩, z0, z1, z2⟩ := R3.out.all3
      obtain ⟨s0, s1, s2⟩ := R4.out.all3
      obtain ⟨u0, u1, u2⟩ := T4.out
      have HB4 := Lib.hid ((((BW3.out.setCell (p := ⟨w1.heap.size, 2, none⟩) (by show w.heap.size ≤ w1.heap.size; omega) (.slice B' L.length c')).setCell (p := ⟨w.heap.size + 1, 0, none⟩) hle1 (.int .i64 most)).setCell (p := ⟨w.heap.size + 1, 1, none⟩) hle1 (.int .i64 long)).setCell (p := ⟨w.heap.size + 1, 2, none⟩) hle1 (.slice B' L.length c'))
      have R5 := Lib.hid ((R4.out.put3 (x0 := .int .i64 most) (x1 := .int .i64 long) (x2 := .slice B' L.length c')).all3)
      have HW5 := Lib.hid (Ents.of_own3 (own_set (o := 2) (x := .slice B' L.length c') (own_set (o := 1) (x := .int .i64 long) (own_set (o := 0) (x := .int .i64 most) (own_set_type (o := 2) (x := .slice B' L.length c') HO3.out TH3.out (by decide)) (Nat.lt_succ_self _)) (Nat.lt_succ_self _)) (Nat.lt_succ_self _)))
      have HNW := Lib.hid (show ∀ b o, B' = some ⟨b, o, none⟩ → w.heap.size ≤ b from fun b o hb => by have := (HO3.out.lt b (by rw [hb]; rfl)).1; omega)
      clear T3 R3 BW3 HO3 TH3 T4 R4 t0 t1 t2
      go_wp2_with fail
      refine bodyPost_ret (v := .tuple #[tv most long B' L.length c', .int .i64 0]) ?_ rfl ?_
      · obtain ⟨d0, d1, d2⟩ := R5.out
        simp [results, Tryd.results41, d0, d1, d2, go_sem]
      · exact ⟨B', c', rfl, .inr HNW.out, HW5.out, HB4.out⟩
    case hst7d =>
      intro K hK
      go_simp
      refine hK.out _ _ ⟨Bx.kept_new hHeld.1, Bx.kept_new hHeld.2.1, Bx.kept_new hHeld.2.2.1, Bx.kept_new hHeld.2.2.2.1, Bx.kept_new hHeld.2.2.2.2⟩ (fun hNew => ?_)
      clear hHeld
      have hHeld := hNew
      clear hNew hK K
      have HOx := Lib.hid (HO1.out.alloc (eo ⟨v, m, p, 0⟩))
      have HVx := Lib.hid (heap_alloc_new W (eo ⟨v, m, p, 0⟩))
      have Tx := Lib.hid (T1.out.keep (Bx.box_below W (eo ⟨v, m, p, 0⟩)))
      have THx := Lib.hid ((Below.heap_alloc W (eo ⟨v, m, p, 0⟩) w1.heap.size T1.out.2.1).trans TH1.out)
      have Rx1 := Lib.hid (R1.out.keep (Bx.box_below W (eo ⟨v, m, p, 0⟩)))
      have BWx := Lib.hid (Bx.bel_box BW1.out (eo ⟨v, m, p, 0⟩))
      have HEW := Lib.hid (show Ents (W.alloc (eo ⟨v, m, p, 0⟩)).drew B o from Ents.of_own3 HOx.out)
      have hzx : (W.alloc (eo ⟨v, m, p, 0⟩)).heap.size = W.heap.size + 1 := by simp
      clear HO1 T1 TH1 R1 BW1 E1
      refine Rx.wpAnyX_ready (rs := [5]) (by kernel_rfl) (by simp) ?_
      refine Rx.AllReadyX.cons (o := ?o5bd) ?hi5bd (by decide) ?hst5bd Rx.AllReadyX.nil
      case hi5bd => (simp only [List.getElem?_toArray, List.getElem?_cons_succ, List.getElem?_cons_zero]; rfl)
      intro K hK
      go_simp
      (go_at_call 77; (with_reducible refine (HBE.out _ _ _ HEW.out).mono ?_); rintro e w2 ⟨rfl, hb2⟩)
      go_wp2_with fail
      refine hK.out _ _ ⟨Bx.keep_cell hb2 hHeld.1, Bx.keep_cell hb2 hHeld.2.1, Bx.keep_cell hb2 hHeld.2.2.1, Bx.keep_cell hb2 hHeld.2.2.2.1, Bx.keep_cell hb2 hHeld.2.2.2.2⟩ (fun hNew => ?_)
      clear hHeld
      have hHeld := hNew
      clear hNew hK K
      have hs2 : W.heap.size + 1 ≤ w2.heap.size := by rw [← hzx]; exact hb2.size
      have HOb := Lib.hid (own_below (w := (W.alloc (eo ⟨v, m, p, 0⟩)).drew) HOx.out hb2)
      have HVb := Lib.hid (show w2.heap[w1.heap.size + 2]? = some (eo ⟨v, m, p, 0⟩) by rw [← hz1.out]; exact (hb2.block W.heap.size (by show W.heap.size < (W.alloc (eo ⟨v, m, p, 0⟩)).heap.size; omega)).trans HVx.out)
      have Tb := Lib.hid (Tx.out.drew.keep hb2)
      have THb := Lib.hid ((hb2.block w1.heap.size (by show _ < (W.alloc (eo ⟨v, m, p, 0⟩)).heap.size; have := hz1.out; omega)).trans THx.out)
      have Rb := Lib.hid (Rx1.out.drew.keep hb2)
      have BWb := Lib.hid (Bx.bel_drew BWx.out hb2)
      have hzb : w1.heap.size + 2 ≤ w2.heap.size := by have := hz1.out; omega
      have hvb : w1.heap.size + 2 ≤ w1.heap.size + 2 := Nat.le_refl _
      clear HOx Tx THx Rx1 BWx hzx hb2 HVx
      have HIN := (insert_any (w.heap.size + 2) o ho pos hpos ⟨v, m, p, 0⟩ B cc (w1.heap.size + 2) w2 (by have := hzb; omega) (fun g e => by have := (HLT.out g (by rw [e]; rfl)).2; have := hvb; omega) HOb.out HVb.out)
      rw [← HINS.out] at HIN
      replace HIN := Lib.hid HIN
      refine Rx.wpAnyX_ready (rs := [8]) (by kernel_rfl) (by simp) ?_
      refine Rx.AllReadyX.cons (o := ?o8bd) ?hi8bd (by decide) ?hst8bd Rx.AllReadyX.nil
      case hi8bd => (simp only [List.getElem?_toArray, List.getElem?_cons_succ, List.getElem?_cons_zero]; rfl)
      intro K hK
      go_simp
      (go_at_call 76; (with_reducible refine (HIN.out).mono ?_); rintro e w3 ⟨B', c', rfl, hown', hgr⟩)
      go_wp2_with fail
      refine hK.out _ _ ⟨hgr.cell hHeld.1 (hnr w1.heap.size (Nat.le_refl _)), hgr.cell hHeld.2.1 (hnr (w1.heap.size + 1) (Nat.le_succ _)), hgr.cell hHeld.2.2.1 (hnr (w1.heap.size + 1) (Nat.le_succ _)), hgr.cell hHeld.2.2.2.1 (hnr (w1.heap.size + 1) (Nat.le_succ _)), hgr.cell hHeld.2.2.2.2 (hnr (w1.heap.size + 1) (Nat.le_succ _))⟩ (fun hNew => ?_)
      clear hHeld
      have hHeld := hNew
      clear hNew hK K
      have HO3 := Lib.hid hown'
      have T3 := Lib.hid (Fre.grown Tb.out hgr (hnr _ (Nat.le_refl _)))
      have TH3 := Lib.hid ((hgr.block w1.heap.size Tb.out.2.1 (hnr _ (Nat.le_refl _))).trans THb.out)
      have R3 := Lib.hid (Fre.grown Rb.out hgr (hnl _ (by omega)))
      have BW3 := Lib.hid (BWb.out.grown hgr (by have := hzb; omega) (fun k hk => by have := (HLT.out k hk).1; omega))
      clear hown' hgr HIN HOb HVb Tb THb Rb BWb hzb hvb
      obtain ⟨⟨t0, t1, t2⟩, q0, q1, q2⟩ := T3.out.all3
      refine Rx.wpAnyX_take (i := 9) (oi := ?o9bd) (v := ?v9bd) (U := [9, 10]) ?hi9bd (by kernel_rfl) (by kernel_rfl) (by kernel_rfl) (by kernel_rfl) (fun _ _ _ h => h) ?y9bd (by assumption) ?r9bd
      case hi9bd => (simp only [List.getElem?_toArray, List.getElem?_cons_succ, List.getElem?_cons_zero]; rfl)
      case y9bd => (refine Or.inl ⟨by rfl, ?_⟩; intro w' hSw; (try dsimp only at hSw); go_simp; (try with_reducible rfl))
      try simp only [Act.put, List.setIfInBounds_toArray, List.set_cons_zero, List.set_cons_succ]
      refine Rx.wpAnyX_ready (rs := [10]) (by kernel_rfl) (by simp) ?_
      refine Rx.AllReadyX.last (o := ?o10bd) ?hi10bd ?_
      case hi10bd => (simp only [List.getElem?_toArray, List.getElem?_cons_succ, List.getElem?_cons_zero]; rfl)
      intro K hK
      go_simp
      refine hK.out _ _ ?_
      clear hK K hHeld
      refine Rx.wpAnyX_done (by kernel_rfl) ?_ _
      refine NoPanic.normal ?_
      have hne : w1.heap.size ≠ w.heap.size + 1 := by omega
      have T4 := Lib.hid (T3.out.1.set 2 (.slice B' L.length c')).all3
      have R4 := Lib.hid (R3.out.1.other (o := 2) (x := .slice B' L.length c') hne.symm)
      obtain ⟨⟨r0, r1, r2⟩, z0, z1, z2⟩ := R3.out.all3
      obtain ⟨s0, s1, s2⟩ := R4.out.all3
      obtain ⟨u0, u1, u2⟩ := T4.out
      have HB4 := Lib.hid ((((BW3.out.setCell (p := ⟨w1.heap.size, 2, none⟩) (by show w.heap.size ≤ w1.heap.size; omega) (.slice B' L.length c')).setCell (p := ⟨w.heap.size + 1, 0, none⟩) hle1 (.int .i64 most)).setCell (p := ⟨w.heap.size + 1, 1, none⟩) hle1 (.int .i64 long)).setCell (p := ⟨w.heap.size + 1, 2, none⟩) hle1 (.slice B' L.length c'))
      have R5 := Lib.hid ((R4.out.put3 (x0 := .int .i64 most) (x1 := .int .i64 long) (x2 := .slice B' L.length c')).all3)
      have HW5 := Lib.hid (Ents.of_own3 (own_set (o := 2) (x := .slice B' L.length c') (own_set (o := 1) (x := .int .i64 long) (own_set (o := 0) (x := .int .i64 most) (own_set_type (o := 2) (x := .slice B' L.length c') HO3.out TH3.out (by decide)) (Nat.lt_succ_self _)) (Nat.lt_succ_self _)) (Nat.lt_succ_self _)))
      have HNW := Lib.hid (show ∀ b o, B' = some ⟨b, o, none⟩ → w.heap.size ≤ b from fun b o hb => by have := (HO3.out.lt b (by rw [hb]; rfl)).1; omega)
      clear T3 R3 BW3 HO3 TH3 T4 R4 t0 t1 t2
      go_wp2_with fail
      refine bodyPost_ret (v := .tuple #[tv most long B' L.length c', .int .i64 0]) ?_ rfl ?_
      · obtain ⟨d0, d1, d2⟩ := R5.out
        simp [results, Tryd.results41, d0, d1, d2, go_sem]
      · exact ⟨B', c', rfl, .inr HNW.out, HW5.out, HB4.out⟩

/-- Learn, of any table. -/
theorem learn_any (most long : Int) (l : List En) (hl : l.length ≤ 100000) (A : Option Addr) (c : Nat) (v : Int) (m : Nat) (hm : m < 18446744073709551616) (p : Int) (w : World) (hA : Ents w A l) :
    Calls Tryd.prog 41 #[tv most long A l.length c, .int .i64 v, .int .u64 m, .int .i64 p] w (GivesL A l most long (learnL most l v m p) (learnE most l v m p) w) := by
  cases hr : (rightV v && Mac.rightB m && !Mac.groupB m && rightP p) with
  | false =>
    have e1 : learnE most l v m p = 1 := by unfold learnE; rw [hr]; rfl
    rw [learn_err (by rw [e1]; decide), e1]
    exact learn_wrong most long l A c v m hm p w hA hr
  | true =>
    by_cases hf : (rest v m l).length = l.length ∧ most ≤ (l.length : Int)
    · have e1 : learnE most l v m p = 8 := by unfold learnE; rw [hr, if_pos rfl, if_pos hf]
      rw [learn_err (by rw [e1]; decide), e1]
      exact learn_full most long l hl A c v m hm p w hA hr hf
    · have e1 : learnE most l v m p = 0 := by unfold learnE; rw [hr, if_pos rfl, if_neg hf]
      rw [learn_ok e1, e1]
      exact learn_fine most long l hl A c v m hm p w hA hr hf

end Tab
end Go.Proofs.YtmojegnflcokjaaDoor
