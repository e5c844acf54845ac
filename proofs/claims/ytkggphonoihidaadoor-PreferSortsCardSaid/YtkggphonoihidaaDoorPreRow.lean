/-
  A row of vectors that may be written, and two places of it in each other's stead; slices.swapRangeCmpFunc, rotateCmpFunc.
-/
import Derived.Test.YtkggphonoihidaaDoorPreB
namespace Go.Proofs.YtkggphonoihidaaDoor
open Go.RowKit
namespace Pre
open Oct

theorem enc_flat : ∀ (l : List Vc) (j : Nat) (x : Vc), l[j]? = some x → (l.flatMap enc)[j * 4]? = some (.int .u64 x.r) ∧ (l.flatMap enc)[j * 4 + 1]? = some (.int .u64 x.c) ∧ (l.flatMap enc)[j * 4 + 2]? = some (.int .u64 x.b) ∧ (l.flatMap enc)[j * 4 + 3]? = some (.int .i64 x.p)
  | [], j, x, h => by simp at h
  | a :: l, 0, x, h => by
    simp at h
    subst h
    exact ⟨rfl, rfl, rfl, rfl⟩
  | a :: l, j + 1, x, h => by
    have := enc_flat l j x (by simpa using h)
    rw [List.flatMap_cons, show (j + 1) * 4 = j * 4 + 4 by omega]
    exact this

theorem enc_length (l : List Vc) : (l.flatMap enc).length = l.length * 4 := by
  induction l with
  | nil => rfl
  | cons a l ih => rw [List.flatMap_cons, List.length_append, ih, List.length_cons]; show 4 + _ = _; omega

theorem enc_one (l : List Vc) : ∀ u ∈ l.flatMap enc, u.oneCell' = true := by
  intro u hu
  obtain ⟨a, _, ha⟩ := List.mem_flatMap.1 hu
  simp [enc] at ha
  rcases ha with rfl | rfl | rfl | rfl <;> rfl

theorem set_flat : ∀ (l : List Vc) (i : Nat) (x : Vc), i < l.length → ((((l.flatMap enc).set (i * 4) (.int .u64 x.r)).set (i * 4 + 1) (.int .u64 x.c)).set (i * 4 + 2) (.int .u64 x.b)).set (i * 4 + 3) (.int .i64 x.p) = (l.set i x).flatMap enc
  | [], i, x, h => by simp at h
  | a :: l, 0, x, _ => rfl
  | a :: l, i + 1, x, h => by
    have := set_flat l i x (by simpa using h)
    rw [List.set_cons_succ, List.flatMap_cons, List.flatMap_cons, ← this, show (i + 1) * 4 = i * 4 + 4 by omega]
    rfl

/-- A row that holds these vectors, in a block of the call's own. -/
abbrev Row (w : World) (g : Nat) (l : List Vc) : Prop := Bx.Fre w g (l.flatMap enc)

theorem Row.vs {w : World} {g : Nat} {l : List Vc} (h : Row w g l) : Vs w (some ⟨g, 0, none⟩) l := fun j x hj => by
  obtain ⟨e0, e1, e2, e3⟩ := enc_flat l j x hj
  refine ⟨g, 0, rfl, h.2.1, ?_, ?_, ?_, ?_⟩
  · rw [Nat.zero_add]; exact h.1.at _ e0
  · rw [Nat.zero_add]; exact h.1.at _ e1
  · rw [Nat.zero_add]; exact h.1.at _ e2
  · rw [Nat.zero_add]; exact h.1.at _ e3

theorem Row.at {w : World} {g : Nat} {l : List Vc} (h : Row w g l) {k : Nat} (hk : k < l.length) : (w.cell? ⟨g, k * 4, none⟩ = some (.int .u64 l[k].r) ∧ w.cell? ⟨g, k * 4 + 1, none⟩ = some (.int .u64 l[k].c) ∧ w.cell? ⟨g, k * 4 + 2, none⟩ = some (.int .u64 l[k].b) ∧ w.cell? ⟨g, k * 4 + 3, none⟩ = some (.int .i64 l[k].p)) ∧ w.frozen? ⟨g, k * 4, none⟩ = false ∧ w.frozen? ⟨g, k * 4 + 1, none⟩ = false ∧ w.frozen? ⟨g, k * 4 + 2, none⟩ = false ∧ w.frozen? ⟨g, k * 4 + 3, none⟩ = false := by
  obtain ⟨e0, e1, e2, e3⟩ := enc_flat l k _ (List.getElem?_eq_getElem hk)
  exact ⟨⟨h.1.at _ e0, h.1.at _ e1, h.1.at _ e2, h.1.at _ e3⟩, h.2.2 _, h.2.2 _, h.2.2 _, h.2.2 _⟩

theorem Row.set {w : World} {g : Nat} {l : List Vc} (h : Row w g l) {i : Nat} (hi : i < l.length) (x : Vc) : Row ((((w.setCell ⟨g, i * 4, none⟩ (.int .u64 x.r)).setCell ⟨g, i * 4 + 1, none⟩ (.int .u64 x.c)).setCell ⟨g, i * 4 + 2, none⟩ (.int .u64 x.b)).setCell ⟨g, i * 4 + 3, none⟩ (.int .i64 x.p)) g (l.set i x) := by
  unfold Row
  rw [← set_flat l i x hi]
  exact (((Bx.Fre.set h _ _).set _ _).set _ _).set _ _

theorem set_below {w0 w : World} {g : Nat} (h : Below g w0 w) (o1 o2 o3 o4 : Nat) (x1 x2 x3 x4 : Value) : Below g w0 ((((w.setCell ⟨g, o1, none⟩ x1).setCell ⟨g, o2, none⟩ x2).setCell ⟨g, o3, none⟩ x3).setCell ⟨g, o4, none⟩ x4) :=
  (((h.setCell (Nat.le_refl _) _).setCell (Nat.le_refl _) _).setCell (Nat.le_refl _) _).setCell (Nat.le_refl _) _

abbrev cmpF : Value := .func (.func 19) #[] #[]

/-- The row is what it was, its places moved so; nothing below it has changed. -/
def MovG (σ : Nat → Nat) (g : Nat) (l : List Vc) (w : World) (e : Ending) (w' : World) : Prop :=
  e = .returned (.tuple #[]) ∧ ∃ l', Srt.Mv σ l l' ∧ Row w' g l' ∧ Below g w w'

theorem wrap_small {a : Nat} (h : a ≤ 300000) : IntKind.i64.wrap (a : Int) = a := by rw [IntKind.wrap_i64]; omega

set_option maxRecDepth 20000 in
set_option maxHeartbeats 4000000 in
theorem swaps_any (l : List Vc) (hl : l.length ≤ 100000) (g a b n c : Nat) (hab : a + n ≤ b) (hb : b + n ≤ l.length) (w : World) (hR : Row w g l) :
    Calls Tryd.prog 44 #[.slice (some ⟨g, 0, none⟩) l.length c, .int .i64 a, .int .i64 b, .int .i64 n, cmpF] w (MovG (Srt.rngS a b n) g l w) := by
  have HR := Lib.hid hR
  have HL := Lib.hid hl
  have HAB := Lib.hid hab
  have HBL := Lib.hid hb
  clear hR hl hab hb
  obtain ⟨N, hN⟩ : ∃ N, N = l.length := ⟨_, rfl⟩
  rw [← hN]
  have HN := Lib.hid hN
  clear hN
  go_enter Tryd.func44, Tryd.ntmps44
  go_wp2
  go_loopw [10] (fun ix wr => ∃ (i : Nat) (l' : List Vc), i ≤ n ∧ ix = .int .i64 i ∧ Aside (Srt.Mv (Srt.rngS a b i) l l') ∧ Aside (Row wr g l') ∧ Aside (Below g w wr)) (fun ix _ => n - (intOf ix).toNat)
  case atStart => exact ⟨0, l, Nat.zero_le _, rfl, (Srt.Mv.id l).cong (fun k => (Srt.rng_none a b k).symm), HR.out, Below.refl _ _⟩
  case round =>
    obtain ⟨i, l', hi, rfl, HM, HW, HB⟩ := hrel
    by_cases hlt : i < n
    · have hll := HM.out.len
      have HQ := Lib.hid (show a + i < l'.length ∧ b + i < l'.length ∧ a + i < b + i ∧ N ≤ 100000 ∧ b + i < N by have := HAB.out; have := HBL.out; have := HN.out; have := HL.out; omega)
      obtain ⟨p, hp⟩ : ∃ p, p = a + i := ⟨_, rfl⟩
      obtain ⟨q, hq⟩ : ∃ q, q = b + i := ⟨_, rfl⟩
      rw [← hp, ← hq] at HQ
      obtain ⟨hp1, hq1, hpq, hN1, hN2⟩ := HQ.out
      clear HQ hll
      have HSW := Srt.Mv.swp l' p q hp1 hq1
      obtain ⟨⟨c0, c1, c2, c3⟩, f0, f1, f2, f3⟩ := Row.at HW.out hp1
      obtain ⟨⟨d0, d1, d2, d3⟩, g0, g1, g2, g3⟩ := Row.at HW.out hq1
      have HR2 := Row.set (Row.set HW.out hp1 l'[q]) (i := q) (by simpa using hq1) l'[p]
      have HB2 := set_below (set_below HB.out (p * 4) (p * 4 + 1) (p * 4 + 2) (p * 4 + 3) (.int .u64 l'[q].r) (.int .u64 l'[q].c) (.int .u64 l'[q].b) (.int .i64 l'[q].p)) (q * 4) (q * 4 + 1) (q * 4 + 2) (q * 4 + 3) (.int .u64 l'[p].r) (.int .u64 l'[p].c) (.int .u64 l'[p].b) (.int .i64 l'[p].p)
      have HM2 := Lib.hid ((HM.out.trans HSW).cong (τ := Srt.rngS a b (i + 1)) (fun k => by rw [hp, hq]; exact Srt.rng_step a b n i k HAB.out hlt))
      clear HSW
      replace HR2 := Lib.hid HR2
      replace HB2 := Lib.hid HB2
      generalize ((l'.set p l'[q]).set q l'[p]) = l2 at *
      generalize l'[p] = x at *
      generalize l'[q] = y at *
      obtain ⟨x1, x2, x3, x4⟩ := x
      obtain ⟨y1, y2, y3, y4⟩ := y
      simp only at c0 c1 c2 c3 d0 d1 d2 d3
      have e1 : (a : Int) + i = p := by omega
      have e2 : (b : Int) + i = q := by omega
      have e3 := wrap_small (a := p) (by omega)
      have e4 := wrap_small (a := q) (by omega)
      have e5 : (0 : Int) ≤ (p : Int) := by omega
      have e6 : (p : Int) < (N : Int) := by omega
      have e7 : (0 : Int) ≤ (q : Int) := by omega
      have e8 : (q : Int) < (N : Int) := by omega
      have e9 : ¬ p = q := by omega
      clear hp hq hp1 hq1 HM HW HB
      go_wp2
      go_region
      go_wp2
      go_roundw
      case rel => exact ⟨i + 1, l2, by omega, by go_num, HM2.out, HR2.out.drew, HB2.out.drew⟩
      case measure => simp [intOf]; omega
    · obtain rfl : i = n := by omega
      go_wp2
      exact bodyPost_ret (v := .tuple #[]) (by simp [results, Tryd.results44, go_sem]) rfl ⟨rfl, l', HM.out, HW.out, HB.out⟩

set_option maxRecDepth 20000 in
set_option maxHeartbeats 4000000 in
theorem rotate_any (l : List Vc) (hl : l.length ≤ 100000) (g a m b c : Nat) (ham : a < m) (hmb : m < b) (hb : b ≤ l.length) (w : World) (hR : Row w g l) :
    Calls Tryd.prog 39 #[.slice (some ⟨g, 0, none⟩) l.length c, .int .i64 a, .int .i64 m, .int .i64 b, cmpF] w (MovG (Srt.rotS a m b) g l w) := by
  have HR := Lib.hid hR
  have HL := Lib.hid hl
  have HBL := Lib.hid hb
  have HS := Lib.hid swaps_any
  clear hR hl
  obtain ⟨N, hN⟩ : ∃ N, N = l.length := ⟨_, rfl⟩
  rw [← hN]
  have HN := Lib.hid hN
  clear hN
  obtain ⟨i0, hi0⟩ : ∃ i0, i0 = m - a := ⟨_, rfl⟩
  obtain ⟨j0, hj0⟩ : ∃ j0, j0 = b - m := ⟨_, rfl⟩
  have e1 : (m : Int) - a = i0 := by omega
  have e2 : (b : Int) - m = j0 := by omega
  have e3 := wrap_small (a := i0) (by have := HBL.out; have := HL.out; omega)
  have e4 := wrap_small (a := j0) (by have := HBL.out; have := HL.out; omega)
  have HI := Lib.hid (show m - i0 = a ∧ m + j0 = b ∧ 0 < i0 ∧ 0 < j0 ∧ i0 ≤ m ∧ m + j0 ≤ l.length ∧ N ≤ 100000 by have := HBL.out; have := HL.out; have := HN.out; omega)
  clear hi0 hj0 ham hmb hb
  go_enter Tryd.func39, Tryd.ntmps39
  go_wp2
  go_loopw [10, 11] (fun vi vj wr => ∃ (i j : Nat) (l' : List Vc), vi = .int .i64 i ∧ vj = .int .i64 j ∧ Aside (0 < i ∧ 0 < j ∧ i ≤ i0 ∧ j ≤ j0) ∧ Aside (l'.length = l.length ∧ l'.Perm l) ∧ Aside (∀ k, l'[Srt.rotS (m - i) m (m + j) k]? = l[Srt.rotS a m b k]?) ∧ Aside (Row wr g l') ∧ Aside (Below g w wr)) (fun vi vj _ => (intOf vi).toNat + (intOf vj).toNat)
  case atStart => exact ⟨i0, j0, l, rfl, rfl, ⟨HI.out.2.2.1, HI.out.2.2.2.1, Nat.le_refl _, Nat.le_refl _⟩, ⟨rfl, .refl _⟩, (fun k => by rw [HI.out.1, HI.out.2.1]), HR.out, Below.refl _ _⟩
  case round =>
    obtain ⟨i, j, l', rfl, rfl, HIJ, HP, HM, HW, HB⟩ := hrel
    obtain ⟨p, hp⟩ : ∃ p, p = m - i := ⟨_, rfl⟩
    have HQ := Lib.hid (show p + i = m ∧ m + j ≤ l.length ∧ l.length = N ∧ N ≤ 100000 ∧ 0 < i ∧ 0 < j by have := HIJ.out; have := HI.out; have := HN.out; omega)
    have e5 : (m : Int) - i = p := by have := HQ.out; omega
    have e6 := wrap_small (a := p) (by have := HQ.out; omega)
    have HLL := Lib.hid (show l'.length = N by rw [HP.out.1]; exact HN.out.symm)
    rcases Nat.lt_trichotomy j i with h | h | h
    · obtain ⟨d, hd⟩ : ∃ d, d = i - j := ⟨_, rfl⟩
      have q1 : ¬ ((i : Int) = j) := by omega
      have q2 : (j : Int) < i := by omega
      have q3 : (i : Int) - j = d := by omega
      have q4 := wrap_small (a := d) (by have := HQ.out; omega)
      have q5 : ((i : Int) != (j : Int)) = true := by simp; omega
      have HC := Lib.hid (HS.out l' (by have := HLL.out; have := HQ.out; omega) g p m j c (by have := HQ.out; omega) (by have := HLL.out; have := HQ.out; omega) wr HW.out)
      rw [HLL.out] at HC
      have HH := Lib.hid h
      have HD := Lib.hid hd
      have HPP := Lib.hid hp
      clear h hd hp
      go_wp2_with fail
      refine HC.out.mono ?_; rintro e w1 ⟨rfl, l2, hm, hr, hbb⟩
      have R2 := Lib.hid hr
      have B2 := Lib.hid (HB.out.trans hbb)
      have M2 := Lib.hid (show ∀ k, l2[Srt.rotS (m - d) m (m + j) k]? = l[Srt.rotS a m b k]? from fun k => by
        rw [hm.at_, ← HM.out k, HD.out, HPP.out, Srt.rot_gt m i j k HH.out (by have := HQ.out; omega)])
      have P2 := Lib.hid (show l2.length = l.length ∧ l2.Perm l from ⟨hm.len.trans HP.out.1, hm.perm.trans HP.out.2⟩)
      clear hm hr hbb
      go_wp2
      go_roundw
      case rel => exact ⟨d, j, l2, rfl, rfl, (by have := HQ.out; have := HH.out; have := HD.out; have := HIJ.out; show _ ∧ _ ∧ _ ∧ _; omega), P2.out, M2.out, R2.out, B2.out⟩
      case measure => have := HD.out; have := HH.out; have := HQ.out; simp [intOf]; omega
    · subst h
      have q1 : ((j : Int) != (j : Int)) = false := by simp
      have HC := Lib.hid (HS.out l' (by have := HLL.out; have := HQ.out; omega) g p m j c (by have := HQ.out; omega) (by have := HLL.out; have := HQ.out; omega) wr HW.out)
      rw [HLL.out] at HC
      have HPP := Lib.hid hp
      clear hp
      go_wp2_with fail
      refine HC.out.mono ?_; rintro e w1 ⟨rfl, l2, hm, hr, hbb⟩
      have HF : Hid (MovG (Srt.rotS a m b) g l w (.returned (.tuple #[])) w1) := Lib.hid ⟨rfl, l2, ⟨hm.len.trans HP.out.1, hm.perm.trans HP.out.2, fun k => by rw [hm.at_, ← HM.out k, HPP.out, Srt.rot_eq m j k (by have := HQ.out; omega)]⟩, hr, HB.out.trans hbb⟩
      clear hm hr hbb
      go_wp2
      exact bodyPost_ret (v := .tuple #[]) (by simp [results, Tryd.results39, go_sem]) rfl HF.out
    · obtain ⟨d, hd⟩ : ∃ d, d = j - i := ⟨_, rfl⟩
      obtain ⟨t, ht⟩ : ∃ t, t = m + j := ⟨_, rfl⟩
      obtain ⟨s, hs⟩ : ∃ s, s = m + j - i := ⟨_, rfl⟩
      have q1 : ¬ ((i : Int) = j) := by omega
      have q2 : ¬ ((j : Int) < i) := by omega
      have q3 : (j : Int) - i = d := by omega
      have q4 := wrap_small (a := d) (by have := HQ.out; omega)
      have q5 : ((i : Int) != (j : Int)) = true := by simp; omega
      have q6 : (m : Int) + j = t := by omega
      have q7 := wrap_small (a := t) (by have := HQ.out; omega)
      have q8 : (t : Int) - i = s := by omega
      have q9 := wrap_small (a := s) (by have := HQ.out; omega)
      have HC := Lib.hid (HS.out l' (by have := HLL.out; have := HQ.out; omega) g p s i c (by have := HQ.out; omega) (by have := HLL.out; have := HQ.out; omega) wr HW.out)
      rw [HLL.out] at HC
      have HH := Lib.hid h
      have HD := Lib.hid hd
      have HSS := Lib.hid hs
      have HPP := Lib.hid hp
      clear h hd hp hs ht
      go_wp2_with fail
      refine HC.out.mono ?_; rintro e w1 ⟨rfl, l2, hm, hr, hbb⟩
      have R2 := Lib.hid hr
      have B2 := Lib.hid (HB.out.trans hbb)
      have M2 := Lib.hid (show ∀ k, l2[Srt.rotS (m - i) m (m + d) k]? = l[Srt.rotS a m b k]? from fun k => by
        rw [hm.at_, ← HM.out k, HD.out, HSS.out, HPP.out, Srt.rot_lt m i j k HH.out (by have := HQ.out; omega)])
      have P2 := Lib.hid (show l2.length = l.length ∧ l2.Perm l from ⟨hm.len.trans HP.out.1, hm.perm.trans HP.out.2⟩)
      clear hm hr hbb
      go_wp2
      go_roundw
      case rel => exact ⟨i, d, l2, rfl, rfl, (by have := HQ.out; have := HH.out; have := HD.out; have := HIJ.out; show _ ∧ _ ∧ _ ∧ _; omega), P2.out, M2.out, R2.out, B2.out⟩
      case measure => have := HD.out; have := HH.out; have := HQ.out; simp [intOf]; omega

end Pre
end Go.Proofs.YtkggphonoihidaaDoor
