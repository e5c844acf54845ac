/-
  slices.symMergeCmpFunc at vectors, where the second run has one.
-/
import Derived.Test.YtkggphonoihidaaDoorPreMrgA
namespace Go.Proofs.YtkggphonoihidaaDoor
open Go.RowKit
namespace Pre
open Oct

/-- A search the other way: what is not behind lies ahead of i, what is behind lies from j on. -/
def Sy (x : Vc) (lo hi i j : Nat) (l : List Vc) : Prop := (∀ (k : Nat) (y : Vc), lo ≤ k → k < i → l[k]? = some y → Srt.Le ltV y x) ∧ ∀ (k : Nat) (y : Vc), j ≤ k → k < hi → l[k]? = some y → ltV x y = true

theorem Sy.not {x : Vc} {lo hi i j h : Nat} {l : List Vc} (s : Sy x lo hi i j l) (hs : Srt.Inc ltV lo hi l) (h2 : h < hi) (hl : h < l.length) (hlt : ltV x l[h] = false) : Sy x lo hi (h + 1) j l :=
  ⟨fun k y k1 k2 hk => by
    by_cases hi : k < i
    · exact s.1 k y k1 hi hk
    · exact tot.le_trans (Srt.le_or tot hs k1 (by omega) h2 hk (List.getElem?_eq_getElem hl)) hlt, s.2⟩

theorem Sy.more {x : Vc} {lo hi i j h : Nat} {l : List Vc} (s : Sy x lo hi i j l) (hs : Srt.Inc ltV lo hi l) (h1 : lo ≤ h) (hl : h < l.length) (hlt : ltV x l[h] = true) : Sy x lo hi i h l :=
  ⟨s.1, fun _ _ k1 k2 hk => tot.lt_le_lt hlt (Srt.le_or tot hs h1 k1 k2 (List.getElem?_eq_getElem hl) hk)⟩

set_option maxRecDepth 100000 in
set_option maxHeartbeats 8000000 in
theorem merge_last (l : List Vc) (hl : l.length ≤ 100000) (g a m b c : Nat) (ham : a < m) (hmb : m < b) (hb : b ≤ l.length) (hmany : a + 1 < m) (hone : b = m + 1) (h1 : Srt.Inc ltV a m l) (h2 : Srt.Inc ltV m b l) (w : World) (hR : Row w g l) :
    Calls Tryd.prog 34 #[.slice (some ⟨g, 0, none⟩) l.length c, .int .i64 a, .int .i64 m, .int .i64 b, cmpF] w (SrtG a b g l w) := by
  have HR := Lib.hid hR
  have HC := Lib.hid order_any
  have HQ := Lib.hid (show a < m ∧ m < b ∧ b ≤ l.length ∧ l.length ≤ 100000 from ⟨ham, hmb, hb, hl⟩)
  have HI1 := Lib.hid h1
  have HI2 := Lib.hid h2
  clear hR h1 h2
  obtain ⟨N, hN⟩ : ∃ N, N = l.length := ⟨_, rfl⟩
  rw [← hN]
  have HN := Lib.hid hN
  clear hN
  have eg : ∀ args w, (callFunc 19 args).run Tryd.prog w = .ok (.enter 19 args) w := enters_of Tryd.func19 (by kernel_rfl) rfl
  obtain ⟨d, hd⟩ : ∃ d, d = m - a := ⟨_, rfl⟩
  have e1 : (m : Int) - a = d := by omega
  have e2 : (b : Int) - m = 1 := by omega
  have e3 : ¬ ((d : Int) = 1) := by omega
  have e4 : ((d : Int) == 1) = false := beq_eq_false_iff_ne.2 e3
  have e5 := wrap_small (a := d) (by omega)
  have HM1 := Lib.hid hmany
  have HO := Lib.hid hone
  clear ham hmb hb hl hone hmany hd
  go_enter Tryd.func34, Tryd.ntmps34
  go_wp2
  have HAL := Lib.hid (show m < l.length by have := HQ.out; omega)
  obtain ⟨x, hxx⟩ : ∃ x, x = l[m]'(HAL.out) := ⟨_, rfl⟩
  have HX : Hid (l[m]? = some x) := Lib.hid (by rw [hxx]; exact List.getElem?_eq_getElem _)
  have HXE := Lib.hid hxx
  clear hxx
  go_loopw [14, 15, 16] (fun vi vj _ wr => ∃ i j : Nat, vi = .int .i64 i ∧ vj = .int .i64 j ∧ Aside (a ≤ i ∧ i ≤ j ∧ j ≤ m) ∧ Aside (Sy x a m i j l) ∧ Aside (Row wr g l) ∧ Aside (Below g w wr)) (fun vi vj _ _ => (intOf vj).toNat - (intOf vi).toNat)
  case atStart => exact ⟨a, m, rfl, rfl, (by have := HQ.out; show _ ∧ _ ∧ _; omega), ⟨fun _ _ k1 k2 => absurd k2 (by omega), fun _ _ k1 k2 => absurd k2 (by omega)⟩, HR.out, Below.refl _ _⟩
  case round =>
    obtain ⟨i, j, rfl, rfl, HIJ, HS, HW, HB⟩ := hrel
    by_cases hlt : i < j
    · have HH := Lib.hid (half_lt hlt)
      have q1 : (i : Int) + j < 600000 := by have := HIJ.out; have := HQ.out; omega
      obtain ⟨h, hh⟩ : ∃ h, h = (i + j) / 2 := ⟨_, rfl⟩
      rw [← hh] at HH
      have q2 : ((i : Int) + j) / 2 = h := by omega
      have q3 : (0 : Int) ≤ (h : Int) := by omega
      have q4 : (h : Int) < (N : Int) := by have := HIJ.out; have := HQ.out; have := HN.out; have := HH.out; omega
      have q5 : (0 : Int) ≤ (m : Int) := by omega
      have q6 : (m : Int) < (N : Int) := by have := HAL.out; have := HN.out; omega
      have q7 : h < 300000 := by have := HIJ.out; have := HQ.out; have := HH.out; omega
      have hhl : h < l.length := by have := HN.out; omega
      have hal := HAL.out
      obtain ⟨⟨c0, c1, c2, c3⟩, _⟩ := Row.at HW.out hhl
      obtain ⟨⟨d0, d1, d2, d3⟩, _⟩ := Row.at HW.out hal
      rw [← HXE.out] at d0 d1 d2 d3
      have HT : Hid (ltV x l[h] = true → Sy x a m i h l) := Lib.hid fun e => HS.out.more HI1.out (by have := HIJ.out; have := HH.out; omega) hhl e
      have HF : Hid (ltV x l[h] = false → Sy x a m (h + 1) j l) := Lib.hid fun e => HS.out.not HI1.out (by have := HIJ.out; have := HH.out; omega) hhl e
      have HC' := Lib.hid (HC.out x l[h])
      clear hal hh
      generalize l[h] = y at *
      cases hx : ltV x y with
      | true =>
        have hz := ord_neg hx
        rw [hx] at HT HF
        clear hx
        generalize ordV x y = z at *
        have hz2 : decide (z < 0) = true := decide_eq_true hz
        have hz3 : (!decide (z < 0)) = false := by rw [hz2]; rfl
        obtain ⟨y1, y2, y3, y4⟩ := y
        obtain ⟨x1, x2, x3, x4⟩ := x
        simp only at c0 c1 c2 c3 d0 d1 d2 d3
        go_wp2_with fail
        go_region_held3 (fun w' => w'.cell? ⟨g, h * 4, none⟩ = some (.int .u64 y1) ∧ w'.cell? ⟨g, h * 4 + 1, none⟩ = some (.int .u64 y2) ∧ w'.cell? ⟨g, h * 4 + 2, none⟩ = some (.int .u64 y3) ∧ w'.cell? ⟨g, h * 4 + 3, none⟩ = some (.int .i64 y4) ∧ w'.cell? ⟨g, m * 4, none⟩ = some (.int .u64 x1) ∧ w'.cell? ⟨g, m * 4 + 1, none⟩ = some (.int .u64 x2) ∧ w'.cell? ⟨g, m * 4 + 2, none⟩ = some (.int .u64 x3) ∧ w'.cell? ⟨g, m * 4 + 3, none⟩ = some (.int .i64 x4))
          (first | go_keep | (go_split_ands; exact ⟨Bx.keep_cell (by assumption) (by assumption), Bx.keep_cell (by assumption) (by assumption), Bx.keep_cell (by assumption) (by assumption), Bx.keep_cell (by assumption) (by assumption), Bx.keep_cell (by assumption) (by assumption), Bx.keep_cell (by assumption) (by assumption), Bx.keep_cell (by assumption) (by assumption), Bx.keep_cell (by assumption) (by assumption)⟩))
          (first | (go_at_call 19; with_reducible refine (HC'.out _).mono ?_; rintro e w1 ⟨rfl, hb1⟩))
        have R2 := Lib.hid (Bx.Fre.keep HW.out ((Below.refl _ _).drew.trans hb1))
        have B2 := Lib.hid (HB.out.trans ((Below.refl g wr).drew.trans (hb1.mono (Row.lt HW.out))))
        clear hb1 c0 c1 c2 c3 d0 d1 d2 d3 q1 q2 q3 q4 q5 q6 q7
        go_wp2
        go_roundw
        case rel => exact ⟨i, h, rfl, rfl, (by have := HH.out; have := HIJ.out; show _ ∧ _ ∧ _; omega), HT.out (by trivial), R2.out, B2.out⟩
        case measure => have := HH.out; simp [intOf]; omega
      | false =>
        have hz := ord_not hx
        rw [hx] at HT HF
        clear hx
        generalize ordV x y = z at *
        have hz2 : decide (z < 0) = false := decide_eq_false hz
        have hz3 : (!decide (z < 0)) = true := by rw [hz2]; rfl
        obtain ⟨y1, y2, y3, y4⟩ := y
        obtain ⟨x1, x2, x3, x4⟩ := x
        simp only at c0 c1 c2 c3 d0 d1 d2 d3
        go_wp2_with fail
        go_region_held3 (fun w' => w'.cell? ⟨g, h * 4, none⟩ = some (.int .u64 y1) ∧ w'.cell? ⟨g, h * 4 + 1, none⟩ = some (.int .u64 y2) ∧ w'.cell? ⟨g, h * 4 + 2, none⟩ = some (.int .u64 y3) ∧ w'.cell? ⟨g, h * 4 + 3, none⟩ = some (.int .i64 y4) ∧ w'.cell? ⟨g, m * 4, none⟩ = some (.int .u64 x1) ∧ w'.cell? ⟨g, m * 4 + 1, none⟩ = some (.int .u64 x2) ∧ w'.cell? ⟨g, m * 4 + 2, none⟩ = some (.int .u64 x3) ∧ w'.cell? ⟨g, m * 4 + 3, none⟩ = some (.int .i64 x4))
          (first | go_keep | (go_split_ands; exact ⟨Bx.keep_cell (by assumption) (by assumption), Bx.keep_cell (by assumption) (by assumption), Bx.keep_cell (by assumption) (by assumption), Bx.keep_cell (by assumption) (by assumption), Bx.keep_cell (by assumption) (by assumption), Bx.keep_cell (by assumption) (by assumption), Bx.keep_cell (by assumption) (by assumption), Bx.keep_cell (by assumption) (by assumption)⟩))
          (first | (go_at_call 19; with_reducible refine (HC'.out _).mono ?_; rintro e w1 ⟨rfl, hb1⟩))
        have R2 := Lib.hid (Bx.Fre.keep HW.out ((Below.refl _ _).drew.trans hb1))
        have B2 := Lib.hid (HB.out.trans ((Below.refl g wr).drew.trans (hb1.mono (Row.lt HW.out))))
        clear hb1 c0 c1 c2 c3 d0 d1 d2 d3 q1
        go_wp2
        go_roundw
        case rel => exact ⟨h + 1, j, by go_num, rfl, (by have := HH.out; have := HIJ.out; show _ ∧ _ ∧ _; omega), HF.out (by trivial), R2.out, B2.out⟩
        case measure => have := HH.out; simp [intOf]; omega
    · obtain rfl : j = i := by have := HIJ.out; omega
      have HDONE : Hid (∀ l', Srt.Mv (Srt.rotS j m (m + 1)) l l' → Srt.Moved a b l l' ∧ Srt.Inc ltV a b l') := Lib.hid fun l' hm =>
        ⟨(Srt.rot_moved HIJ.out.2.2 (by omega) hm).wide HIJ.out.1 (by have := HO.out; omega),
         by rw [HO.out]; exact Srt.merge_down tot HI1.out HIJ.out.1 HIJ.out.2.2 x HX.out HS.out.1 HS.out.2 hm⟩
      have HTB := Lib.hid (show j ≤ m ∧ m < N ∧ N ≤ 100000 by have := HIJ.out; have := HQ.out; have := HN.out; omega)
      clear hlt
      go_wp2
      go_loopw [17] (fun vk wr => ∃ (k : Nat) (l' : List Vc), vk = .int .i64 k ∧ Aside (j ≤ k ∧ k ≤ m) ∧ Aside (Srt.Mv (Srt.rotS k m (m + 1)) l l') ∧ Aside (Row wr g l') ∧ Aside (Below g w wr)) (fun vk _ => (intOf vk).toNat)
      case atStart => exact ⟨m, l, rfl, ⟨HTB.out.1, Nat.le_refl _⟩, (Srt.Mv.id l).cong (fun k => (Srt.down_none m k).symm), HW.out, HB.out⟩
      case round =>
        obtain ⟨k, l', rfl, HK, HM, HW2, HB2⟩ := hrel
        by_cases hkt : j < k
        · have HLL := Lib.hid (show l'.length = N by rw [HM.out.len]; exact HN.out.symm)
          obtain ⟨p, hp⟩ : ∃ p, k = p + 1 := ⟨k - 1, by omega⟩
          have hk1 : k < l'.length := by have := HLL.out; have := HTB.out; have := HK.out; omega
          have hp1 : p < l'.length := by omega
          have HSW := Lib.hid (Srt.Mv.swp l' k p hk1 hp1)
          obtain ⟨⟨c0, c1, c2, c3⟩, f0, f1, f2, f3⟩ := Row.at HW2.out hk1
          obtain ⟨⟨d0, d1, d2, d3⟩, g0, g1, g2, g3⟩ := Row.at HW2.out hp1
          have HR2 := Lib.hid (Row.set (Row.set HW2.out hk1 l'[p]) (i := p) (by simpa using hp1) l'[k])
          have HB3 := Lib.hid (set_below (set_below HB2.out (k * 4) (k * 4 + 1) (k * 4 + 2) (k * 4 + 3) (.int .u64 l'[p].r) (.int .u64 l'[p].c) (.int .u64 l'[p].b) (.int .i64 l'[p].p)) (p * 4) (p * 4 + 1) (p * 4 + 2) (p * 4 + 3) (.int .u64 l'[k].r) (.int .u64 l'[k].c) (.int .u64 l'[k].b) (.int .i64 l'[k].p))
          have HM2 := Lib.hid ((HM.out.trans HSW.out).cong (τ := Srt.rotS p m (m + 1)) (fun i => by subst hp; exact Srt.down_step m p i (by have := HK.out; omega)))
          clear HSW
          have w2 : (k : Int) - 1 = p := by omega
          have w3 := wrap_small (a := p) (by have := HTB.out; have := HK.out; omega)
          have w4 : (0 : Int) ≤ (k : Int) := by omega
          have w5 : (k : Int) < (N : Int) := by have := HTB.out; have := HK.out; omega
          have w6 : (0 : Int) ≤ (p : Int) := by omega
          have w7 : (p : Int) < (N : Int) := by have := HTB.out; have := HK.out; omega
          have w8 : ¬ k = p := by omega
          have HKP := Lib.hid (show k = p + 1 ∧ j < k from ⟨hp, hkt⟩)
          generalize (l'.set k l'[p]).set p l'[k] = l2 at *
          generalize l'[k] = u at *
          generalize l'[p] = v at *
          obtain ⟨u1, u2, u3, u4⟩ := u
          obtain ⟨v1, v2, v3, v4⟩ := v
          simp only at c0 c1 c2 c3 d0 d1 d2 d3
          clear hp hk1 hp1
          go_wp2
          go_region
          go_wp2
          go_roundw
          case rel => exact ⟨p, l2, rfl, (by have := HKP.out; have := HK.out; show _ ∧ _; omega), HM2.out, HR2.out.drew, HB3.out.drew⟩
          case measure => have := HKP.out; simp [intOf]; omega
        · obtain rfl : k = j := by have := HK.out; omega
          have HF : Hid (SrtG a b g l w (.returned (.tuple #[])) wr) := Lib.hid ⟨rfl, l', (HDONE.out l' HM.out).1, (HDONE.out l' HM.out).2, HW2.out, HB2.out⟩
          go_wp2
          exact bodyPost_ret (v := .tuple #[]) (by simp [results, Tryd.results34, go_sem]) rfl HF.out

end Pre
end Go.Proofs.YtkggphonoihidaaDoor
