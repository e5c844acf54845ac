/-
  slices.symMergeCmpFunc at vectors: two runs in order made one.
-/
import Derived.Test.YtkggphonoihidaaDoorPreMrgB
import Derived.Deep.DeepCutAuto
namespace Go.Proofs.YtkggphonoihidaaDoor
open Go.RowKit
namespace Pre
open Oct

/-- What the search about the turn has found: s and r close in. -/
def Fnd (lo hi n s r : Nat) (l : List Vc) : Prop := lo ≤ s ∧ s ≤ r ∧ r ≤ hi ∧ (s = lo ∨ ∀ x y : Vc, l[s - 1]? = some x → l[n - s]? = some y → Srt.Le ltV x y) ∧ (r = hi ∨ ∀ x y : Vc, l[n - 1 - r]? = some y → l[r]? = some x → ltV y x = true)

theorem Fnd.right {lo hi n s r c : Nat} {l : List Vc} (f : Fnd lo hi n s r l) (h1 : s ≤ c) (h2 : c < r) (hp : n - 1 - c < l.length) (hc : c < l.length) (h : ltV l[n - 1 - c] l[c] = false) : Fnd lo hi n (c + 1) r l := by
  obtain ⟨f1, f2, f3, f4, f5⟩ := f
  refine ⟨by omega, by omega, f3, .inr fun x y hx hy => ?_, f5⟩
  rw [show c + 1 - 1 = c by omega, List.getElem?_eq_getElem hc] at hx
  rw [show n - (c + 1) = n - 1 - c by omega, List.getElem?_eq_getElem hp] at hy
  cases hx
  cases hy
  exact h

theorem Fnd.left {lo hi n s r c : Nat} {l : List Vc} (f : Fnd lo hi n s r l) (h1 : s ≤ c) (h2 : c < r) (hp : n - 1 - c < l.length) (hc : c < l.length) (h : ltV l[n - 1 - c] l[c] = true) : Fnd lo hi n s c l := by
  obtain ⟨f1, f2, f3, f4, f5⟩ := f
  refine ⟨f1, h1, by omega, f4, .inr fun x y hy hx => ?_⟩
  rw [List.getElem?_eq_getElem hc] at hx
  rw [List.getElem?_eq_getElem hp] at hy
  cases hx
  cases hy
  exact h

/-- A truth value says it. -/
def Gd (β : Bool) (P : Prop) : Prop := (β = true → P) ∧ (β = false → ¬ P)
theorem Gd.t {P : Prop} (h : P) : Gd true P := ⟨fun _ => h, fun e => by cases e⟩
theorem Gd.f {P : Prop} (h : ¬ P) : Gd false P := ⟨fun e => (by cases e), fun _ => h⟩

/-- The numbers of the search. -/
def Num (a m b mid lo hi : Nat) : Prop := a + 1 < m ∧ m + 1 < b ∧ 2 * mid ≤ a + b ∧ a + b ≤ 2 * mid + 1 ∧ ((lo + b = mid + m ∧ hi = mid ∧ mid < m) ∨ (lo = a ∧ hi = m ∧ m ≤ mid))

theorem Fnd.cut {a m b mid lo hi s : Nat} {l : List Vc} (q : Num a m b mid lo hi) (h1 : Srt.Inc ltV a m l) (h2 : Srt.Inc ltV m b l) (f : Fnd lo hi (mid + m) s s l) : Srt.Cut ltV a m b s (mid + m - s) mid l := by
  obtain ⟨q1, q2, q3, q4, q5⟩ := q
  obtain ⟨f1, f2, f3, f4, f5⟩ := f
  refine ⟨h1, h2, by omega, by omega, by omega, by omega, by omega, fun x y k1 k2 hx hy => ?_, fun x y k1 k2 hy hx => ?_⟩
  · rcases f4 with f4 | f4
    · omega
    · exact f4 x y hx hy
  · rcases f5 with f5 | f5
    · omega
    · exact f5 x y (by rw [show mid + m - 1 - s = mid + m - s - 1 by omega]; exact hy) hx

theorem Num.c {a m b mid lo hi s r c : Nat} (q : Num a m b mid lo hi) (h1 : lo ≤ s) (h2 : s ≤ c) (h3 : c < r) (h4 : r ≤ hi) : c < b ∧ c < mid + m - 1 + 1 ∧ mid + m - 1 - c < b ∧ 1 ≤ mid + m := by
  obtain ⟨q1, q2, q3, q4, q5⟩ := q
  omega

/-- The left half, the right half in order already, or to be merged. -/
theorem half_left {a b s e mid : Nat} {l : List Vc} (h : Srt.Halves ltV a b s e mid l) (hs : a ≤ s ∧ s ≤ mid) (hn : ¬ (a < s ∧ s < mid)) : Srt.Inc ltV a mid l := by
  rcases (show s = a ∨ s = mid by omega) with rfl | rfl
  · exact h.two
  · exact h.one
theorem half_right {a b s e mid : Nat} {l : List Vc} (h : Srt.Halves ltV a b s e mid l) (hs : mid ≤ e ∧ e ≤ b) (hn : ¬ (mid < e ∧ e < b)) : Srt.Inc ltV mid b l := by
  rcases (show e = mid ∨ e = b by omega) with rfl | rfl
  · exact h.four
  · exact h.three

/-- The contract for shorter runs. -/
def Ih (N g c k : Nat) : Prop := ∀ (l : List Vc) (a m b : Nat), l.length = N → a < m → m < b → b ≤ N → b - a < k → Srt.Inc ltV a m l → Srt.Inc ltV m b l → ∀ w, Row w g l →
  Calls Tryd.prog 34 #[.slice (some ⟨g, 0, none⟩) N c, .int .i64 a, .int .i64 m, .int .i64 b, cmpF] w (SrtG a b g l w)

set_option maxRecDepth 100000 in
set_option maxHeartbeats 16000000 in
theorem merge_two (l : List Vc) (hl : l.length ≤ 100000) (g a m b c : Nat) (ham : a < m) (hmb : m < b) (hb : b ≤ l.length) (hm1 : a + 1 < m) (hm2 : m + 1 < b) (h1 : Srt.Inc ltV a m l) (h2 : Srt.Inc ltV m b l) (ih : Ih l.length g c (b - a)) (w : World) (hR : Row w g l) :
    Calls Tryd.prog 34 #[.slice (some ⟨g, 0, none⟩) l.length c, .int .i64 a, .int .i64 m, .int .i64 b, cmpF] w (SrtG a b g l w) := by
  have HIH := Lib.hid ih
  have HRT := Lib.hid rotate_any
  clear ih
  have HR := Lib.hid hR
  have HC := Lib.hid order_any
  have HQ := Lib.hid (show a < m ∧ m < b ∧ b ≤ l.length ∧ l.length ≤ 100000 from ⟨ham, hmb, hb, hl⟩)
  have HI1 := Lib.hid h1
  have HI2 := Lib.hid h2
  clear hR h1 h2
  obtain ⟨N, hN⟩ : ∃ N, N = l.length := ⟨_, rfl⟩
  rw [← hN]
  rw [← hN] at HIH
  have HN := Lib.hid hN
  clear hN
  have eg : ∀ args w, (callFunc 19 args).run Tryd.prog w = .ok (.enter 19 args) w := enters_of Tryd.func19 (by kernel_rfl) rfl
  obtain ⟨d, hd⟩ : ∃ d, d = m - a := ⟨_, rfl⟩
  obtain ⟨f, hf⟩ : ∃ f, f = b - m := ⟨_, rfl⟩
  obtain ⟨mid, hmid⟩ : ∃ mid, mid = (a + b) / 2 := ⟨_, rfl⟩
  obtain ⟨n, hn⟩ : ∃ n, n = mid + m := ⟨_, rfl⟩
  have e1 : (m : Int) - a = d := by omega
  have e2 : (b : Int) - m = f := by omega
  have e3 : ¬ ((d : Int) = 1) := by omega
  have e4 : ((d : Int) == 1) = false := beq_eq_false_iff_ne.2 e3
  have e5 := wrap_small (a := d) (by omega)
  have e6 : ¬ ((f : Int) = 1) := by omega
  have e7 : ((f : Int) == 1) = false := beq_eq_false_iff_ne.2 e6
  have e8 := wrap_small (a := f) (by omega)
  have e9 : (a : Int) + b < 600000 := by omega
  have e10 : ((a : Int) + b) / 2 = mid := by omega
  have e11 : (mid : Int) + m = n := by omega
  have e12 := wrap_small (a := n) (by omega)
  have e13 : mid < 300000 := by omega
  have HZ := Lib.hid (show a + 1 < m ∧ m + 1 < b ∧ 2 * mid ≤ a + b ∧ a + b ≤ 2 * mid + 1 ∧ n = mid + m ∧ b ≤ N ∧ N ≤ 100000 ∧ l.length = N by have := HN.out; omega)
  clear hd hf hmid hn ham hmb hb hl hm1 hm2
  go_enter Tryd.func34, Tryd.ntmps34
  go_upto_if 140 with (fail)
  clear e9 e10
  go_cut [20, 21] (fun s20 s21 wx => w = wx ∧ ∃ lo hi : Nat, s20 = .int .i64 lo ∧ s21 = .int .i64 hi ∧ Hid (Num a m b mid lo hi))
  case first =>
    as_aux_lemma =>
      by_cases h : mid < m
      · obtain ⟨lo, hlo⟩ : ∃ lo, lo = n - b := ⟨_, rfl⟩
        have q1 : (mid : Int) < m := by omega
        have q2 : (n : Int) - b = lo := by have := HZ.out; omega
        have q3 := wrap_small (a := lo) (by have := HZ.out; omega)
        have HNUM : Hid (Num a m b mid lo mid) := Lib.hid (by have := HZ.out; exact ⟨by omega, by omega, by omega, by omega, .inl ⟨by omega, rfl, h⟩⟩)
        clear h hlo
        go_wp2_with fail
        go_meet
        exact ⟨rfl, lo, mid, rfl, rfl, HNUM⟩
      · have q1 : ¬ (mid : Int) < m := by omega
        have HNUM : Hid (Num a m b mid a m) := Lib.hid (by have := HZ.out; exact ⟨by omega, by omega, by omega, by omega, .inr ⟨rfl, rfl, by omega⟩⟩)
        clear h
        go_wp2_with fail
        go_meet
        exact ⟨rfl, a, m, rfl, rfl, HNUM⟩
  case rest =>
    obtain ⟨rfl, lo, hi, rfl, rfl, HNUM⟩ := hcut
    obtain ⟨p, hp⟩ : ∃ p, p = n - 1 := ⟨_, rfl⟩
    have q1 : (n : Int) - 1 = p := by have := HZ.out; omega
    have q2 := wrap_small (a := p) (by have := HZ.out; omega)
    have HPP := Lib.hid hp
    clear hp
    have HLH := Lib.hid (show lo ≤ hi ∧ hi ≤ N by have h := HNUM.out; unfold Num at h; have := HZ.out; omega)
    go_wp2
    go_loopw [20, 21, 23] (fun vs vr _ wr => ∃ s r : Nat, vs = .int .i64 s ∧ vr = .int .i64 r ∧ Aside (Fnd lo hi n s r l) ∧ Aside (Row wr g l) ∧ Aside (Below g w wr)) (fun vs vr _ _ => (intOf vr).toNat - (intOf vs).toNat)
    case atStart => exact ⟨lo, hi, rfl, rfl, ⟨Nat.le_refl _, HLH.out.1, Nat.le_refl _, .inl rfl, .inl rfl⟩, HR.out, Below.refl _ _⟩
    case round =>
      obtain ⟨s, r, rfl, rfl, HF, HW, HB⟩ := hrel
      have HSR := Lib.hid (show lo ≤ s ∧ s ≤ r ∧ r ≤ hi ∧ r ≤ N ∧ N ≤ 100000 by have h := HF.out; unfold Fnd at h; have := HLH.out; have := HZ.out; omega)
      by_cases hlt : s < r
      · have HH := Lib.hid (half_lt hlt)
        have t1 : (s : Int) + r < 600000 := by have := HSR.out; omega
        obtain ⟨h, hh⟩ : ∃ h, h = (s + r) / 2 := ⟨_, rfl⟩
        obtain ⟨q, hq⟩ : ∃ q, q = n - 1 - h := ⟨_, rfl⟩
        rw [← hh] at HH
        have HCN := Lib.hid (show h < b ∧ q < b ∧ (p : Int) - h = q ∧ h < N ∧ q < N by
          have g := HNUM.out
          unfold Num at g
          have := HZ.out
          have := HSR.out
          have := HH.out
          have := HPP.out
          omega)
        have t2 : ((s : Int) + r) / 2 = h := by omega
        have t3 : (0 : Int) ≤ (h : Int) := by omega
        have t4 : (h : Int) < (N : Int) := by have := HCN.out; omega
        have t5 : (0 : Int) ≤ (q : Int) := by omega
        have t6 : (q : Int) < (N : Int) := by have := HCN.out; omega
        have t7 : h < 300000 := by have := HCN.out; have := HZ.out; omega
        have t8 := HCN.out.2.2.1
        have t9 := wrap_small (a := q) (by have := HCN.out; have := HZ.out; omega)
        have hhl : h < l.length := by have := HCN.out; have := HZ.out; omega
        have hql : q < l.length := by have := HCN.out; have := HZ.out; omega
        obtain ⟨⟨c0, c1, c2, c3⟩, _⟩ := Row.at HW.out hql
        obtain ⟨⟨d0, d1, d2, d3⟩, _⟩ := Row.at HW.out hhl
        have HT : Hid (ltV l[q] l[h] = true → Fnd lo hi n s h l) := Lib.hid (by
          subst hq
          exact fun e => HF.out.left HH.out.1 HH.out.2 hql hhl e)
        have HG : Hid (ltV l[q] l[h] = false → Fnd lo hi n (h + 1) r l) := Lib.hid (by
          subst hq
          exact fun e => HF.out.right HH.out.1 HH.out.2 hql hhl e)
        have HC' := Lib.hid (HC.out l[q] l[h])
        clear hh hq
        generalize l[q] = y at *
        generalize l[h] = x at *
        cases hx : ltV y x with
        | true =>
          as_aux_lemma =>
            have hz := ord_neg hx
            rw [hx] at HT HG
            clear hx
            generalize ordV y x = z at *
            have hz2 : decide (z < 0) = true := decide_eq_true hz
            have hz3 : (!decide (z < 0)) = false := by rw [hz2]; rfl
            obtain ⟨y1, y2, y3, y4⟩ := y
            obtain ⟨x1, x2, x3, x4⟩ := x
            simp only at c0 c1 c2 c3 d0 d1 d2 d3
            go_wp2_with fail
            go_region_held3 (fun w' => w'.cell? ⟨g, q * 4, none⟩ = some (.int .u64 y1) ∧ w'.cell? ⟨g, q * 4 + 1, none⟩ = some (.int .u64 y2) ∧ w'.cell? ⟨g, q * 4 + 2, none⟩ = some (.int .u64 y3) ∧ w'.cell? ⟨g, q * 4 + 3, none⟩ = some (.int .i64 y4) ∧ w'.cell? ⟨g, h * 4, none⟩ = some (.int .u64 x1) ∧ w'.cell? ⟨g, h * 4 + 1, none⟩ = some (.int .u64 x2) ∧ w'.cell? ⟨g, h * 4 + 2, none⟩ = some (.int .u64 x3) ∧ w'.cell? ⟨g, h * 4 + 3, none⟩ = some (.int .i64 x4))
              (first | go_keep | (go_split_ands; exact ⟨Bx.keep_cell (by assumption) (by assumption), Bx.keep_cell (by assumption) (by assumption), Bx.keep_cell (by assumption) (by assumption), Bx.keep_cell (by assumption) (by assumption), Bx.keep_cell (by assumption) (by assumption), Bx.keep_cell (by assumption) (by assumption), Bx.keep_cell (by assumption) (by assumption), Bx.keep_cell (by assumption) (by assumption)⟩))
              (first | (go_at_call 19; with_reducible refine (HC'.out _).mono ?_; rintro e w1 ⟨rfl, hb1⟩))
            have R2 := Lib.hid (Bx.Fre.keep HW.out ((Below.refl _ _).drew.trans hb1))
            have B2 := Lib.hid (HB.out.trans ((Below.refl g wr).drew.trans (hb1.mono (Row.lt HW.out))))
            clear hb1 c0 c1 c2 c3 d0 d1 d2 d3
            go_wp2
            go_roundw
            case rel => exact ⟨s, h, rfl, rfl, HT.out (by trivial), R2.out, B2.out⟩
            case measure => have := HH.out; simp [intOf]; omega
        | false =>
          as_aux_lemma =>
            have hz := ord_not hx
            rw [hx] at HT HG
            clear hx
            generalize ordV y x = z at *
            have hz2 : decide (z < 0) = false := decide_eq_false hz
            have hz3 : (!decide (z < 0)) = true := by rw [hz2]; rfl
            obtain ⟨y1, y2, y3, y4⟩ := y
            obtain ⟨x1, x2, x3, x4⟩ := x
            simp only at c0 c1 c2 c3 d0 d1 d2 d3
            go_wp2_with fail
            go_region_held3 (fun w' => w'.cell? ⟨g, q * 4, none⟩ = some (.int .u64 y1) ∧ w'.cell? ⟨g, q * 4 + 1, none⟩ = some (.int .u64 y2) ∧ w'.cell? ⟨g, q * 4 + 2, none⟩ = some (.int .u64 y3) ∧ w'.cell? ⟨g, q * 4 + 3, none⟩ = some (.int .i64 y4) ∧ w'.cell? ⟨g, h * 4, none⟩ = some (.int .u64 x1) ∧ w'.cell? ⟨g, h * 4 + 1, none⟩ = some (.int .u64 x2) ∧ w'.cell? ⟨g, h * 4 + 2, none⟩ = some (.int .u64 x3) ∧ w'.cell? ⟨g, h * 4 + 3, none⟩ = some (.int .i64 x4))
              (first | go_keep | (go_split_ands; exact ⟨Bx.keep_cell (by assumption) (by assumption), Bx.keep_cell (by assumption) (by assumption), Bx.keep_cell (by assumption) (by assumption), Bx.keep_cell (by assumption) (by assumption), Bx.keep_cell (by assumption) (by assumption), Bx.keep_cell (by assumption) (by assumption), Bx.keep_cell (by assumption) (by assumption), Bx.keep_cell (by assumption) (by assumption)⟩))
              (first | (go_at_call 19; with_reducible refine (HC'.out _).mono ?_; rintro e w1 ⟨rfl, hb1⟩))
            have R2 := Lib.hid (Bx.Fre.keep HW.out ((Below.refl _ _).drew.trans hb1))
            have B2 := Lib.hid (HB.out.trans ((Below.refl g wr).drew.trans (hb1.mono (Row.lt HW.out))))
            clear hb1 c0 c1 c2 c3 d0 d1 d2 d3
            go_wp2
            go_roundw
            case rel => exact ⟨h + 1, r, by go_num, rfl, HG.out (by trivial), R2.out, B2.out⟩
            case measure => have := HH.out; simp [intOf]; omega
      · obtain rfl : r = s := by have := HSR.out; omega
        obtain ⟨e, he⟩ : ∃ e, e = n - r := ⟨_, rfl⟩
        have HCUT : Hid (Srt.Cut ltV a m b r e mid l) := Lib.hid (by
          have f := HF.out
          have hn : n = mid + m := HZ.out.2.2.2.2.1
          rw [hn] at f he
          rw [he]
          exact Fnd.cut HNUM.out HI1.out HI2.out f)
        have HE := Lib.hid (show a ≤ r ∧ r ≤ m ∧ m ≤ e ∧ e ≤ b ∧ r + e = mid + m ∧ r ≤ mid ∧ mid ≤ e by
          have h := HCUT.out
          have h1 := h.as
          have h2 := h.sm
          have h3 := h.me
          have h4 := h.eb
          have h5 := h.sum
          have g := HNUM.out
          unfold Num at g
          have := HSR.out
          omega)
        have t1 : (n : Int) - r = e := by have := HE.out; have := HZ.out; omega
        have t2 := wrap_small (a := e) (by have := HE.out; have := HZ.out; omega)
        clear he hlt
        go_upto_region 39 with (fail)
        go_cut [185] (fun s185 wx => wr = wx ∧ ∃ β : Bool, s185 = .bool β ∧ Hid (Gd β (r < m ∧ m < e)))
        case first =>
          as_aux_lemma =>
            by_cases h1 : r < m
            · by_cases h2 : m < e
              · have t3 : (r : Int) < m := by omega
                have t4 : (m : Int) < e := by omega
                have HI := Lib.hid (Gd.t (P := r < m ∧ m < e) ⟨h1, h2⟩)
                clear h1 h2
                go_wp2_with fail
                go_meet
                exact ⟨rfl, true, rfl, HI⟩
              · have t3 : (r : Int) < m := by omega
                have t4 : ¬ (m : Int) < e := by omega
                have HI := Lib.hid (Gd.f (P := r < m ∧ m < e) fun h => h2 h.2)
                clear h1 h2
                go_wp2_with fail
                go_meet
                exact ⟨rfl, false, rfl, HI⟩
            · have t3 : ¬ (r : Int) < m := by omega
              have HI := Lib.hid (Gd.f (P := r < m ∧ m < e) fun h => h1 h.1)
              clear h1
              go_wp2_with fail
              go_meet
              exact ⟨rfl, false, rfl, HI⟩
        case rest =>
          obtain ⟨rfl, β, rfl, Hβ⟩ := hcut
          go_upto_if 185 with (fail)
          go_cut [191] (fun _ wx => ∃ wp, wp = wx ∧ ∃ l1, Srt.Mv (Srt.rotS r m e) l l1 ∧ Row wp g l1 ∧ Below g w wp)
          case first =>
            as_aux_lemma =>
              cases β with
              | true =>
                as_aux_lemma =>
                  have h12 := Hβ.out.1 rfl
                  have HRC := Lib.hid (HRT.out l (by have := HZ.out; omega) g r m e c h12.1 h12.2 (by have := HE.out; have := HZ.out; omega) wr HW.out)
                  rw [HZ.out.2.2.2.2.2.2.2] at HRC
                  clear h12
                  go_wp2_with fail
                  refine HRC.out.mono ?_; rintro e' w1 ⟨rfl, l1, hm, hr, hb⟩
                  go_wp2_with fail
                  go_meet
                  exact ⟨_, rfl, l1, hm, hr, HB.out.trans hb⟩
              | false =>
                as_aux_lemma =>
                  have HID := Lib.hid (show ∀ k, k = Srt.rotS r m e k from fun k => by
                    have h := Hβ.out.2 rfl
                    rcases (show r = m ∨ e = m by have := HE.out; omega) with h | h
                    · rw [h]; exact (Srt.rot_none_left m e k).symm
                    · rw [h]; exact (Srt.rot_none_right r m k).symm)
                  go_wp2_with fail
                  go_meet
                  exact ⟨_, rfl, l, (Srt.Mv.id l).cong HID.out, HW.out, HB.out⟩
          case rest =>
            obtain ⟨wp, hwp, l1, hm, hr, hb⟩ := hcut
            subst hwp
            have HHV := Lib.hid (HCUT.out.turn tot (by have := HZ.out; omega) hm)
            have M1 := Lib.hid ((Srt.rot_moved HE.out.2.1 HE.out.2.2.1 hm).wide HE.out.1 HE.out.2.2.2.1)
            have R1 := Lib.hid hr
            have B1 := Lib.hid hb
            have L1 := Lib.hid (show l1.length = N by rw [hm.len]; exact HZ.out.2.2.2.2.2.2.2)
            clear hm hr hb
            go_upto_region 41 with (fail)
            go_cut [199] (fun s199 wz => wp = wz ∧ ∃ β : Bool, s199 = .bool β ∧ Hid (Gd β (a < r ∧ r < mid)))
            case first =>
              as_aux_lemma =>
                by_cases h1 : a < r
                · by_cases h2 : r < mid
                  · have t3 : (a : Int) < r := by omega
                    have t4 : (r : Int) < mid := by omega
                    have HI := Lib.hid (Gd.t (P := a < r ∧ r < mid) ⟨h1, h2⟩)
                    clear h1 h2
                    go_wp2_with fail
                    go_meet
                    exact ⟨rfl, true, rfl, HI⟩
                  · have t3 : (a : Int) < r := by omega
                    have t4 : ¬ (r : Int) < mid := by omega
                    have HI := Lib.hid (Gd.f (P := a < r ∧ r < mid) fun h => h2 h.2)
                    clear h1 h2
                    go_wp2_with fail
                    go_meet
                    exact ⟨rfl, false, rfl, HI⟩
                · have t3 : ¬ (a : Int) < r := by omega
                  have HI := Lib.hid (Gd.f (P := a < r ∧ r < mid) fun h => h1 h.1)
                  clear h1
                  go_wp2_with fail
                  go_meet
                  exact ⟨rfl, false, rfl, HI⟩
            case rest =>
              obtain ⟨rfl, γ, rfl, Hγ⟩ := hcut
              go_upto_if 199 with (fail)
              go_cut [205] (fun _ wy => ∃ wq, wq = wy ∧ ∃ l2, Srt.Moved a mid l1 l2 ∧ Srt.Inc ltV a mid l2 ∧ Row wq g l2 ∧ Below g w wq)
              case first =>
                as_aux_lemma =>
                  cases γ with
                  | true =>
                    as_aux_lemma =>
                      have h12 := Hγ.out.1 rfl
                      have HRC := Lib.hid (HIH.out l1 a r mid L1.out h12.1 h12.2 (by have := HE.out; have := HZ.out; omega) (by have := HE.out; have := HZ.out; omega) HHV.out.one HHV.out.two wp R1.out)
                      clear h12
                      go_wp2_with fail
                      refine HRC.out.mono ?_; rintro e' w1 ⟨rfl, l2, hm, hs, hr, hb⟩
                      go_wp2_with fail
                      go_meet
                      exact ⟨_, rfl, l2, hm, hs, hr, B1.out.trans hb⟩
                  | false =>
                    as_aux_lemma =>
                      have HHL := Lib.hid (half_left HHV.out ⟨HE.out.1, HE.out.2.2.2.2.2.1⟩ (Hγ.out.2 rfl))
                      go_wp2_with fail
                      go_meet
                      exact ⟨_, rfl, l1, Srt.Moved.refl _ _ _, HHL.out, R1.out, B1.out⟩
              case rest =>
                obtain ⟨wq, hwq, l2, hm, hs, hr, hb⟩ := hcut
                subst hwq
                have HTH := Lib.hid (Srt.Inc.moved HHV.out.three hm (.inr (Nat.le_refl _)))
                have HFO := Lib.hid (Srt.Inc.moved HHV.out.four hm (.inr HE.out.2.2.2.2.2.2))
                have HEND : Hid (∀ l3, Srt.Moved mid b l2 l3 → Srt.Inc ltV mid b l3 → Srt.Moved a b l l3 ∧ Srt.Inc ltV a b l3) := Lib.hid fun l3 h3 i3 =>
                  ⟨(M1.out.trans (hm.wide (Nat.le_refl _) (by have := HE.out; omega))).trans (h3.wide (by have := HE.out; omega) (Nat.le_refl _)), Srt.Halves.done HHV.out.cross hm hs h3 i3⟩
                have HRI : Hid (¬ (mid < e ∧ e < b) → Srt.Inc ltV mid b l2) := Lib.hid fun h => by
                  rcases (show e = mid ∨ e = b by have := HE.out; omega) with h | h
                  · rw [← h]; exact HFO.out
                  · rw [← h]; exact HTH.out
                have R2 := Lib.hid hr
                have B2 := Lib.hid hb
                have L2 := Lib.hid (show l2.length = N by rw [hm.len]; exact L1.out)
                clear hm hs hr hb
                by_cases h1 : mid < e
                · by_cases h2 : e < b
                  · have t3 : (mid : Int) < e := by omega
                    have t4 : (e : Int) < b := by omega
                    have HRC := Lib.hid (HIH.out l2 mid e b L2.out h1 h2 HZ.out.2.2.2.2.2.1 (by have := HE.out; have := HZ.out; omega) HTH.out HFO.out wq R2.out)
                    clear h1 h2
                    go_wp2_with fail
                    refine HRC.out.mono ?_; rintro e' w1 ⟨rfl, l3, hm, hs, hr, hb⟩
                    have HF : Hid (SrtG a b g l w (.returned (.tuple #[])) w1) := Lib.hid ⟨rfl, l3, (HEND.out l3 hm hs).1, (HEND.out l3 hm hs).2, hr, B2.out.trans hb⟩
                    clear hm hs hr hb
                    go_wp2
                    exact bodyPost_ret (v := .tuple #[]) (by simp [results, Tryd.results34, go_sem]) rfl HF.out
                  · have t3 : (mid : Int) < e := by omega
                    have t4 : ¬ (e : Int) < b := by omega
                    have HF : Hid (SrtG a b g l w (.returned (.tuple #[])) wq) := Lib.hid ⟨rfl, l2, (HEND.out l2 (Srt.Moved.refl _ _ _) (HRI.out (by omega))).1, (HEND.out l2 (Srt.Moved.refl _ _ _) (HRI.out (by omega))).2, R2.out, B2.out⟩
                    clear h1 h2
                    go_wp2
                    exact bodyPost_ret (v := .tuple #[]) (by simp [results, Tryd.results34, go_sem]) rfl HF.out
                · have t3 : ¬ (mid : Int) < e := by omega
                  have HF : Hid (SrtG a b g l w (.returned (.tuple #[])) wq) := Lib.hid ⟨rfl, l2, (HEND.out l2 (Srt.Moved.refl _ _ _) (HRI.out (by omega))).1, (HEND.out l2 (Srt.Moved.refl _ _ _) (HRI.out (by omega))).2, R2.out, B2.out⟩
                  clear h1
                  go_wp2
                  exact bodyPost_ret (v := .tuple #[]) (by simp [results, Tryd.results34, go_sem]) rfl HF.out

end Pre
end Go.Proofs.YtkggphonoihidaaDoor
