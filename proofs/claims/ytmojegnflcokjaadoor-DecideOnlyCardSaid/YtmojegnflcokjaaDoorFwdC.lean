/-
  What the document's own Learn answers of a table whose entries stand in order: an error and the table as it was, or the address at its port alone.
-/
import Derived.Test.YtmojegnflcokjaaDoorPkFwdB
import Derived.Test.YtmojegnflcokjaaDoorTabInv
import Derived.Laws.AppendOwnNone
namespace Go.Proofs.YtmojegnflcokjaaDoor
open Go.RowKit
namespace Tab
open Oct

/-- The entries ahead of e; those behind it, of other keys. -/
def lowL (e : En) (l : List En) : List En := l.filter fun x => ahd x e
def highL (e : En) (l : List En) : List En := l.filter fun x => !ahd x e && !isK e.v e.m x

theorem ahd_other {x e : En} (h : ahd x e = true) : isK e.v e.m x = false := by
  rw [ahd_iff] at h
  cases c : isK e.v e.m x with
  | false => rfl
  | true => rw [isK_iff] at c; omega

theorem take_low (e : En) : ∀ l : List En, (l.Pairwise fun x y => ahd x y = true) → l.takeWhile (ahd · e) = l.filter (ahd · e) ∧ l.dropWhile (ahd · e) = l.filter (fun x => !ahd x e)
  | [], _ => ⟨rfl, rfl⟩
  | x :: l, h => by
    have ih := take_low e l (List.pairwise_cons.1 h).2
    rw [List.takeWhile_cons, List.dropWhile_cons, List.filter_cons, List.filter_cons]
    cases hx : ahd x e with
    | true =>
      rw [ih.1]
      exact ⟨rfl, ih.2⟩
    | false =>
      have hn := none_ahead h hx
      have h1 : l.filter (ahd · e) = [] := List.filter_eq_nil_iff.2 (fun y hy => by simp [hn y (List.mem_cons_of_mem _ hy)])
      have h2 : l.filter (fun x => !ahd x e) = l := List.filter_eq_self.2 (fun y hy => by simp [hn y (List.mem_cons_of_mem _ hy)])
      rw [h1, h2]
      exact ⟨rfl, rfl⟩

theorem parts_eq {l : List En} (h : l.Pairwise fun x y => ahd x y = true) (e : En) : insL (rest e.v e.m l) e = lowL e l ++ e :: highL e l := by
  have hs : (rest e.v e.m l).Pairwise fun x y => ahd x y = true := h.filter _
  rw [ins_eq hs, (take_low e _ hs).1, (take_low e _ hs).2]
  unfold rest lowL highL
  rw [List.filter_filter, List.filter_filter]
  congr 1
  exact List.filter_congr (fun x _ => by
    cases hx : ahd x e with
    | true => rw [ahd_other hx]; rfl
    | false => rfl)

theorem parts_len {l : List En} (h : l.Pairwise fun x y => ahd x y = true) (e : En) : (lowL e l).length + (highL e l).length = (rest e.v e.m l).length := by
  have := congrArg List.length (parts_eq h e)
  rw [ins_length, List.length_append, List.length_cons] at this
  omega

theorem low_take (e : En) (l : List En) (k : Nat) (h : k < l.length) : lowL e (l.take (k + 1)) = lowL e (l.take k) ++ if ahd l[k] e then [l[k]] else [] := filter_take l (fun x => ahd x e) k h
theorem high_take (e : En) (l : List En) (k : Nat) (h : k < l.length) : highL e (l.take (k + 1)) = highL e (l.take k) ++ if (!ahd l[k] e && !isK e.v e.m l[k]) then [l[k]] else [] := filter_take l (fun x => !ahd x e && !isK e.v e.m x) k h

/-- Two slices of the call's own that lie in no one row. -/
def Apt (v u : Value) : Prop := v.ownBlock = none ∨ v.ownBlock ≠ u.ownBlock

theorem Apt.swap {v u : Value} (h : Apt v u) : Apt u v := by
  unfold Apt at *
  rcases h with h | h
  · by_cases hu : u.ownBlock = none
    · exact .inl hu
    · exact .inr (by rw [h]; exact hu)
  · exact .inr (Ne.symm h)

theorem Apt.grown {v v' u : Value} {w : World} {base : Nat} {e : TypeId} {n : Nat} {xs : List Value} (h : Apt v u) {N : Nat} (hv : v'.ownBlock = v.ownBlock ∨ v'.ownBlock = some N) (hN : w.heap.size ≤ N) (hu : w.ownsRow base e 4 u n xs) : Apt v' u := by
  unfold Apt at *
  rcases hv with hv | hv
  · rw [hv]; exact h
  · refine .inr fun hc => ?_
    rw [hv] at hc
    have := (hu.lt N hc.symm).2
    omega

theorem row_or {w : World} {base : Nat} {e : TypeId} {B : Option Addr} {c : Nat} {l : List En} (h : w.ownsRow base e 4 (.slice B l.length c) l.length (l.flatMap enc)) : (Value.slice B l.length c = .slice none 0 0 ∧ l.length = 0) ∨ ∃ g cap, B = some ⟨g, 0, none⟩ ∧ c = cap := by
  rcases h.2 with h | ⟨g, cap, cur, h1, _⟩
  · exact .inl h
  · injection h1 with h1 _ h2
    exact .inr ⟨g, cap, h1, h2⟩

theorem own_join {w : World} {base : Nat} {e : TypeId} {v : Value} {l l2 : List En} {x : En} (h : w.ownsRow base e 4 v ((l ++ [x]).length + l2.length) ((l ++ [x]).flatMap enc ++ l2.flatMap enc)) : ∃ B c, v = .slice B (l ++ x :: l2).length c ∧ w.ownsRow base e 4 (.slice B (l ++ x :: l2).length c) (l ++ x :: l2).length ((l ++ x :: l2).flatMap enc) := by
  refine own_form (l := l ++ x :: l2) ?_
  have e1 : (l ++ x :: l2).length = (l ++ [x]).length + l2.length := by simp; omega
  have e2 : (l ++ x :: l2).flatMap enc = (l ++ [x]).flatMap enc ++ l2.flatMap enc := by simp
  rw [e1, e2]
  exact h

set_option maxRecDepth 40000 in
set_option maxHeartbeats 4000000 in
theorem rlearn_wrong (most long : Int) (l : List En) (A : Option Addr) (c : Nat) (v : Int) (m : Nat) (hm : m < 18446744073709551616) (p : Int) (w : World) (hA : Ents w A l)
    (hr : (rightV v && Mac.rightB m && !Mac.groupB m && rightP p) = false) :
    Calls Tryd.prog 43 #[tv most long A l.length c, .int .i64 v, .int .u64 m, .int .i64 p] w (GivesL A l most long l 1 w) := by
  have HR := Lib.hid (Mac.rright_any m)
  have HG := Lib.hid (Mac.rgroup_any m hm)
  have bel := Lib.hid (Bx.bel_box (Bx.box_below w (to most long A l.length c)) (to 0 0 none 0 0))
  have K := Lib.hid ((Fre.new w [.int .i64 most, .int .i64 long, .slice A l.length c] 24).keep (Bx.box_below _ (to 0 0 none 0 0)))
  have R : Hid (Fre ((w.alloc (to most long A l.length c)).alloc (to 0 0 none 0 0)) (w.heap.size + 1) [.int .i64 0, .int .i64 0, .slice none 0 0]) := Lib.hid (by
    have := Fre.new (w.alloc (to most long A l.length c)) [.int .i64 0, .int .i64 0, .slice none 0 0] 24
    rwa [show (w.alloc (to most long A l.length c)).heap.size = w.heap.size + 1 by simp] at this)
  obtain ⟨⟨k0, k1, k2⟩, _⟩ := K.out.all3
  obtain ⟨⟨r0, r1, r2⟩, f0, f1, f2⟩ := R.out.all3
  have HB4 := Lib.hid (Bx.bel_box (Bx.box_below w (to most long A l.length c)) (to most long A l.length c))
  have R5 := (Lib.hid (Bx.Blk.new_at (W := w.alloc (to most long A l.length c)) (k := w.heap.size + 1) [.int .i64 most, .int .i64 long, .slice A l.length c] 24 (by simp)).all3)
  have HE := Lib.hid (hA.below HB4.out)
  clear hA K bel R
  by_cases h1 : v < 1
  · go_enter Tryd.func43, Tryd.ntmps43
    go_wp2_with fail
    refine bodyPost_ret (v := .tuple #[tv most long A l.length c, .int .i64 1]) ?_ rfl ?_
    · obtain ⟨d0, d1, d2⟩ := R5.out
      simp [results, Tryd.results43, d0, d1, d2, go_sem]
    · exact ⟨A, c, rfl, .inl ⟨rfl, rfl⟩, HE.out, HB4.out⟩
  by_cases h2 : 4094 < v
  · go_enter Tryd.func43, Tryd.ntmps43
    go_wp2_with fail
    refine bodyPost_ret (v := .tuple #[tv most long A l.length c, .int .i64 1]) ?_ rfl ?_
    · obtain ⟨d0, d1, d2⟩ := R5.out
      simp [results, Tryd.results43, d0, d1, d2, go_sem]
    · exact ⟨A, c, rfl, .inl ⟨rfl, rfl⟩, HE.out, HB4.out⟩
  have hv : rightV v = true := by unfold rightV; exact decide_eq_true (by omega)
  rw [hv, Bool.true_and] at hr
  clear hv
  generalize Mac.rightB m = rr at *
  generalize Mac.groupB m = rg at *
  cases rr with
  | false =>
    go_enter Tryd.func43, Tryd.ntmps43
    go_wp2_with fail
    refine (HR.out _).mono ?_; rintro e w' ⟨rfl, rfl⟩
    go_wp2_with fail
    refine bodyPost_ret (v := .tuple #[tv most long A l.length c, .int .i64 1]) ?_ rfl ?_
    · obtain ⟨d0, d1, d2⟩ := R5.out
      simp [results, Tryd.results43, d0, d1, d2, go_sem]
    · exact ⟨A, c, rfl, .inl ⟨rfl, rfl⟩, HE.out, HB4.out⟩
  | true =>
    cases rg with
    | true =>
      go_enter Tryd.func43, Tryd.ntmps43
      go_wp2_with fail
      refine (HR.out _).mono ?_; rintro e w' ⟨rfl, rfl⟩
      go_wp2_with fail
      refine (HG.out _).mono ?_; rintro e w' ⟨rfl, rfl⟩
      go_wp2_with fail
      refine bodyPost_ret (v := .tuple #[tv most long A l.length c, .int .i64 1]) ?_ rfl ?_
      · obtain ⟨d0, d1, d2⟩ := R5.out
        simp [results, Tryd.results43, d0, d1, d2, go_sem]
      · exact ⟨A, c, rfl, .inl ⟨rfl, rfl⟩, HE.out, HB4.out⟩
    | false =>
      by_cases h3 : p < 0
      · go_enter Tryd.func43, Tryd.ntmps43
        go_wp2_with fail
        refine (HR.out _).mono ?_; rintro e w' ⟨rfl, rfl⟩
        go_wp2_with fail
        refine (HG.out _).mono ?_; rintro e w' ⟨rfl, rfl⟩
        go_wp2_with fail
        refine bodyPost_ret (v := .tuple #[tv most long A l.length c, .int .i64 1]) ?_ rfl ?_
        · obtain ⟨d0, d1, d2⟩ := R5.out
          simp [results, Tryd.results43, d0, d1, d2, go_sem]
        · exact ⟨A, c, rfl, .inl ⟨rfl, rfl⟩, HE.out, HB4.out⟩
      have h4 : 8 ≤ p := by
        unfold rightP at hr
        simp only [Bool.not_false, Bool.true_and, decide_eq_false_iff_not] at hr
        omega
      clear hr
      go_enter Tryd.func43, Tryd.ntmps43
      go_wp2_with fail
      refine (HR.out _).mono ?_; rintro e w' ⟨rfl, rfl⟩
      go_wp2_with fail
      refine (HG.out _).mono ?_; rintro e w' ⟨rfl, rfl⟩
      go_wp2_with fail
      refine bodyPost_ret (v := .tuple #[tv most long A l.length c, .int .i64 1]) ?_ rfl ?_
      · obtain ⟨d0, d1, d2⟩ := R5.out
        simp [results, Tryd.results43, d0, d1, d2, go_sem]
      · exact ⟨A, c, rfl, .inl ⟨rfl, rfl⟩, HE.out, HB4.out⟩

set_option maxRecDepth 100000 in
set_option maxHeartbeats 8000000 in
theorem rlearn_right (most long : Int) (l : List En) (hl : l.length ≤ 100000) (hsr : l.Pairwise fun x y => ahd x y = true) (A : Option Addr) (c : Nat) (v : Int) (m : Nat) (hm : m < 18446744073709551616) (p : Int) (w : World) (hA : Ents w A l)
    (hr : (rightV v && Mac.rightB m && !Mac.groupB m && rightP p) = true) :
    Calls Tryd.prog 43 #[tv most long A l.length c, .int .i64 v, .int .u64 m, .int .i64 p] w (GivesL A l most long (learnL most l v m p) (learnE most l v m p) w) := by
  have HR := Lib.hid (Mac.rright_any m)
  have HG := Lib.hid (Mac.rgroup_any m hm)
  obtain ⟨i0, hi, hz0, hz1, hz2⟩ := info_parts info_en
  have bel := Lib.hid (Bx.bel_box (Bx.box_below w (to most long A l.length c)) (to 0 0 none 0 0))
  have A1 := Lib.hid (hA.below bel.out)
  have K := Lib.hid ((Fre.new w [.int .i64 most, .int .i64 long, .slice A l.length c] 24).keep (Bx.box_below _ (to 0 0 none 0 0)))
  have R : Hid (Fre ((w.alloc (to most long A l.length c)).alloc (to 0 0 none 0 0)) (w.heap.size + 1) [.int .i64 0, .int .i64 0, .slice none 0 0]) := Lib.hid (by
    have := Fre.new (w.alloc (to most long A l.length c)) [.int .i64 0, .int .i64 0, .slice none 0 0] 24
    rwa [show (w.alloc (to most long A l.length c)).heap.size = w.heap.size + 1 by simp] at this)
  have hsz := Lib.hid (show ((w.alloc (to most long A l.length c)).alloc (to 0 0 none 0 0)).heap.size = w.heap.size + 2 by simp)
  have hle : w.heap.size ≤ w.heap.size + 1 := Nat.le_succ _
  obtain ⟨⟨k0, k1, k2⟩, _⟩ := K.out.all3
  have hr' := hr
  unfold rightV rightP at hr
  simp only [Bool.and_eq_true, Bool.not_eq_true', decide_eq_true_eq] at hr
  obtain ⟨⟨⟨⟨g1, g2⟩, g3⟩, g4⟩, g5, g6⟩ := hr
  rw [g3] at HR
  rw [g4] at HG
  have HL1 := Lib.hid (low_take ⟨v, m, p, 0⟩ l)
  have HL2 := Lib.hid (high_take ⟨v, m, p, 0⟩ l)
  have HAH := Lib.hid (fun x w => rahead_any x ⟨v, m, p, 0⟩ w)
  have HLN := Lib.hid (parts_len hsr ⟨v, m, p, 0⟩)
  have HPE := Lib.hid (parts_eq hsr ⟨v, m, p, 0⟩)
  have HT := Lib.hid (show l.take l.length = l from List.take_length)
  have HER := Lib.hid (show learnE most l v m p = if (rest v m l).length = l.length ∧ most ≤ (l.length : Int) then 8 else 0 by unfold learnE; rw [hr', if_pos rfl])
  have HLL := Lib.hid (show learnL most l v m p = if learnE most l v m p = 0 then insL (rest v m l) ⟨v, m, p, 0⟩ else l from rfl)
  have hrl := Lib.hid (show (rest v m l).length ≤ l.length from List.length_filter_le _ _)
  have HAL := Lib.hid (fun b' o' (e : A = some ⟨b', o', none⟩) (h : 0 < l.length) => show b' ≠ w.heap.size + 1 by
    obtain ⟨b, o, e2, hb, _⟩ := hA.at h
    rw [e] at e2
    cases e2
    omega)
  have K0 := K
  have R0 := R
  clear hA hr' g3 g4 hsr hm
  generalize learnL most l v m p = L at *
  generalize learnE most l v m p = E at *
  go_enter Tryd.func43, Tryd.ntmps43
  go_wp2_with fail
  refine (HR.out _).mono ?_; rintro e w' ⟨rfl, rfl⟩
  go_wp2_with fail
  refine (HG.out _).mono ?_; rintro e w' ⟨rfl, rfl⟩
  go_wp2
  clear k0 k1 k2
  generalize (w.alloc (to most long A l.length c)).alloc (to 0 0 none 0 0) = W0 at *
  go_loopw [10, 11, 13, 41] (fun lo hg _ ix wr => ∃ (k : Nat) (B1 : Option Addr) (c1 : Nat) (B2 : Option Addr) (c2 : Nat) (o1 o2 : List En), k ≤ l.length ∧ ix = .int .i64 k ∧ lo = .slice B1 o1.length c1 ∧ hg = .slice B2 o2.length c2 ∧ o1.length + o2.length ≤ k ∧ Aside (lowL ⟨v, m, p, 0⟩ (l.take k) = o1) ∧ Aside (highL ⟨v, m, p, 0⟩ (l.take k) = o2) ∧
    Aside (wr.ownsRow W0.heap.size 62 4 (.slice B1 o1.length c1) o1.length (o1.flatMap enc)) ∧ Aside (wr.ownsRow W0.heap.size 62 4 (.slice B2 o2.length c2) o2.length (o2.flatMap enc)) ∧ Aside (Apt (.slice B1 o1.length c1) (.slice B2 o2.length c2)) ∧ Aside (Below W0.heap.size W0 wr)) (fun _ _ _ ix _ => l.length - (intOf ix).toNat)
  case atStart => exact ⟨0, none, 0, none, 0, [], [], Nat.zero_le _, rfl, rfl, rfl, Nat.le_refl _, rfl, rfl, World.ownsRow_nil _ _ _ _, World.ownsRow_nil _ _ _ _, .inl rfl, Below.refl _ _⟩
  case round =>
    obtain ⟨k, B1, c1, B2, c2, o1, o2, hk, rfl, rfl, rfl, ho, HO1, HO2, HW1, HW2, HP, HB⟩ := hrel
    by_cases hlt : k < l.length
    · obtain ⟨b, q, rfl, _, c0, c1', c2', c3⟩ := (A1.out.below HB.out).at hlt
      have HN1 := Lib.hid (HL1.out k hlt)
      have HN2 := Lib.hid (HL2.out k hlt)
      rw [HO1.out] at HN1
      rw [HO2.out] at HN2
      have HH := Lib.hid (HAH.out l[k])
      have hkk : isK v m l[k] = true ↔ v = l[k].v ∧ m = l[k].m := isK_iff _ _ _
      generalize l[k] = x at *
      have BX := Lib.hid (Bx.bel_box HB.out (eo x))
      have HE := Lib.hid (Bx.Blk.new wr (enc x) 62)
      have HV1 := Lib.hid (HW1.out.alloc (eo x))
      have HV2 := Lib.hid (HW2.out.alloc (eo x))
      obtain ⟨d0, d1, d2, d3⟩ := HE.out.all4
      cases hx : ahd x ⟨v, m, p, 0⟩ with
      | true =>
        rw [hx] at HH HN1 HN2
        have HM1 : Hid (lowL ⟨v, m, p, 0⟩ (l.take (k + 1)) = o1 ++ [x]) := HN1
        have HM2 : Hid (highL ⟨v, m, p, 0⟩ (l.take (k + 1)) = o2) := Lib.hid (by rw [HN2.out]; simp)
        clear hx HN1 HN2 hkk
        obtain ⟨x1, x2, x3, x4⟩ := x
        simp only at c0 c1' c2' c3 d0 d1 d2 d3
        go_wp2_with fail
        refine (HH.out _).mono ?_; rintro e w1 ⟨rfl, hb1⟩
        clear d0 d1 d2 d3
        have BY := Lib.hid (Bx.then_below BX.out hb1)
        have HX1 := Lib.hid (own_below HV1.out hb1)
        have HX2 := Lib.hid (own_below HV2.out hb1)
        obtain ⟨d0, d1, d2, d3⟩ := (HE.out.keep hb1).all4
        clear hb1 HE HV1 HV2 BX c0 c1' c2' c3
        have hw1 := BY.out.size
        go_wp2_with (at_builtin; refine wpList_append_own_at _ rfl _ _ 22 rfl W0.heap.size 62 i0 (.agg #[.int .i64 0, .int .u64 0, .int .i64 0, .int .i64 0]) 4 32 Tryd.underlying22 hi hz0 hz1 hz2 rfl (by decide) _ _ _ rfl (HX1.out.alloc _) ⟨_, 0, none⟩ 1 1 (enc ⟨x1, x2, x3, x4⟩) rfl rfl ?c1 ?c2 ?c3 ?c4 ?c5 ?_)
        case c1 => first | exact four_new _ _ _ _ | exact fun j u hu => hu
        case c2 => intro u hu; exact enc_one [⟨x1, x2, x3, x4⟩] u (by simpa using hu)
        case c3 => unfold maxLen; omega
        case c4 => omega
        case c5 => first | omega | (simp; omega)
        intro v' w5 hown' hgrow _ hat
        have hrow := (HX1.out).lt
        have bel5 := (Bx.bel_box BY.out (eo ⟨x1, x2, x3, x4⟩)).grown hgrow (by simp; omega) (fun q hq => (hrow q hq).1)
        have HZ2 := Lib.hid ((HX2.out.alloc (eo ⟨x1, x2, x3, x4⟩)).kept hgrow HP.out.swap)
        have HP2 := Lib.hid (HP.out.grown hat (Nat.le_succ _) HX2.out)
        obtain ⟨B', c', rfl, hW'⟩ := own_next hown'
        have HW3 := Lib.hid hW'
        have HBL := Lib.hid bel5
        clear hown' hgrow hrow hW' bel5 hat
        go_wp2
        go_roundw
        case rel => exact ⟨k + 1, B', c', B2, c2, o1 ++ [(⟨x1, x2, x3, x4⟩ : En)], o2, by omega, by go_num, rfl, rfl, by simp; omega, HM1.out, HM2.out, HW3.out, HZ2.out, HP2.out, HBL.out⟩
        case measure => simp [intOf]; omega
      | false =>
        rw [hx] at HH HN1 HN2
        have HM1 : Hid (lowL ⟨v, m, p, 0⟩ (l.take (k + 1)) = o1) := Lib.hid (by rw [HN1.out]; simp)
        cases hy : isK v m x with
        | true =>
          have HM2 : Hid (highL ⟨v, m, p, 0⟩ (l.take (k + 1)) = o2) := Lib.hid (by rw [HN2.out]; simp [hy])
          have hkv := hkk.1 hy
          clear hx hy HN1 HN2 hkk
          obtain ⟨x1, x2, x3, x4⟩ := x
          obtain ⟨rfl, rfl⟩ := hkv
          simp only at c0 c1' c2' c3 d0 d1 d2 d3
          go_wp2_with fail
          refine (HH.out _).mono ?_; rintro e w1 ⟨rfl, hb1⟩
          clear d0 d1 d2 d3
          have BY := Lib.hid (Bx.then_below BX.out hb1)
          have HX1 := Lib.hid (own_below HV1.out hb1)
          have HX2 := Lib.hid (own_below HV2.out hb1)
          obtain ⟨d0, d1, d2, d3⟩ := (HE.out.keep hb1).all4
          clear hb1 HE HV1 HV2 BX c0 c1' c2' c3
          go_wp2
          go_roundw
          case rel => exact ⟨k + 1, B1, c1, B2, c2, o1, o2, by omega, by go_num, rfl, rfl, by omega, HM1.out, HM2.out, HX1.out, HX2.out, HP.out, BY.out⟩
          case measure => simp [intOf]; omega
        | false =>
          have HM2 : Hid (highL ⟨v, m, p, 0⟩ (l.take (k + 1)) = o2 ++ [x]) := Lib.hid (by rw [HN2.out]; simp [hy])
          have hkv : ¬ (v = x.v ∧ m = x.m) := by rw [← hkk, hy]; simp
          clear hx hy HN1 HN2 hkk
          obtain ⟨x1, x2, x3, x4⟩ := x
          simp only at c0 c1' c2' c3 d0 d1 d2 d3 hkv
          go_wp2_with fail
          refine (HH.out _).mono ?_; rintro e w1 ⟨rfl, hb1⟩
          clear d0 d1 d2 d3
          have BY := Lib.hid (Bx.then_below BX.out hb1)
          have HX1 := Lib.hid (own_below HV1.out hb1)
          have HX2 := Lib.hid (own_below HV2.out hb1)
          obtain ⟨d0, d1, d2, d3⟩ := (HE.out.keep hb1).all4
          clear hb1 HE HV1 HV2 BX c0 c1' c2' c3
          have hw1 := BY.out.size
          have hz : ((x1 == v) = false ∧ ¬ x1 = v) ∨ (x1 = v ∧ ((x2 : Int) == (m : Int)) = false ∧ ¬ x2 = m) := by
            by_cases e : x1 = v
            · refine .inr ⟨e, ?_, fun h => hkv ⟨e.symm, h.symm⟩⟩
              have : ¬ x2 = m := fun h => hkv ⟨e.symm, h.symm⟩
              simp; omega
            · exact .inl ⟨by simpa using e, e⟩
          clear hkv
          rcases hz with ⟨z1, z2⟩ | ⟨rfl, z1, z2⟩
          all_goals
            go_wp2_with (at_builtin; refine wpList_append_own_at _ rfl _ _ 22 rfl W0.heap.size 62 i0 (.agg #[.int .i64 0, .int .u64 0, .int .i64 0, .int .i64 0]) 4 32 Tryd.underlying22 hi hz0 hz1 hz2 rfl (by decide) _ _ _ rfl (HX2.out.alloc _) ⟨_, 0, none⟩ 1 1 (enc ⟨x1, x2, x3, x4⟩) rfl rfl ?c1 ?c2 ?c3 ?c4 ?c5 ?_)
            case c1 => first | exact four_new _ _ _ _ | exact fun j u hu => hu
            case c2 => intro u hu; exact enc_one [⟨x1, x2, x3, x4⟩] u (by simpa using hu)
            case c3 => unfold maxLen; omega
            case c4 => omega
            case c5 => first | omega | (simp; omega)
            intro v' w5 hown' hgrow _ hat
            have hrow := (HX2.out).lt
            have bel5 := (Bx.bel_box BY.out (eo ⟨x1, x2, x3, x4⟩)).grown hgrow (by simp; omega) (fun q hq => (hrow q hq).1)
            have HZ1 := Lib.hid ((HX1.out.alloc (eo ⟨x1, x2, x3, x4⟩)).kept hgrow HP.out)
            have HP2 := Lib.hid (HP.out.swap.grown hat (Nat.le_succ _) HX1.out).swap
            obtain ⟨B', c', rfl, hW'⟩ := own_next hown'
            have HW3 := Lib.hid hW'
            have HBL := Lib.hid bel5
            clear hown' hgrow hrow hW' bel5 hat
            go_wp2
            go_roundw
            case rel => exact ⟨k + 1, B1, c1, B', c', o1, o2 ++ [(⟨x1, x2, x3, x4⟩ : En)], by omega, by go_num, rfl, rfl, by simp; omega, HM1.out, HM2.out, HZ1.out, HW3.out, HP2.out, HBL.out⟩
            case measure => simp [intOf]; omega
    · obtain rfl : k = l.length := by omega
      rw [HT.out] at HO1 HO2
      have HS := Lib.hid (show o1.length + o2.length = (rest v m l).length by rw [← HO1.out, ← HO2.out]; exact HLN.out)
      have HI := Lib.hid (show insL (rest v m l) ⟨v, m, p, 0⟩ = o1 ++ ⟨v, m, p, 0⟩ :: o2 by rw [← HO1.out, ← HO2.out]; exact HPE.out)
      have K1 := Lib.hid (K.out.keep HB.out)
      have R1 := Lib.hid (R.out.keep HB.out)
      have HEN := Lib.hid (A1.out.below HB.out)
      have hrl' := hrl.out
      rw [← HS.out] at hrl'
      have HER2 := Lib.hid (show E = if o1.length + o2.length = l.length ∧ most ≤ (l.length : Int) then 8 else 0 by rw [HER.out, HS.out])
      clear HLN HPE HER HS HO1 HO2 HL1 HL2 HAH HR HG K R A1
      by_cases hf : o1.length + o2.length = l.length ∧ most ≤ (l.length : Int)
      · have HE8 := Lib.hid (show E = 8 by rw [HER2.out, if_pos hf])
        have HLl := Lib.hid (show L = l by rw [HLL.out, if_neg (by rw [HE8.out]; decide)])
        clear HER2 HLL HI
        obtain ⟨hf1, hf2⟩ := hf
        obtain ⟨⟨k0, k1, k2⟩, _⟩ := K1.out.all3
        obtain ⟨⟨r0, r1, r2⟩, f0, f1, f2⟩ := R1.out.all3
        have hsum : (o1.length : Int) + (o2.length : Int) = (l.length : Int) := by omega
        have HB4 := Lib.hid ((((Bx.then_below bel.out HB.out).setCell (p := ⟨w.heap.size + 1, 0, none⟩) hle (.int .i64 most)).setCell (p := ⟨w.heap.size + 1, 1, none⟩) hle (.int .i64 long)).setCell (p := ⟨w.heap.size + 1, 2, none⟩) hle (.slice A l.length c))
        have R5 := Lib.hid (R1.out.1.put3 (x0 := .int .i64 most) (x1 := .int .i64 long) (x2 := .slice A l.length c)).all3
        have HZE := Lib.hid (show Ents (((wr.setCell ⟨w.heap.size + 1, 0, none⟩ (.int .i64 most)).setCell ⟨w.heap.size + 1, 1, none⟩ (.int .i64 long)).setCell ⟨w.heap.size + 1, 2, none⟩ (.slice A l.length c)) A l from by
          have hx : ∀ b' o', A = some ⟨b', o', none⟩ → 0 < l.length → b' ≠ w.heap.size + 1 := HAL.out
          by_cases h0 : 0 < l.length
          · exact ((HEN.out.set (fun b' o' e => hx b' o' e h0)).set (fun b' o' e => hx b' o' e h0)).set (fun b' o' e => hx b' o' e h0)
          · have : l = [] := List.eq_nil_of_length_eq_zero (by omega)
            rw [this]
            exact Ents.nil _ _)
        clear HB K1 R1 HEN HW1 HW2
        go_wp2_with fail
        refine bodyPost_ret (v := .tuple #[tv most long A l.length c, .int .i64 8]) ?_ rfl ?_
        · obtain ⟨d0, d1, d2⟩ := R5.out
          simp [results, Tryd.results43, d0, d1, d2, go_sem]
        · exact ⟨A, c, by rw [HE8.out, HLl.out], .inl ⟨rfl, HLl.out⟩, by rw [HLl.out]; exact HZE.out, HB4.out⟩
      · have HE0 := Lib.hid (show E = 0 by rw [HER2.out, if_neg hf])
        have HLi := Lib.hid (show L = o1 ++ ⟨v, m, p, 0⟩ :: o2 by rw [HLL.out, if_pos HE0.out, HI.out])
        clear HER2 HLL HI
        obtain ⟨⟨k0, k1, k2⟩, _⟩ := K1.out.all3
        have hz : (¬ (o1.length : Int) + (o2.length : Int) = (l.length : Int) ∧ (((o1.length : Int) + (o2.length : Int) == (l.length : Int)) = false)) ∨ ((o1.length : Int) + (o2.length : Int) = (l.length : Int) ∧ ¬ most ≤ (l.length : Int)) := by
          by_cases e : o1.length + o2.length = l.length
          · exact .inr ⟨by omega, fun h => hf ⟨e, h⟩⟩
          · refine .inl ⟨by omega, ?_⟩
            have : ¬ (o1.length : Int) + (o2.length : Int) = (l.length : Int) := by omega
            simpa using this
        clear hf
        have HR1 := Lib.hid (row_or HW2.out)
        rcases hz with ⟨z1, z2⟩ | ⟨z1, z2⟩
        all_goals
          have hw1 := HB.out.size
          go_wp2_with (at_builtin; refine wpList_append_own_at _ rfl _ _ 22 rfl W0.heap.size 62 i0 (.agg #[.int .i64 0, .int .u64 0, .int .i64 0, .int .i64 0]) 4 32 Tryd.underlying22 hi hz0 hz1 hz2 rfl (by decide) _ _ _ rfl (HW1.out.alloc _) ⟨_, 0, none⟩ 1 1 (enc ⟨v, m, p, 0⟩) rfl rfl ?c1 ?c2 ?c3 ?c4 ?c5 ?_)
          case c1 => first | exact four_new _ _ _ _ | exact fun j u hu => hu
          case c2 => intro u hu; exact enc_one [⟨v, m, p, 0⟩] u (by simpa using hu)
          case c3 => unfold maxLen; omega
          case c4 => omega
          case c5 => first | omega | (simp; omega)
          intro v' w5 hown' hgrow _ hat
          have hrow := (HW1.out).lt
          have bel5 := (Bx.bel_box HB.out (eo ⟨v, m, p, 0⟩)).grown hgrow (by simp; omega) (fun q hq => (hrow q hq).1)
          have HZ2 := Lib.hid ((HW2.out.alloc (eo ⟨v, m, p, 0⟩)).kept hgrow HP.out.swap)
          obtain ⟨B', c', hv', hW'⟩ := own_next hown'
          obtain ⟨o3, HO3⟩ : ∃ o3 : List En, Hid (o3 = o1 ++ [⟨v, m, p, 0⟩]) := ⟨_, Lib.hid rfl⟩
          rw [← HO3.out] at hv' hW'
          subst hv'
          have HL3 := Lib.hid (show o3.length = o1.length + 1 by rw [HO3.out]; simp)
          have HW3 := Lib.hid hW'
          have HBL := Lib.hid bel5
          clear hown' hgrow hrow hW' bel5 hat HP HW1 HW2 k0 k1 k2
          have K2 := Lib.hid (K0.out.keep HBL.out)
          have R2 := Lib.hid (R0.out.keep HBL.out)
          have nne : w.heap.size + 1 ≠ w.heap.size := by omega
          have hb0 : w.heap.size < W0.heap.size := by rw [hsz.out]; omega
          have hb1 : w.heap.size + 1 < W0.heap.size := by rw [hsz.out]; omega
          clear K1 R1 HB
          rcases HR1.out with ⟨hB2, hn2⟩ | ⟨g, cap, hB2, hn2⟩
          · injection hB2 with hB2 hn3 hc2
            have ho2 : o2 = [] := List.eq_nil_of_length_eq_zero hn2
            subst hB2 hc2 ho2
            have R5 := Lib.hid ((R2.out.1.other (o := 2) (x := .slice B' o3.length c') nne).put3 (x0 := .int .i64 most) (x1 := .int .i64 long) (x2 := .slice B' o3.length c')).all3
            obtain ⟨⟨r0, r1, r2⟩, s0, s1, s2⟩ := R2.out.all3
            obtain ⟨⟨k0, k1, k2⟩, f0, f1, f2⟩ := K2.out.all3
            have HB4 := Lib.hid (((((Bx.then_below bel.out HBL.out).setCell (p := ⟨w.heap.size, 2, none⟩) (Nat.le_refl _) (.slice B' o3.length c')).setCell (p := ⟨w.heap.size + 1, 0, none⟩) hle (.int .i64 most)).setCell (p := ⟨w.heap.size + 1, 1, none⟩) hle (.int .i64 long)).setCell (p := ⟨w.heap.size + 1, 2, none⟩) hle (.slice B' o3.length c'))
            have HW5 := Lib.hid (own_set (o := 2) (x := .slice B' o3.length c') (own_set (o := 1) (x := .int .i64 long) (own_set (o := 0) (x := .int .i64 most) (own_set (o := 2) (x := .slice B' o3.length c') HW3.out hb0) hb1) hb1) hb1)
            clear R2 K2 HBL
            go_wp2_with (at_builtin; refine wpList_append_own_none (w := w5) rfl _ _ 22 rfl W0.heap.size 62 i0 4 Tryd.underlying22 hi (.slice B' o3.length c') o3.length _ rfl HW3.out rfl ?_)
            refine bodyPost_ret (v := .tuple #[tv most long B' o3.length c', .int .i64 0]) ?_ rfl ?_
            · obtain ⟨d0, d1, d2⟩ := R5.out
              simp [results, Tryd.results43, d0, d1, d2, go_sem]
            · exact ⟨B', c', by rw [HE0.out, HLi.out, HO3.out], .inr (fun b o hb => by have := (HW5.out.lt b (by rw [hb]; rfl)).1; have := hsz.out; omega), by rw [HLi.out, ← HO3.out]; exact Ents.of_own3 HW5.out, HB4.out⟩
          · subst hB2 hn2
            have hcl := Lib.hid (HZ2.out.cells (g := g) rfl)
            have hbw := HBL.out.size
            go_wp2_with (at_builtin; refine wpList_append_own_at _ rfl _ _ 22 rfl W0.heap.size 62 i0 (.agg #[.int .i64 0, .int .u64 0, .int .i64 0, .int .i64 0]) 4 32 Tryd.underlying22 hi hz0 hz1 hz2 rfl (by decide) _ _ _ rfl HW3.out ⟨g, 0, none⟩ o2.length _ (o2.flatMap enc) rfl ?e0 ?e1 ?e2 ?e3 ?e4 ?e5 ?_)
            case e0 => exact HZ2.out.1
            case e1 => exact hcl.out
            case e2 => exact enc_one o2
            case e3 => have := HL3.out; unfold maxLen; omega
            case e4 => have := HL3.out; omega
            case e5 => omega
            intro v' w6 hown' hgrow _ hat
            have hrow := (HW3.out).lt
            have HBL2 := Lib.hid (HBL.out.grown hgrow (by omega) (fun q hq => (hrow q hq).1))
            rw [HO3.out] at hown'
            obtain ⟨B3, c3, hv3, hW'⟩ := own_join hown'
            obtain ⟨o4, HO4⟩ : ∃ o4 : List En, Hid (o4 = o1 ++ ⟨v, m, p, 0⟩ :: o2) := ⟨_, Lib.hid rfl⟩
            rw [← HO4.out] at hv3 hW'
            subst hv3
            have HW4 := Lib.hid hW'
            have K2 := Lib.hid (K0.out.keep HBL2.out)
            have R2 := Lib.hid (R0.out.keep HBL2.out)
            clear hown' hgrow hrow hat hW' HW3 HBL HZ2 hcl
            have R5 := Lib.hid ((R2.out.1.other (o := 2) (x := .slice B3 o4.length c3) nne).put3 (x0 := .int .i64 most) (x1 := .int .i64 long) (x2 := .slice B3 o4.length c3)).all3
            obtain ⟨⟨r0, r1, r2⟩, s0, s1, s2⟩ := R2.out.all3
            obtain ⟨⟨k0, k1, k2⟩, f0, f1, f2⟩ := K2.out.all3
            have HB4 := Lib.hid (((((Bx.then_below bel.out HBL2.out).setCell (p := ⟨w.heap.size, 2, none⟩) (Nat.le_refl _) (.slice B3 o4.length c3)).setCell (p := ⟨w.heap.size + 1, 0, none⟩) hle (.int .i64 most)).setCell (p := ⟨w.heap.size + 1, 1, none⟩) hle (.int .i64 long)).setCell (p := ⟨w.heap.size + 1, 2, none⟩) hle (.slice B3 o4.length c3))
            have HW5 := Lib.hid (own_set (o := 2) (x := .slice B3 o4.length c3) (own_set (o := 1) (x := .int .i64 long) (own_set (o := 0) (x := .int .i64 most) (own_set (o := 2) (x := .slice B3 o4.length c3) HW4.out hb0) hb1) hb1) hb1)
            clear R2 K2 HBL2 HW4
            go_wp2_with fail
            refine bodyPost_ret (v := .tuple #[tv most long B3 o4.length c3, .int .i64 0]) ?_ rfl ?_
            · obtain ⟨d0, d1, d2⟩ := R5.out
              simp [results, Tryd.results43, d0, d1, d2, go_sem]
            · exact ⟨B3, c3, by rw [HE0.out, HLi.out, HO4.out], .inr (fun b o hb => by have := (HW5.out.lt b (by rw [hb]; rfl)).1; have := hsz.out; omega), by rw [HLi.out, ← HO4.out]; exact Ents.of_own3 HW5.out, HB4.out⟩

/-- The document's own Learn, of a table whose entries stand in order. -/
theorem rlearn_any (most long : Int) (l : List En) (hl : l.length ≤ 100000) (hsr : l.Pairwise fun x y => ahd x y = true) (A : Option Addr) (c : Nat) (v : Int) (m : Nat) (hm : m < 18446744073709551616) (p : Int) (w : World) (hA : Ents w A l) :
    Calls Tryd.prog 43 #[tv most long A l.length c, .int .i64 v, .int .u64 m, .int .i64 p] w (GivesL A l most long (learnL most l v m p) (learnE most l v m p) w) := by
  cases hr : (rightV v && Mac.rightB m && !Mac.groupB m && rightP p) with
  | false =>
    have e1 : learnE most l v m p = 1 := by unfold learnE; rw [hr]; rfl
    rw [learn_err (by rw [e1]; decide), e1]
    exact rlearn_wrong most long l A c v m hm p w hA hr
  | true => exact rlearn_right most long l hl hsr A c v m hm p w hA hr

end Tab
end Go.Proofs.YtmojegnflcokjaaDoor
