/-
  Whether a plan is right, as package member answers.
-/
import Derived.Test.YtmojegnflcokjaaDoorPkMemB
namespace Go.Proofs.YtmojegnflcokjaaDoor
open Go.RowKit
namespace Mem
open Oct Eth

theorem okN_first {l : List Vl} (h : 0 < l.length) : okN l 0 = rVl l[0] := by
  unfold okN
  rw [List.getElem?_eq_getElem h]
  simp

theorem okN_next {l : List Vl} {j : Nat} (h : j + 1 < l.length) : okN l (j + 1) = (rVl l[j + 1] && decide (l[j].v < l[j + 1].v)) := by
  unfold okN
  rw [List.getElem?_eq_getElem h]
  simp only
  rw [List.getElem?_eq_getElem (by omega)]

theorem okN_bad {l : List Vl} {k : Nat} (h : k < l.length) (hx : rVl l[k] = false) : okN l k = false := by
  cases k with
  | zero => rw [okN_first h, hx]
  | succ j => rw [okN_next h, hx, Bool.false_and]

theorem right_bad_vl {o k : Nat → Int} {l : List Vl} {j : Nat} (hj : j < l.length) (h : okN l j = false) : rightP o k l = false := by
  cases hr : rightP o k l with
  | false => rfl
  | true => rw [(right_all hr).1 j hj] at h; cases h

theorem right_bad_port {o k : Nat → Int} {l : List Vl} {i : Nat} (hi : i < 8) (h : portN o k i = false) : rightP o k l = false := by
  cases hr : rightP o k l with
  | false => rfl
  | true => rw [(right_all hr).2.1 i hi] at h; cases h

theorem right_long {o k : Nat → Int} {l : List Vl} (h : 64 < l.length) : rightP o k l = false := by
  cases hr : rightP o k l with
  | false => rfl
  | true => have := (right_all hr).2.2; omega

theorem right_of {o k : Nat → Int} {l : List Vl} (h64 : l.length ≤ 64) (h1 : ∀ j, j < l.length → okN l j = true) (h2 : ∀ i, i < 8 → portN o k i = true) : rightP o k l = true := by
  unfold rightP
  simp only [Bool.and_eq_true, decide_eq_true_eq, List.all_eq_true, List.mem_range]
  exact ⟨h64, h1, h2⟩

set_option maxRecDepth 100000 in
set_option maxHeartbeats 4000000 in
theorem right_any (o k : Nat → Int) (l : List Vl) (hl : l.length ≤ maxLen) (A : Option Addr) (c : Nat) (w : World) (hA : Vls w A l) :
    Calls Tryd.prog 18 #[pv o k A l.length c] w fun e w' => e = .returned (.bool (rightP o k l)) ∧ Below w.heap.size w w' := by
  have HA := Lib.hid (hA.below (Bx.box_below w (po o k A l.length c)))
  have K := Lib.hid (Bx.Blk.new w (pc o k A l.length c) 28)
  have bel := Lib.hid (Bx.box_below w (po o k A l.length c))
  have hl' : l.length ≤ 9223372036854775807 := hl
  clear hA
  by_cases hlen : 64 < l.length
  · have HR := Lib.hid (right_long (o := o) (k := k) hlen)
    go_enter Tryd.func18, Tryd.ntmps18
    go_wp2
    go_ret
    exact ⟨by rw [HR.out]; rfl, bel.out⟩
  have H64 := Lib.hid (show l.length ≤ 64 by omega)
  go_enter Tryd.func18, Tryd.ntmps18
  go_wp2
  generalize w.alloc (po o k A l.length c) = W0 at *
  go_loopw [3, 4, 13] (fun _ _ ix wr => ∃ i : Nat, i ≤ l.length ∧ ix = .int .i64 i ∧ Aside (∀ j, j < i → okN l j = true) ∧ Aside (Below W0.heap.size W0 wr)) (fun _ _ ix _ => l.length - (intOf ix).toNat)
  case atStart => exact ⟨0, Nat.zero_le _, rfl, fun j h => absurd h (Nat.not_lt_zero j), Below.refl _ _⟩
  case round =>
    obtain ⟨i, hi, rfl, HE, HB⟩ := hrel
    by_cases hlt : i < l.length
    · cases hx : rVl l[i] with
      | false =>
        have HRF := Lib.hid (right_bad_vl (o := o) (k := k) hlt (okN_bad hlt hx))
        obtain ⟨b, q, rfl, _, c0, c1, c2⟩ := (HA.out.below HB.out).at hlt
        have HVL := Lib.hid (fun w => rightVlan_any l[i] w)
        have t0 := ((K.out.keep HB.out).more (vo l[i])).at 16 rfl
        obtain ⟨d0, d1, d2⟩ := (Bx.Blk.new wr (vc l[i]) 80).all3
        have BX := Lib.hid (Bx.bel_box HB.out (vo l[i]))
        rw [hx] at HVL
        clear hx
        generalize l[i] = x at *
        obtain ⟨x1, x2, x3⟩ := x
        simp only at c0 c1 c2 d0 d1 d2
        go_wp2
        refine wp_region_noPanic ?_
        refine wp_region_held_drew (S := fun w' => w'.cell? ⟨wr.heap.size, 0, none⟩ = some (.int .i64 x1) ∧ w'.cell? ⟨wr.heap.size, 1, none⟩ = some (.int .i64 x2) ∧ w'.cell? ⟨wr.heap.size, 2, none⟩ = some (.int .i64 x3) ∧ w'.cell? ⟨w.heap.size, 16, none⟩ = some (.slice (some ⟨b, q, none⟩) l.length c)) (by kernel_rfl) (by exact ⟨d0, d1, d2, t0⟩) (fun hHeld => ?_)
        refine wpAnyH_take (i := 0) (oi := ?o0) (v := ?v0) ?hi0 (by kernel_rfl) (by kernel_rfl) (by kernel_rfl) (fun _ _ _ h => h) ?y0 (by assumption) ?r0
        case hi0 => (simp only [List.getElem?_toArray, List.getElem?_cons_zero]; rfl)
        case y0 => (refine Or.inl ⟨by rfl, ?_⟩; intro w' hSw; (try dsimp only at hSw); go_simp; (try with_reducible rfl))
        try simp only [Act.put, List.setIfInBounds_toArray, List.set_cons_zero, List.set_cons_succ]
        refine wpAnyH_ready (rs := [1]) (by kernel_rfl) (by simp) ?_
        refine AllReadyH.cons (o := ?o1) ?hi1 ?hst1 AllReadyH.nil
        case hi1 => (simp only [List.getElem?_toArray, List.getElem?_cons_succ, List.getElem?_cons_zero]; rfl)
        intro K hK
        go_simp
        (go_at_call 49; with_reducible refine (HVL.out _).mono ?_; rintro e w1 ⟨rfl, hb1⟩)
        go_wp2_with fail
        refine hK.out _ _ ⟨Bx.keep_cell hb1 hHeld.1, Bx.keep_cell hb1 hHeld.2.1, Bx.keep_cell hb1 hHeld.2.2.1, Bx.keep_cell hb1 hHeld.2.2.2⟩ (fun hNew => ?_)
        clear hHeld
        have hHeld := hNew
        clear hNew
        refine wpAnyH_take (i := 2) (oi := ?o2) (v := ?v2) ?hi2 (by kernel_rfl) (by kernel_rfl) (by kernel_rfl) (fun _ _ _ h => h) ?y2 (by assumption) ?r2
        case hi2 => (simp only [List.getElem?_toArray, List.getElem?_cons_succ, List.getElem?_cons_zero]; rfl)
        case y2 => (refine Or.inl ⟨by rfl, ?_⟩; intro w' hSw; (try dsimp only at hSw); go_simp; (try with_reducible rfl))
        try simp only [Act.put, List.setIfInBounds_toArray, List.set_cons_zero, List.set_cons_succ]
        refine wpAnyH_take (i := 3) (oi := ?o3) (v := ?v3) ?hi3 (by kernel_rfl) (by kernel_rfl) (by kernel_rfl) (fun _ _ _ h => h) ?y3 (by assumption) ?r3
        case hi3 => (simp only [List.getElem?_toArray, List.getElem?_cons_succ, List.getElem?_cons_zero]; rfl)
        case y3 => (refine Or.inl ⟨by rfl, ?_⟩; intro w' hSw; (try dsimp only at hSw); go_simp; (try with_reducible rfl))
        try simp only [Act.put, List.setIfInBounds_toArray, List.set_cons_zero, List.set_cons_succ]
        refine wpAnyH_take (i := 4) (oi := ?o4) (v := undef) ?hi4 (by kernel_rfl) (by kernel_rfl) (by kernel_rfl) (fun _ _ _ h => h) ?y4 (by assumption) ?r4
        case hi4 => (simp only [List.getElem?_toArray, List.getElem?_cons_succ, List.getElem?_cons_zero]; rfl)
        case y4 => exact Or.inr ⟨by rfl, rfl⟩
        try simp only [Act.put, List.setIfInBounds_toArray, List.set_cons_zero, List.set_cons_succ]
        refine wpAnyH_take (i := 5) (oi := ?o5) (v := undef) ?hi5 (by kernel_rfl) (by kernel_rfl) (by kernel_rfl) (fun _ _ _ h => h) ?y5 (by assumption) ?r5
        case hi5 => (simp only [List.getElem?_toArray, List.getElem?_cons_succ, List.getElem?_cons_zero]; rfl)
        case y5 => exact Or.inr ⟨by rfl, rfl⟩
        try simp only [Act.put, List.setIfInBounds_toArray, List.set_cons_zero, List.set_cons_succ]
        refine wpAnyH_take (i := 6) (oi := ?o6) (v := undef) ?hi6 (by kernel_rfl) (by kernel_rfl) (by kernel_rfl) (fun _ _ _ h => h) ?y6 (by assumption) ?r6
        case hi6 => (simp only [List.getElem?_toArray, List.getElem?_cons_succ, List.getElem?_cons_zero]; rfl)
        case y6 => exact Or.inr ⟨by rfl, rfl⟩
        try simp only [Act.put, List.setIfInBounds_toArray, List.set_cons_zero, List.set_cons_succ]
        refine wpAnyH_take (i := 7) (oi := ?o7) (v := undef) ?hi7 (by kernel_rfl) (by kernel_rfl) (by kernel_rfl) (fun _ _ _ h => h) ?y7 (by assumption) ?r7
        case hi7 => (simp only [List.getElem?_toArray, List.getElem?_cons_succ, List.getElem?_cons_zero]; rfl)
        case y7 => exact Or.inr ⟨by rfl, rfl⟩
        try simp only [Act.put, List.setIfInBounds_toArray, List.set_cons_zero, List.set_cons_succ]
        refine wpAnyH_take (i := 8) (oi := ?o8) (v := undef) ?hi8 (by kernel_rfl) (by kernel_rfl) (by kernel_rfl) (fun _ _ _ h => h) ?y8 (by assumption) ?r8
        case hi8 => (simp only [List.getElem?_toArray, List.getElem?_cons_succ, List.getElem?_cons_zero]; rfl)
        case y8 => exact Or.inr ⟨by rfl, rfl⟩
        try simp only [Act.put, List.setIfInBounds_toArray, List.set_cons_zero, List.set_cons_succ]
        refine wpAnyH_take (i := 9) (oi := ?o9) (v := undef) ?hi9 (by kernel_rfl) (by kernel_rfl) (by kernel_rfl) (fun _ _ _ h => h) ?y9 (by assumption) ?r9
        case hi9 => (simp only [List.getElem?_toArray, List.getElem?_cons_succ, List.getElem?_cons_zero]; rfl)
        case y9 => exact Or.inr ⟨by rfl, rfl⟩
        try simp only [Act.put, List.setIfInBounds_toArray, List.set_cons_zero, List.set_cons_succ]
        refine wpAnyH_take (i := 10) (oi := ?o10) (v := undef) ?hi10 (by kernel_rfl) (by kernel_rfl) (by kernel_rfl) (fun _ _ _ h => h) ?y10 (by assumption) ?r10
        case hi10 => (simp only [List.getElem?_toArray, List.getElem?_cons_succ, List.getElem?_cons_zero]; rfl)
        case y10 => exact Or.inr ⟨by rfl, rfl⟩
        try simp only [Act.put, List.setIfInBounds_toArray, List.set_cons_zero, List.set_cons_succ]
        refine wpAnyH_take (i := 11) (oi := ?o11) (v := undef) ?hi11 (by kernel_rfl) (by kernel_rfl) (by kernel_rfl) (fun _ _ _ h => h) ?y11 (by assumption) ?r11
        case hi11 => (simp only [List.getElem?_toArray, List.getElem?_cons_succ, List.getElem?_cons_zero]; rfl)
        case y11 => exact Or.inr ⟨by rfl, rfl⟩
        try simp only [Act.put, List.setIfInBounds_toArray, List.set_cons_zero, List.set_cons_succ]
        refine wpAnyH_take (i := 12) (oi := ?o12) (v := undef) ?hi12 (by kernel_rfl) (by kernel_rfl) (by kernel_rfl) (fun _ _ _ h => h) ?y12 (by assumption) ?r12
        case hi12 => (simp only [List.getElem?_toArray, List.getElem?_cons_succ, List.getElem?_cons_zero]; rfl)
        case y12 => exact Or.inr ⟨by rfl, rfl⟩
        try simp only [Act.put, List.setIfInBounds_toArray, List.set_cons_zero, List.set_cons_succ]
        refine wpAnyH_take (i := 13) (oi := ?o13) (v := undef) ?hi13 (by kernel_rfl) (by kernel_rfl) (by kernel_rfl) (fun _ _ _ h => h) ?y13 (by assumption) ?r13
        case hi13 => (simp only [List.getElem?_toArray, List.getElem?_cons_succ, List.getElem?_cons_zero]; rfl)
        case y13 => exact Or.inr ⟨by rfl, rfl⟩
        try simp only [Act.put, List.setIfInBounds_toArray, List.set_cons_zero, List.set_cons_succ]
        refine wpAnyH_take (i := 14) (oi := ?o14) (v := undef) ?hi14 (by kernel_rfl) (by kernel_rfl) (by kernel_rfl) (fun _ _ _ h => h) ?y14 (by assumption) ?r14
        case hi14 => (simp only [List.getElem?_toArray, List.getElem?_cons_succ, List.getElem?_cons_zero]; rfl)
        case y14 => exact Or.inr ⟨by rfl, rfl⟩
        try simp only [Act.put, List.setIfInBounds_toArray, List.set_cons_zero, List.set_cons_succ]
        refine wpAnyH_take (i := 15) (oi := ?o15) (v := undef) ?hi15 (by kernel_rfl) (by kernel_rfl) (by kernel_rfl) (fun _ _ _ h => h) ?y15 (by assumption) ?r15
        case hi15 => (simp only [List.getElem?_toArray, List.getElem?_cons_succ, List.getElem?_cons_zero]; rfl)
        case y15 => exact Or.inr ⟨by rfl, rfl⟩
        try simp only [Act.put, List.setIfInBounds_toArray, List.set_cons_zero, List.set_cons_succ]
        refine wpAnyH_take (i := 16) (oi := ?o16) (v := undef) ?hi16 (by kernel_rfl) (by kernel_rfl) (by kernel_rfl) (fun _ _ _ h => h) ?y16 (by assumption) ?r16
        case hi16 => (simp only [List.getElem?_toArray, List.getElem?_cons_succ, List.getElem?_cons_zero]; rfl)
        case y16 => exact Or.inr ⟨by rfl, rfl⟩
        try simp only [Act.put, List.setIfInBounds_toArray, List.set_cons_zero, List.set_cons_succ]
        refine wpAnyH_take (i := 17) (oi := ?o17) (v := undef) ?hi17 (by kernel_rfl) (by kernel_rfl) (by kernel_rfl) (fun _ _ _ h => h) ?y17 (by assumption) ?r17
        case hi17 => (simp only [List.getElem?_toArray, List.getElem?_cons_succ, List.getElem?_cons_zero]; rfl)
        case y17 => exact Or.inr ⟨by rfl, rfl⟩
        try simp only [Act.put, List.setIfInBounds_toArray, List.set_cons_zero, List.set_cons_succ]
        refine wpAnyH_take (i := 18) (oi := ?o18) (v := ?v18) ?hi18 (by kernel_rfl) (by kernel_rfl) (by kernel_rfl) (fun _ _ _ h => h) ?y18 (by assumption) ?r18
        case hi18 => (simp only [List.getElem?_toArray, List.getElem?_cons_succ, List.getElem?_cons_zero]; rfl)
        case y18 => (refine Or.inl ⟨by rfl, ?_⟩; intro w' hSw; (try dsimp only at hSw); go_simp; (try with_reducible rfl))
        try simp only [Act.put, List.setIfInBounds_toArray, List.set_cons_zero, List.set_cons_succ]
        refine wpAnyH_done (by kernel_rfl) ?_ _
        refine NoPanic.normal ?_
        have B2 := Lib.hid (Bx.then_below bel.out (Bx.bel_drew BX.out hb1))
        clear hb1
        go_wp2
        go_ret
        exact ⟨by rw [HRF.out]; rfl, B2.out⟩
      | true =>
        by_cases h0 : i = 0
        · subst h0
          have HE2 := Lib.hid (show ∀ j, j < 1 → okN l j = true from fun j hj => by
            obtain rfl : j = 0 := by omega
            rw [okN_first hlt, hx])
          obtain ⟨b, q, rfl, _, c0, c1, c2⟩ := (HA.out.below HB.out).at hlt
          have HVL := Lib.hid (fun w => rightVlan_any l[0] w)
          have t0 := ((K.out.keep HB.out).more (vo l[0])).at 16 rfl
          obtain ⟨d0, d1, d2⟩ := (Bx.Blk.new wr (vc l[0]) 80).all3
          have BX := Lib.hid (Bx.bel_box HB.out (vo l[0]))
          rw [hx] at HVL
          clear hx
          generalize l[0] = x at *
          obtain ⟨x1, x2, x3⟩ := x
          simp only [Nat.zero_mul, Nat.add_zero] at c0 c1 c2 d0 d1 d2
          go_wp2
          refine wp_region_noPanic ?_
          refine wp_region_held_drew (S := fun w' => w'.cell? ⟨wr.heap.size, 0, none⟩ = some (.int .i64 x1) ∧ w'.cell? ⟨wr.heap.size, 1, none⟩ = some (.int .i64 x2) ∧ w'.cell? ⟨wr.heap.size, 2, none⟩ = some (.int .i64 x3) ∧ w'.cell? ⟨w.heap.size, 16, none⟩ = some (.slice (some ⟨b, q, none⟩) l.length c)) (by kernel_rfl) (by exact ⟨d0, d1, d2, t0⟩) (fun hHeld => ?_)
          refine wpAnyH_take (i := 0) (oi := ?ob0) (v := ?vb0) ?hib0 (by kernel_rfl) (by kernel_rfl) (by kernel_rfl) (fun _ _ _ h => h) ?yb0 (by assumption) ?rb0
          case hib0 => (simp only [List.getElem?_toArray, List.getElem?_cons_zero]; rfl)
          case yb0 => (refine Or.inl ⟨by rfl, ?_⟩; intro w' hSw; (try dsimp only at hSw); go_simp; (try with_reducible rfl))
          try simp only [Act.put, List.setIfInBounds_toArray, List.set_cons_zero, List.set_cons_succ]
          refine wpAnyH_ready (rs := [1]) (by kernel_rfl) (by simp) ?_
          refine AllReadyH.cons (o := ?ob1) ?hib1 ?hstb1 AllReadyH.nil
          case hib1 => (simp only [List.getElem?_toArray, List.getElem?_cons_succ, List.getElem?_cons_zero]; rfl)
          intro K hK
          go_simp
          (go_at_call 49; with_reducible refine (HVL.out _).mono ?_; rintro e w1 ⟨rfl, hb1⟩)
          go_wp2_with fail
          refine hK.out _ _ ⟨Bx.keep_cell hb1 hHeld.1, Bx.keep_cell hb1 hHeld.2.1, Bx.keep_cell hb1 hHeld.2.2.1, Bx.keep_cell hb1 hHeld.2.2.2⟩ (fun hNew => ?_)
          clear hHeld
          have hHeld := hNew
          clear hNew
          refine wpAnyH_take (i := 2) (oi := ?ob2) (v := ?vb2) ?hib2 (by kernel_rfl) (by kernel_rfl) (by kernel_rfl) (fun _ _ _ h => h) ?yb2 (by assumption) ?rb2
          case hib2 => (simp only [List.getElem?_toArray, List.getElem?_cons_succ, List.getElem?_cons_zero]; rfl)
          case yb2 => (refine Or.inl ⟨by rfl, ?_⟩; intro w' hSw; (try dsimp only at hSw); go_simp; (try with_reducible rfl))
          try simp only [Act.put, List.setIfInBounds_toArray, List.set_cons_zero, List.set_cons_succ]
          refine wpAnyH_take (i := 3) (oi := ?ob3) (v := ?vb3) ?hib3 (by kernel_rfl) (by kernel_rfl) (by kernel_rfl) (fun _ _ _ h => h) ?yb3 (by assumption) ?rb3
          case hib3 => (simp only [List.getElem?_toArray, List.getElem?_cons_succ, List.getElem?_cons_zero]; rfl)
          case yb3 => (refine Or.inl ⟨by rfl, ?_⟩; intro w' hSw; (try dsimp only at hSw); go_simp; (try with_reducible rfl))
          try simp only [Act.put, List.setIfInBounds_toArray, List.set_cons_zero, List.set_cons_succ]
          refine wpAnyH_take (i := 4) (oi := ?ob4) (v := ?vb4) ?hib4 (by kernel_rfl) (by kernel_rfl) (by kernel_rfl) (fun _ _ _ h => h) ?yb4 (by assumption) ?rb4
          case hib4 => (simp only [List.getElem?_toArray, List.getElem?_cons_succ, List.getElem?_cons_zero]; rfl)
          case yb4 => (refine Or.inl ⟨by rfl, ?_⟩; intro w' hSw; (try dsimp only at hSw); go_simp; (try with_reducible rfl))
          try simp only [Act.put, List.setIfInBounds_toArray, List.set_cons_zero, List.set_cons_succ]
          refine wpAnyH_take (i := 5) (oi := ?ob5) (v := ?vb5) ?hib5 (by kernel_rfl) (by kernel_rfl) (by kernel_rfl) (fun _ _ _ h => h) ?yb5 (by assumption) ?rb5
          case hib5 => (simp only [List.getElem?_toArray, List.getElem?_cons_succ, List.getElem?_cons_zero]; rfl)
          case yb5 => (refine Or.inl ⟨by rfl, ?_⟩; intro w' hSw; (try dsimp only at hSw); go_simp; (try with_reducible rfl))
          try simp only [Act.put, List.setIfInBounds_toArray, List.set_cons_zero, List.set_cons_succ]
          refine wpAnyH_take (i := 6) (oi := ?ob6) (v := ?vb6) ?hib6 (by kernel_rfl) (by kernel_rfl) (by kernel_rfl) (fun _ _ _ h => h) ?yb6 (by assumption) ?rb6
          case hib6 => (simp only [List.getElem?_toArray, List.getElem?_cons_succ, List.getElem?_cons_zero]; rfl)
          case yb6 => (refine Or.inl ⟨by rfl, ?_⟩; intro w' hSw; (try dsimp only at hSw); go_simp; (try with_reducible rfl))
          try simp only [Act.put, List.setIfInBounds_toArray, List.set_cons_zero, List.set_cons_succ]
          refine wpAnyH_take (i := 7) (oi := ?ob7) (v := undef) ?hib7 (by kernel_rfl) (by kernel_rfl) (by kernel_rfl) (fun _ _ _ h => h) ?yb7 (by assumption) ?rb7
          case hib7 => (simp only [List.getElem?_toArray, List.getElem?_cons_succ, List.getElem?_cons_zero]; rfl)
          case yb7 => exact Or.inr ⟨by rfl, rfl⟩
          try simp only [Act.put, List.setIfInBounds_toArray, List.set_cons_zero, List.set_cons_succ]
          refine wpAnyH_take (i := 8) (oi := ?ob8) (v := undef) ?hib8 (by kernel_rfl) (by kernel_rfl) (by kernel_rfl) (fun _ _ _ h => h) ?yb8 (by assumption) ?rb8
          case hib8 => (simp only [List.getElem?_toArray, List.getElem?_cons_succ, List.getElem?_cons_zero]; rfl)
          case yb8 => exact Or.inr ⟨by rfl, rfl⟩
          try simp only [Act.put, List.setIfInBounds_toArray, List.set_cons_zero, List.set_cons_succ]
          refine wpAnyH_take (i := 9) (oi := ?ob9) (v := undef) ?hib9 (by kernel_rfl) (by kernel_rfl) (by kernel_rfl) (fun _ _ _ h => h) ?yb9 (by assumption) ?rb9
          case hib9 => (simp only [List.getElem?_toArray, List.getElem?_cons_succ, List.getElem?_cons_zero]; rfl)
          case yb9 => exact Or.inr ⟨by rfl, rfl⟩
          try simp only [Act.put, List.setIfInBounds_toArray, List.set_cons_zero, List.set_cons_succ]
          refine wpAnyH_take (i := 10) (oi := ?ob10) (v := undef) ?hib10 (by kernel_rfl) (by kernel_rfl) (by kernel_rfl) (fun _ _ _ h => h) ?yb10 (by assumption) ?rb10
          case hib10 => (simp only [List.getElem?_toArray, List.getElem?_cons_succ, List.getElem?_cons_zero]; rfl)
          case yb10 => exact Or.inr ⟨by rfl, rfl⟩
          try simp only [Act.put, List.setIfInBounds_toArray, List.set_cons_zero, List.set_cons_succ]
          refine wpAnyH_take (i := 11) (oi := ?ob11) (v := undef) ?hib11 (by kernel_rfl) (by kernel_rfl) (by kernel_rfl) (fun _ _ _ h => h) ?yb11 (by assumption) ?rb11
          case hib11 => (simp only [List.getElem?_toArray, List.getElem?_cons_succ, List.getElem?_cons_zero]; rfl)
          case yb11 => exact Or.inr ⟨by rfl, rfl⟩
          try simp only [Act.put, List.setIfInBounds_toArray, List.set_cons_zero, List.set_cons_succ]
          refine wpAnyH_take (i := 12) (oi := ?ob12) (v := undef) ?hib12 (by kernel_rfl) (by kernel_rfl) (by kernel_rfl) (fun _ _ _ h => h) ?yb12 (by assumption) ?rb12
          case hib12 => (simp only [List.getElem?_toArray, List.getElem?_cons_succ, List.getElem?_cons_zero]; rfl)
          case yb12 => exact Or.inr ⟨by rfl, rfl⟩
          try simp only [Act.put, List.setIfInBounds_toArray, List.set_cons_zero, List.set_cons_succ]
          refine wpAnyH_take (i := 13) (oi := ?ob13) (v := undef) ?hib13 (by kernel_rfl) (by kernel_rfl) (by kernel_rfl) (fun _ _ _ h => h) ?yb13 (by assumption) ?rb13
          case hib13 => (simp only [List.getElem?_toArray, List.getElem?_cons_succ, List.getElem?_cons_zero]; rfl)
          case yb13 => exact Or.inr ⟨by rfl, rfl⟩
          try simp only [Act.put, List.setIfInBounds_toArray, List.set_cons_zero, List.set_cons_succ]
          refine wpAnyH_take (i := 14) (oi := ?ob14) (v := undef) ?hib14 (by kernel_rfl) (by kernel_rfl) (by kernel_rfl) (fun _ _ _ h => h) ?yb14 (by assumption) ?rb14
          case hib14 => (simp only [List.getElem?_toArray, List.getElem?_cons_succ, List.getElem?_cons_zero]; rfl)
          case yb14 => exact Or.inr ⟨by rfl, rfl⟩
          try simp only [Act.put, List.setIfInBounds_toArray, List.set_cons_zero, List.set_cons_succ]
          refine wpAnyH_take (i := 15) (oi := ?ob15) (v := undef) ?hib15 (by kernel_rfl) (by kernel_rfl) (by kernel_rfl) (fun _ _ _ h => h) ?yb15 (by assumption) ?rb15
          case hib15 => (simp only [List.getElem?_toArray, List.getElem?_cons_succ, List.getElem?_cons_zero]; rfl)
          case yb15 => exact Or.inr ⟨by rfl, rfl⟩
          try simp only [Act.put, List.setIfInBounds_toArray, List.set_cons_zero, List.set_cons_succ]
          refine wpAnyH_take (i := 16) (oi := ?ob16) (v := undef) ?hib16 (by kernel_rfl) (by kernel_rfl) (by kernel_rfl) (fun _ _ _ h => h) ?yb16 (by assumption) ?rb16
          case hib16 => (simp only [List.getElem?_toArray, List.getElem?_cons_succ, List.getElem?_cons_zero]; rfl)
          case yb16 => exact Or.inr ⟨by rfl, rfl⟩
          try simp only [Act.put, List.setIfInBounds_toArray, List.set_cons_zero, List.set_cons_succ]
          refine wpAnyH_take (i := 17) (oi := ?ob17) (v := ?vb17) ?hib17 (by kernel_rfl) (by kernel_rfl) (by kernel_rfl) (fun _ _ _ h => h) ?yb17 (by assumption) ?rb17
          case hib17 => (simp only [List.getElem?_toArray, List.getElem?_cons_succ, List.getElem?_cons_zero]; rfl)
          case yb17 => (refine Or.inl ⟨by rfl, ?_⟩; intro w' hSw; (try dsimp only at hSw); go_simp; (try with_reducible rfl))
          try simp only [Act.put, List.setIfInBounds_toArray, List.set_cons_zero, List.set_cons_succ]
          refine wpAnyH_take (i := 18) (oi := ?ob18) (v := ?vb18) ?hib18 (by kernel_rfl) (by kernel_rfl) (by kernel_rfl) (fun _ _ _ h => h) ?yb18 (by assumption) ?rb18
          case hib18 => (simp only [List.getElem?_toArray, List.getElem?_cons_succ, List.getElem?_cons_zero]; rfl)
          case yb18 => (refine Or.inl ⟨by rfl, ?_⟩; intro w' hSw; (try dsimp only at hSw); go_simp; (try with_reducible rfl))
          try simp only [Act.put, List.setIfInBounds_toArray, List.set_cons_zero, List.set_cons_succ]
          refine wpAnyH_done (by kernel_rfl) ?_ _
          refine NoPanic.normal ?_
          have B2 := Lib.hid (Bx.bel_drew BX.out hb1)
          clear hb1
          go_wp2
          go_roundw
          case rel => exact ⟨1, by omega, by go_num, HE2.out, B2.out⟩
          case measure => simp [intOf]; omega
        · obtain ⟨j, hj⟩ : ∃ j, i = j + 1 := ⟨i - 1, by omega⟩
          have hjl : j < l.length := by omega
          have HOK : Hid (okN l i = decide (l[j].v < l[i].v)) := Lib.hid (by
            subst hj
            rw [okN_next hlt, hx, Bool.true_and])
          obtain ⟨b, q, rfl, _, c0, c1, c2⟩ := (HA.out.below HB.out).at hlt
          have HVL := Lib.hid (fun w => rightVlan_any l[i] w)
          have t0 := ((K.out.keep HB.out).more (vo l[i])).at 16 rfl
          obtain ⟨d0, d1, d2⟩ := (Bx.Blk.new wr (vc l[i]) 80).all3
          have BX := Lib.hid (Bx.bel_box HB.out (vo l[i]))
          obtain ⟨b', q', eb, _, e0, e1, e2⟩ := ((HA.out.below HB.out).below (Bx.box_below wr (vo l[i]))).at hjl
          injection eb with eb
          injection eb with eb1 eb2
          subst eb1 eb2
          rw [hx] at HVL
          clear hx
          have hj1 : IntKind.i64.wrap ((i : Int) - 1) = (j : Int) := by rw [IntKind.wrap_i64]; omega
          have hj4 : wrap64 ((i : Int) - 1) = (j : Int) := by unfold wrap64; omega
          have hj2 : (j : Int) < (l.length : Int) := by omega
          have hj3 : 0 < i := by omega
          have HRF := Lib.hid (fun h => right_bad_vl (o := o) (k := k) hlt h)
          have HNX := Lib.hid (show okN l i = true → ∀ j, j < i + 1 → okN l j = true from fun h j hj => by
            by_cases e : j = i
            · rw [e]; exact h
            · exact HE.out j (by omega))
          generalize okN l i = ok at *
          generalize l[i] = x at *
          generalize l[j] = y at *
          obtain ⟨x1, x2, x3⟩ := x
          obtain ⟨y1, y2, y3⟩ := y
          simp only at c0 c1 c2 d0 d1 d2 e0 e1 e2 HOK
          clear hj h0
          go_wp2
          go_region_held3 (fun w' => w'.cell? ⟨wr.heap.size, 0, none⟩ = some (.int .i64 x1) ∧ w'.cell? ⟨wr.heap.size, 1, none⟩ = some (.int .i64 x2) ∧ w'.cell? ⟨wr.heap.size, 2, none⟩ = some (.int .i64 x3) ∧ w'.cell? ⟨w.heap.size, 16, none⟩ = some (.slice (some ⟨b, q, none⟩) l.length c) ∧ w'.cell? ⟨b, q + j * 3, none⟩ = some (.int .i64 y1))
            (first | (go_split_ands; refine ⟨Bx.keep_cell hb1 ?_, Bx.keep_cell hb1 ?_, Bx.keep_cell hb1 ?_, Bx.keep_cell hb1 ?_, Bx.keep_cell hb1 ?_⟩ <;> with_reducible assumption) | (go_keep; done))
            (first | (go_at_call 49; with_reducible refine (HVL.out _).mono ?_; rintro e w1 ⟨rfl, hb1⟩))
          have B2 := Lib.hid (Bx.bel_drew BX.out hb1)
          have B3 := Lib.hid (Bx.then_below bel.out B2.out)
          clear hb1
          by_cases hv : y1 < x1
          · have hv2 : ¬ x1 ≤ y1 := by omega
            have HE2 := Lib.hid (HNX.out (by rw [HOK.out, decide_eq_true hv]))
            go_wp2
            go_roundw
            case rel => exact ⟨i + 1, by omega, by go_num, HE2.out, B2.out⟩
            case measure => simp [intOf]; omega
          · have hv2 : x1 ≤ y1 := by omega
            have HF := Lib.hid (HRF.out (by rw [HOK.out, decide_eq_false hv]))
            go_wp2
            go_ret
            exact ⟨by rw [HF.out]; rfl, B3.out⟩
    · obtain rfl : i = l.length := by omega
      have HP := Lib.hid (K.out.keep HB.out)
      have HW := Lib.hid (Bx.then_below bel.out HB.out)
      have HE1 := Lib.hid HE.out
      clear HE HB HA K bel
      go_wp2
      generalize wr = W1 at *
      go_loopw [5, 38] (fun _ ix wr => ∃ i : Nat, i ≤ 8 ∧ ix = .int .i64 i ∧ Aside (∀ j, j < i → portN o k j = true) ∧ Aside (Below W1.heap.size W1 wr)) (fun _ ix _ => 8 - (intOf ix).toNat)
      case atStart => exact ⟨0, Nat.zero_le _, rfl, fun j h => absurd h (Nat.not_lt_zero j), Below.refl _ _⟩
      case round =>
        obtain ⟨i, hi, rfl, HE, HB⟩ := hrel
        have HW2 := Lib.hid (Bx.then_below HW.out HB.out)
        by_cases hlt : i < 8
        · have HV := Lib.hid (fun w => rightVid_any (o i) w)
          have HT := Lib.hid (fun w => rightTake_any (k i) w)
          have p0 := (HP.out.keep HB.out).at i (pc_own o k A l.length c hlt)
          have p1 := (HP.out.keep HB.out).at (8 + i) (pc_take o k A l.length c hlt)
          have HOK : Hid (portN o k i = (rVid (o i) && rTake (k i))) := Lib.hid rfl
          have HRF := Lib.hid (fun h => right_bad_port (o := o) (k := k) (l := l) hlt h)
          have HNX := Lib.hid (show portN o k i = true → ∀ j, j < i + 1 → portN o k j = true from fun h j hj => by
            by_cases e : j = i
            · rw [e]; exact h
            · exact HE.out j (by omega))
          have hlt2 : (i : Int) < 8 := by omega
          have hin : ((i : Int)).toNat = i := by omega
          generalize portN o k i = ok at *
          generalize rVid (o i) = r1 at *
          generalize rTake (k i) = r2 at *
          generalize o i = oi at *
          generalize k i = ki at *
          cases r1 with
          | false =>
            have HF := Lib.hid (HRF.out (by rw [HOK.out]; rfl))
            go_wp2_with fail
            refine (HV.out _).mono ?_; rintro e w5 ⟨rfl, rfl⟩
            go_wp2
            go_ret
            exact ⟨by rw [HF.out]; rfl, HW2.out⟩
          | true =>
            cases r2 with
            | false =>
              have HF := Lib.hid (HRF.out (by rw [HOK.out]; rfl))
              go_wp2_with fail
              refine (HV.out _).mono ?_; rintro e w5 ⟨rfl, rfl⟩
              go_wp2_with fail
              refine (HT.out _).mono ?_; rintro e w6 ⟨rfl, rfl⟩
              go_wp2
              go_ret
              exact ⟨by rw [HF.out]; rfl, HW2.out⟩
            | true =>
              have HE2 := Lib.hid (HNX.out (by rw [HOK.out]; rfl))
              go_wp2_with fail
              refine (HV.out _).mono ?_; rintro e w5 ⟨rfl, rfl⟩
              go_wp2_with fail
              refine (HT.out _).mono ?_; rintro e w6 ⟨rfl, rfl⟩
              go_wp2
              go_roundw
              case rel => exact ⟨i + 1, by omega, by go_num, HE2.out, HB.out⟩
              case measure => simp [intOf]; omega
        · obtain rfl : i = 8 := by omega
          have HF := Lib.hid (right_of H64.out HE1.out HE.out)
          go_wp2
          go_ret
          exact ⟨by rw [HF.out]; rfl, HW2.out⟩

end Mem
end Go.Proofs.YtmojegnflcokjaaDoor
