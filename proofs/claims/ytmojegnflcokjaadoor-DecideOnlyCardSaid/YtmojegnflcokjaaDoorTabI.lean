/-
  What a right entry is (table.soundEntry), and table.Sound of any table.
-/
import Derived.Test.YtmojegnflcokjaaDoorPkTabG
namespace Go.Proofs.YtmojegnflcokjaaDoor
open Go.RowKit
namespace Tab
open Oct

set_option maxRecDepth 20000 in
theorem vid_any (x : Int) (w : World) : Calls Tryd.prog 71 #[.int .i64 x] w fun e w' => e = .returned (.bool (rightV x)) ∧ w = w' := by
  unfold rightV
  rcases (show x < 1 ∨ (¬ x < 1 ∧ 4094 < x) ∨ (1 ≤ x ∧ x ≤ 4094) by omega) with h1 | ⟨h1, h2⟩ | ⟨h1, h2⟩
  all_goals
    go_enter Tryd.func71, Tryd.ntmps71
    go_wp2
    go_ret
    exact ⟨ret_bool (by first | rfl | (rw [Bool.eq_iff_iff]; simp <;> omega)), rfl⟩

set_option maxRecDepth 20000 in
theorem port_any (x : Int) (w : World) : Calls Tryd.prog 73 #[.int .i64 x] w fun e w' => e = .returned (.bool (rightP x)) ∧ w = w' := by
  unfold rightP
  rcases (show x < 0 ∨ (¬ x < 0 ∧ 8 ≤ x) ∨ (0 ≤ x ∧ x < 8) by omega) with h1 | ⟨h1, h2⟩ | ⟨h1, h2⟩
  all_goals
    go_enter Tryd.func73, Tryd.ntmps73
    go_wp2
    go_ret
    exact ⟨ret_bool (by first | rfl | (rw [Bool.eq_iff_iff]; simp <;> omega)), rfl⟩

set_option maxRecDepth 20000 in
set_option maxHeartbeats 1000000 in
theorem entry_any (e : En) (he : e.m < 18446744073709551616) (long : Int) (w : World) : Calls Tryd.prog 59 #[ev e, .int .i64 long] w fun r w' => r = .returned (.bool (okE long e)) ∧ Below w.heap.size w w' := by
  obtain ⟨v, m, p, a⟩ := e
  have bel := Lib.hid (Bx.box_below w (eo ⟨v, m, p, a⟩))
  have HP := Lib.hid (port_any p)
  have HG := Lib.hid (Mac.group_any m he)
  have HV := Lib.hid (vid_any v)
  unfold okE
  simp only at he HP HG HV ⊢
  clear he
  generalize rightP p = rp at *
  generalize Mac.groupB m = rg at *
  generalize rightV v = rv at *
  by_cases h1 : 0 ≤ a
  · by_cases h2 : a < long
    · rw [decide_eq_true ⟨h1, h2⟩]
      cases rp with
      | true =>
        cases rg with
        | false =>
          cases rv with
          | true =>
            go_enter Tryd.func59, Tryd.ntmps59
            go_wp2_with fail
            refine (HP.out _).mono ?_; rintro e w' ⟨rfl, rfl⟩
            go_wp2_with fail
            refine (HG.out _).mono ?_; rintro e w' ⟨rfl, rfl⟩
            go_wp2_with fail
            refine (HV.out _).mono ?_; rintro e w' ⟨rfl, rfl⟩
            go_wp2
            go_ret
            exact ⟨rfl, bel.out⟩
          | false =>
            go_enter Tryd.func59, Tryd.ntmps59
            go_wp2_with fail
            refine (HP.out _).mono ?_; rintro e w' ⟨rfl, rfl⟩
            go_wp2_with fail
            refine (HG.out _).mono ?_; rintro e w' ⟨rfl, rfl⟩
            go_wp2_with fail
            refine (HV.out _).mono ?_; rintro e w' ⟨rfl, rfl⟩
            go_wp2
            go_ret
            exact ⟨rfl, bel.out⟩
        | true =>
          go_enter Tryd.func59, Tryd.ntmps59
          go_wp2_with fail
          refine (HP.out _).mono ?_; rintro e w' ⟨rfl, rfl⟩
          go_wp2_with fail
          refine (HG.out _).mono ?_; rintro e w' ⟨rfl, rfl⟩
          go_wp2
          go_ret
          exact ⟨rfl, bel.out⟩
      | false =>
        go_enter Tryd.func59, Tryd.ntmps59
        go_wp2_with fail
        refine (HP.out _).mono ?_; rintro e w' ⟨rfl, rfl⟩
        go_wp2
        go_ret
        exact ⟨rfl, bel.out⟩
    · rw [decide_eq_false (fun h => h2 h.2)]
      go_enter Tryd.func59, Tryd.ntmps59
      go_wp2
      go_ret
      exact ⟨rfl, bel.out⟩
  · rw [decide_eq_false (fun h => h1 h.1)]
    go_enter Tryd.func59, Tryd.ntmps59
    go_wp2
    go_ret
    exact ⟨rfl, bel.out⟩

def prevE (l : List En) (k : Nat) : Option En := if k = 0 then none else l[k - 1]?

theorem ch_first (long : Int) (l : List En) (h : 0 < l.length) : chB long (prevE l 0) (l.drop 0) = (okE long l[0] && chB long (prevE l 1) (l.drop 1)) := by
  cases l with
  | nil => simp at h
  | cons x l => rfl

theorem ch_next (long : Int) (l : List En) (j : Nat) (h : j + 1 < l.length) : chB long (prevE l (j + 1)) (l.drop (j + 1)) = (okE long l[j + 1] && ahd l[j] l[j + 1] && chB long (prevE l (j + 1 + 1)) (l.drop (j + 1 + 1))) := by
  have e1 : prevE l (j + 1) = some l[j] := by unfold prevE; rw [if_neg (by omega), Nat.add_sub_cancel, List.getElem?_eq_getElem (by omega)]
  have e2 : prevE l (j + 1 + 1) = some l[j + 1] := by unfold prevE; rw [if_neg (by omega), Nat.add_sub_cancel, List.getElem?_eq_getElem h]
  rw [e1, e2, List.drop_eq_getElem_cons h, chB]

set_option maxRecDepth 100000 in
set_option maxHeartbeats 4000000 in
theorem sound_any (most long : Int) (l : List En) (hl : l.length ≤ maxLen) (hm : ∀ e ∈ l, e.m < 18446744073709551616) (A : Option Addr) (c : Nat) (w : World) (hA : Ents w A l) :
    Calls Tryd.prog 23 #[tv most long A l.length c] w fun e w' => e = .returned (.bool (sndB most long l)) ∧ Below w.heap.size w w' := by
  have HA := Lib.hid (hA.below (Bx.box_below w (to most long A l.length c)))
  have K := Lib.hid (Bx.Blk.new w [.int .i64 most, .int .i64 long, .slice A l.length c] 24)
  have bel := Lib.hid (Bx.box_below w (to most long A l.length c))
  have HOK := Lib.hid (fun e (he : e ∈ l) w => entry_any e (hm e he) long w)
  have HF := Lib.hid (ch_first long l)
  have HN := Lib.hid (ch_next long l)
  have hl' : l.length ≤ 9223372036854775807 := hl
  clear hA hm
  by_cases hlen : (l.length : Int) ≤ most
  · have hs : sndB most long l = chB long (prevE l 0) (l.drop 0) := by unfold sndB; rw [decide_eq_true hlen, Bool.true_and]; rfl
    rw [hs]
    have HZ := Lib.hid (show chB long (prevE l l.length) (l.drop l.length) = true by rw [List.drop_length]; unfold chB; rfl)
    clear hs
    obtain ⟨R, HR⟩ : ∃ R, Hid (R = chB long (prevE l 0) (l.drop 0)) := ⟨_, rfl⟩
    rw [← HR.out]
    go_enter Tryd.func23, Tryd.ntmps23
    go_wp2
    generalize w.alloc (to most long A l.length c) = W0 at *
    go_loopw [3, 4, 14] (fun _ _ ix wr => ∃ k : Nat, k ≤ l.length ∧ ix = .int .i64 k ∧ Aside (R = chB long (prevE l k) (l.drop k)) ∧ Aside (Below W0.heap.size W0 wr)) (fun _ _ ix _ => l.length - (intOf ix).toNat)
    case atStart => exact ⟨0, Nat.zero_le _, rfl, HR.out, Below.refl _ _⟩
    case round =>
      obtain ⟨k, hk, rfl, HE, HB⟩ := hrel
      by_cases hlt : k < l.length
      · cases hx : okE long l[k] with
        | false =>
          have HRF : Hid (R = false) := Lib.hid (by
            rw [HE.out]
            by_cases h0 : k = 0
            · subst h0
              rw [HF.out hlt, hx]; rfl
            · obtain ⟨j, rfl⟩ : ∃ j, k = j + 1 := ⟨k - 1, by omega⟩
              rw [HN.out j hlt, hx]; rfl)
          obtain ⟨b, o, rfl, _, c0, c1, c2, c3⟩ := (HA.out.below HB.out).at hlt
          have HOK' := Lib.hid (HOK.out l[k] (List.getElem_mem hlt))
          obtain ⟨t0, t1, t2⟩ := ((K.out.keep HB.out).keep (Bx.box_below wr (eo l[k]))).all3
          obtain ⟨d0, d1, d2, d3⟩ := (Bx.Blk.new wr (enc l[k]) 62).all4
          have BX := Lib.hid (Bx.bel_box HB.out (eo l[k]))
          rw [hx] at HOK'
          clear hx
          generalize l[k] = x at *
          obtain ⟨x1, x2, x3, x4⟩ := x
          simp only at c0 c1 c2 c3 d0 d1 d2 d3
          go_wp2
          refine wp_region_noPanic ?_
          refine wp_region_held_drew (S := fun w' => w'.cell? ⟨wr.heap.size, 0, none⟩ = some (.int .i64 x1) ∧ w'.cell? ⟨wr.heap.size, 1, none⟩ = some (.int .u64 x2) ∧ w'.cell? ⟨wr.heap.size, 2, none⟩ = some (.int .i64 x3) ∧ w'.cell? ⟨wr.heap.size, 3, none⟩ = some (.int .i64 x4) ∧ w'.cell? ⟨w.heap.size, 0, none⟩ = some (.int .i64 most) ∧ w'.cell? ⟨w.heap.size, 1, none⟩ = some (.int .i64 long) ∧ w'.cell? ⟨w.heap.size, 2, none⟩ = some (.slice (some ⟨b, o, none⟩) l.length c)) (by kernel_rfl) (by exact ⟨d0, d1, d2, d3, t0, t1, t2⟩) (fun hHeld => ?_)
          refine wpAnyH_take (i := 0) (oi := ?o0) (v := ?v0) ?hi0 (by kernel_rfl) (by kernel_rfl) (by kernel_rfl) (fun _ _ _ h => h) ?y0 (by assumption) ?r0
          case hi0 => (simp only [List.getElem?_toArray, List.getElem?_cons_zero]; rfl)
          case y0 => (refine Or.inl ⟨by rfl, ?_⟩; intro w' hSw; (try dsimp only at hSw); go_simp; (try with_reducible rfl))
          try simp only [Act.put, List.setIfInBounds_toArray, List.set_cons_zero, List.set_cons_succ]
          refine wpAnyH_take (i := 1) (oi := ?o1) (v := ?v1) ?hi1 (by kernel_rfl) (by kernel_rfl) (by kernel_rfl) (fun _ _ _ h => h) ?y1 (by assumption) ?r1
          case hi1 => (simp only [List.getElem?_toArray, List.getElem?_cons_succ, List.getElem?_cons_zero]; rfl)
          case y1 => (refine Or.inl ⟨by rfl, ?_⟩; intro w' hSw; (try dsimp only at hSw); go_simp; (try with_reducible rfl))
          try simp only [Act.put, List.setIfInBounds_toArray, List.set_cons_zero, List.set_cons_succ]
          refine wpAnyH_take (i := 2) (oi := ?o2) (v := ?v2) ?hi2 (by kernel_rfl) (by kernel_rfl) (by kernel_rfl) (fun _ _ _ h => h) ?y2 (by assumption) ?r2
          case hi2 => (simp only [List.getElem?_toArray, List.getElem?_cons_succ, List.getElem?_cons_zero]; rfl)
          case y2 => (refine Or.inl ⟨by rfl, ?_⟩; intro w' hSw; (try dsimp only at hSw); go_simp; (try with_reducible rfl))
          try simp only [Act.put, List.setIfInBounds_toArray, List.set_cons_zero, List.set_cons_succ]
          refine wpAnyH_ready (rs := [3]) (by kernel_rfl) (by simp) ?_
          refine AllReadyH.cons (o := ?o3) ?hi3 ?hst3 AllReadyH.nil
          case hi3 => (simp only [List.getElem?_toArray, List.getElem?_cons_succ, List.getElem?_cons_zero]; rfl)
          intro K hK
          go_simp
          (go_at_call 59; with_reducible refine (HOK'.out _).mono ?_; rintro e w1 ⟨rfl, hb1⟩)
          go_wp2_with fail
          refine hK.out _ _ ⟨Bx.keep_cell hb1 hHeld.1, Bx.keep_cell hb1 hHeld.2.1, Bx.keep_cell hb1 hHeld.2.2.1, Bx.keep_cell hb1 hHeld.2.2.2.1, Bx.keep_cell hb1 hHeld.2.2.2.2.1, Bx.keep_cell hb1 hHeld.2.2.2.2.2.1, Bx.keep_cell hb1 hHeld.2.2.2.2.2.2⟩ (fun hNew => ?_)
          clear hHeld
          have hHeld := hNew
          clear hNew
          refine wpAnyH_take (i := 4) (oi := ?o4) (v := ?v4) ?hi4 (by kernel_rfl) (by kernel_rfl) (by kernel_rfl) (fun _ _ _ h => h) ?y4 (by assumption) ?r4
          case hi4 => (simp only [List.getElem?_toArray, List.getElem?_cons_succ, List.getElem?_cons_zero]; rfl)
          case y4 => (refine Or.inl ⟨by rfl, ?_⟩; intro w' hSw; (try dsimp only at hSw); go_simp; (try with_reducible rfl))
          try simp only [Act.put, List.setIfInBounds_toArray, List.set_cons_zero, List.set_cons_succ]
          refine wpAnyH_take (i := 5) (oi := ?o5) (v := ?v5) ?hi5 (by kernel_rfl) (by kernel_rfl) (by kernel_rfl) (fun _ _ _ h => h) ?y5 (by assumption) ?r5
          case hi5 => (simp only [List.getElem?_toArray, List.getElem?_cons_succ, List.getElem?_cons_zero]; rfl)
          case y5 => (refine Or.inl ⟨by rfl, ?_⟩; intro w' hSw; (try dsimp only at hSw); go_simp; (try with_reducible rfl))
          try simp only [Act.put, List.setIfInBounds_toArray, List.set_cons_zero, List.set_cons_succ]
          refine wpAnyH_take (i := 6) (oi := ?o6) (v := undef) ?hi6 (by kernel_rfl) (by kernel_rfl) (by kernel_rfl) (fun _ _ _ h => h) ?y6 (by assumption) ?r6
          case hi6 => (simp only [List.getElem?_toArray, List.getElem?_cons_succ, List.getElem?_cons_zero]; rfl)
          case y6 => exact Or.inr ⟨by rfl, rfl⟩
          try simp only [Act.put, List.setIfInBounds_toArray, List.set_cons_zero, List.set_cons_succ]
          refine wpAnyH_take (i := 7) (oi := ?o7) (v := undef) ?hi7 (by kernel_rfl) (by kernel_rfl) (by kernel_rfl) (fun _ _ _ h => h) ?y7 (by assumption) ?r7
          case hi7 => (simp only [List.getElem?_toArray, List.getElem?_cons_succ, List.getElem?_cons_zero]; rfl)
          case y7 => exact Or.inr ⟨by rfl, rfl⟩
          try simp only [Act.put, List.setIfInBounds_toArray, List.set_cons_zero, List.set_cons_succ]
          refine wpAnyH_take (i := 8) (oi := ?o8) (v := undef) ?hi8 (by kernel_rfl) (by kernel_rfl) (by kernel_rfl) (fun _ _ _ h => h) ?y8 (by assumption) ?r8
          case hi8 => (simp only [List.getElem?_toArray, List.getElem?_cons_succ, List.getElem?_cons_zero]; rfl)
          case y8 => exact Or.inr ⟨by rfl, rfl⟩
          try simp only [Act.put, List.setIfInBounds_toArray, List.set_cons_zero, List.set_cons_succ]
          refine wpAnyH_take (i := 9) (oi := ?o9) (v := undef) ?hi9 (by kernel_rfl) (by kernel_rfl) (by kernel_rfl) (fun _ _ _ h => h) ?y9 (by assumption) ?r9
          case hi9 => (simp only [List.getElem?_toArray, List.getElem?_cons_succ, List.getElem?_cons_zero]; rfl)
          case y9 => exact Or.inr ⟨by rfl, rfl⟩
          try simp only [Act.put, List.setIfInBounds_toArray, List.set_cons_zero, List.set_cons_succ]
          refine wpAnyH_take (i := 10) (oi := ?o10) (v := undef) ?hi10 (by kernel_rfl) (by kernel_rfl) (by kernel_rfl) (fun _ _ _ h => h) ?y10 (by assumption) ?r10
          case hi10 => (simp only [List.getElem?_toArray, List.getElem?_cons_succ, List.getElem?_cons_zero]; rfl)
          case y10 => exact Or.inr ⟨by rfl, rfl⟩
          try simp only [Act.put, List.setIfInBounds_toArray, List.set_cons_zero, List.set_cons_succ]
          refine wpAnyH_take (i := 11) (oi := ?o11) (v := undef) ?hi11 (by kernel_rfl) (by kernel_rfl) (by kernel_rfl) (fun _ _ _ h => h) ?y11 (by assumption) ?r11
          case hi11 => (simp only [List.getElem?_toArray, List.getElem?_cons_succ, List.getElem?_cons_zero]; rfl)
          case y11 => exact Or.inr ⟨by rfl, rfl⟩
          try simp only [Act.put, List.setIfInBounds_toArray, List.set_cons_zero, List.set_cons_succ]
          refine wpAnyH_take (i := 12) (oi := ?o12) (v := undef) ?hi12 (by kernel_rfl) (by kernel_rfl) (by kernel_rfl) (fun _ _ _ h => h) ?y12 (by assumption) ?r12
          case hi12 => (simp only [List.getElem?_toArray, List.getElem?_cons_succ, List.getElem?_cons_zero]; rfl)
          case y12 => exact Or.inr ⟨by rfl, rfl⟩
          try simp only [Act.put, List.setIfInBounds_toArray, List.set_cons_zero, List.set_cons_succ]
          refine wpAnyH_take (i := 13) (oi := ?o13) (v := undef) ?hi13 (by kernel_rfl) (by kernel_rfl) (by kernel_rfl) (fun _ _ _ h => h) ?y13 (by assumption) ?r13
          case hi13 => (simp only [List.getElem?_toArray, List.getElem?_cons_succ, List.getElem?_cons_zero]; rfl)
          case y13 => exact Or.inr ⟨by rfl, rfl⟩
          try simp only [Act.put, List.setIfInBounds_toArray, List.set_cons_zero, List.set_cons_succ]
          refine wpAnyH_take (i := 14) (oi := ?o14) (v := undef) ?hi14 (by kernel_rfl) (by kernel_rfl) (by kernel_rfl) (fun _ _ _ h => h) ?y14 (by assumption) ?r14
          case hi14 => (simp only [List.getElem?_toArray, List.getElem?_cons_succ, List.getElem?_cons_zero]; rfl)
          case y14 => exact Or.inr ⟨by rfl, rfl⟩
          try simp only [Act.put, List.setIfInBounds_toArray, List.set_cons_zero, List.set_cons_succ]
          refine wpAnyH_take (i := 15) (oi := ?o15) (v := undef) ?hi15 (by kernel_rfl) (by kernel_rfl) (by kernel_rfl) (fun _ _ _ h => h) ?y15 (by assumption) ?r15
          case hi15 => (simp only [List.getElem?_toArray, List.getElem?_cons_succ, List.getElem?_cons_zero]; rfl)
          case y15 => exact Or.inr ⟨by rfl, rfl⟩
          try simp only [Act.put, List.setIfInBounds_toArray, List.set_cons_zero, List.set_cons_succ]
          refine wpAnyH_take (i := 16) (oi := ?o16) (v := undef) ?hi16 (by kernel_rfl) (by kernel_rfl) (by kernel_rfl) (fun _ _ _ h => h) ?y16 (by assumption) ?r16
          case hi16 => (simp only [List.getElem?_toArray, List.getElem?_cons_succ, List.getElem?_cons_zero]; rfl)
          case y16 => exact Or.inr ⟨by rfl, rfl⟩
          try simp only [Act.put, List.setIfInBounds_toArray, List.set_cons_zero, List.set_cons_succ]
          refine wpAnyH_take (i := 17) (oi := ?o17) (v := undef) ?hi17 (by kernel_rfl) (by kernel_rfl) (by kernel_rfl) (fun _ _ _ h => h) ?y17 (by assumption) ?r17
          case hi17 => (simp only [List.getElem?_toArray, List.getElem?_cons_succ, List.getElem?_cons_zero]; rfl)
          case y17 => exact Or.inr ⟨by rfl, rfl⟩
          try simp only [Act.put, List.setIfInBounds_toArray, List.set_cons_zero, List.set_cons_succ]
          refine wpAnyH_take (i := 18) (oi := ?o18) (v := undef) ?hi18 (by kernel_rfl) (by kernel_rfl) (by kernel_rfl) (fun _ _ _ h => h) ?y18 (by assumption) ?r18
          case hi18 => (simp only [List.getElem?_toArray, List.getElem?_cons_succ, List.getElem?_cons_zero]; rfl)
          case y18 => exact Or.inr ⟨by rfl, rfl⟩
          try simp only [Act.put, List.setIfInBounds_toArray, List.set_cons_zero, List.set_cons_succ]
          refine wpAnyH_take (i := 19) (oi := ?o19) (v := ?v19) ?hi19 (by kernel_rfl) (by kernel_rfl) (by kernel_rfl) (fun _ _ _ h => h) ?y19 (by assumption) ?r19
          case hi19 => (simp only [List.getElem?_toArray, List.getElem?_cons_succ, List.getElem?_cons_zero]; rfl)
          case y19 => (refine Or.inl ⟨by rfl, ?_⟩; intro w' hSw; (try dsimp only at hSw); go_simp; (try with_reducible rfl))
          try simp only [Act.put, List.setIfInBounds_toArray, List.set_cons_zero, List.set_cons_succ]
          refine wpAnyH_done (by kernel_rfl) ?_ _
          refine NoPanic.normal ?_
          have B2 := Lib.hid (Bx.then_below bel.out (Bx.bel_drew BX.out hb1))
          clear hb1
          go_wp2
          go_ret
          exact ⟨by rw [HRF.out]; rfl, B2.out⟩
        | true =>
          by_cases h0 : k = 0
          · subst h0
            have HE2 : Hid (R = chB long (prevE l 1) (l.drop 1)) := Lib.hid (by rw [HE.out, HF.out hlt, hx]; rfl)
            obtain ⟨b, o, rfl, _, c0, c1, c2, c3⟩ := (HA.out.below HB.out).at hlt
            have HOK' := Lib.hid (HOK.out l[0] (List.getElem_mem hlt))
            obtain ⟨t0, t1, t2⟩ := ((K.out.keep HB.out).keep (Bx.box_below wr (eo l[0]))).all3
            obtain ⟨d0, d1, d2, d3⟩ := (Bx.Blk.new wr (enc l[0]) 62).all4
            have BX := Lib.hid (Bx.bel_box HB.out (eo l[0]))
            rw [hx] at HOK'
            clear hx
            generalize l[0] = x at *
            obtain ⟨x1, x2, x3, x4⟩ := x
            simp only [Nat.zero_mul, Nat.add_zero] at c0 c1 c2 c3 d0 d1 d2 d3
            go_wp2
            refine wp_region_noPanic ?_
            refine wp_region_held_drew (S := fun w' => w'.cell? ⟨wr.heap.size, 0, none⟩ = some (.int .i64 x1) ∧ w'.cell? ⟨wr.heap.size, 1, none⟩ = some (.int .u64 x2) ∧ w'.cell? ⟨wr.heap.size, 2, none⟩ = some (.int .i64 x3) ∧ w'.cell? ⟨wr.heap.size, 3, none⟩ = some (.int .i64 x4) ∧ w'.cell? ⟨w.heap.size, 0, none⟩ = some (.int .i64 most) ∧ w'.cell? ⟨w.heap.size, 1, none⟩ = some (.int .i64 long) ∧ w'.cell? ⟨w.heap.size, 2, none⟩ = some (.slice (some ⟨b, o, none⟩) l.length c)) (by kernel_rfl) (by exact ⟨d0, d1, d2, d3, t0, t1, t2⟩) (fun hHeld => ?_)
            refine wpAnyH_take (i := 0) (oi := ?ob0) (v := ?vb0) ?hib0 (by kernel_rfl) (by kernel_rfl) (by kernel_rfl) (fun _ _ _ h => h) ?yb0 (by assumption) ?rb0
            case hib0 => (simp only [List.getElem?_toArray, List.getElem?_cons_zero]; rfl)
            case yb0 => (refine Or.inl ⟨by rfl, ?_⟩; intro w' hSw; (try dsimp only at hSw); go_simp; (try with_reducible rfl))
            try simp only [Act.put, List.setIfInBounds_toArray, List.set_cons_zero, List.set_cons_succ]
            refine wpAnyH_take (i := 1) (oi := ?ob1) (v := ?vb1) ?hib1 (by kernel_rfl) (by kernel_rfl) (by kernel_rfl) (fun _ _ _ h => h) ?yb1 (by assumption) ?rb1
            case hib1 => (simp only [List.getElem?_toArray, List.getElem?_cons_succ, List.getElem?_cons_zero]; rfl)
            case yb1 => (refine Or.inl ⟨by rfl, ?_⟩; intro w' hSw; (try dsimp only at hSw); go_simp; (try with_reducible rfl))
            try simp only [Act.put, List.setIfInBounds_toArray, List.set_cons_zero, List.set_cons_succ]
            refine wpAnyH_take (i := 2) (oi := ?ob2) (v := ?vb2) ?hib2 (by kernel_rfl) (by kernel_rfl) (by kernel_rfl) (fun _ _ _ h => h) ?yb2 (by assumption) ?rb2
            case hib2 => (simp only [List.getElem?_toArray, List.getElem?_cons_succ, List.getElem?_cons_zero]; rfl)
            case yb2 => (refine Or.inl ⟨by rfl, ?_⟩; intro w' hSw; (try dsimp only at hSw); go_simp; (try with_reducible rfl))
            try simp only [Act.put, List.setIfInBounds_toArray, List.set_cons_zero, List.set_cons_succ]
            refine wpAnyH_ready (rs := [3]) (by kernel_rfl) (by simp) ?_
            refine AllReadyH.cons (o := ?ob3) ?hib3 ?hstb3 AllReadyH.nil
            case hib3 => (simp only [List.getElem?_toArray, List.getElem?_cons_succ, List.getElem?_cons_zero]; rfl)
            intro K hK
            go_simp
            (go_at_call 59; with_reducible refine (HOK'.out _).mono ?_; rintro e w1 ⟨rfl, hb1⟩)
            go_wp2_with fail
            refine hK.out _ _ ⟨Bx.keep_cell hb1 hHeld.1, Bx.keep_cell hb1 hHeld.2.1, Bx.keep_cell hb1 hHeld.2.2.1, Bx.keep_cell hb1 hHeld.2.2.2.1, Bx.keep_cell hb1 hHeld.2.2.2.2.1, Bx.keep_cell hb1 hHeld.2.2.2.2.2.1, Bx.keep_cell hb1 hHeld.2.2.2.2.2.2⟩ (fun hNew => ?_)
            clear hHeld
            have hHeld := hNew
            clear hNew
            refine wpAnyH_take (i := 4) (oi := ?ob4) (v := ?vb4) ?hib4 (by kernel_rfl) (by kernel_rfl) (by kernel_rfl) (fun _ _ _ h => h) ?yb4 (by assumption) ?rb4
            case hib4 => (simp only [List.getElem?_toArray, List.getElem?_cons_succ, List.getElem?_cons_zero]; rfl)
            case yb4 => (refine Or.inl ⟨by rfl, ?_⟩; intro w' hSw; (try dsimp only at hSw); go_simp; (try with_reducible rfl))
            try simp only [Act.put, List.setIfInBounds_toArray, List.set_cons_zero, List.set_cons_succ]
            refine wpAnyH_take (i := 5) (oi := ?ob5) (v := ?vb5) ?hib5 (by kernel_rfl) (by kernel_rfl) (by kernel_rfl) (fun _ _ _ h => h) ?yb5 (by assumption) ?rb5
            case hib5 => (simp only [List.getElem?_toArray, List.getElem?_cons_succ, List.getElem?_cons_zero]; rfl)
            case yb5 => (refine Or.inl ⟨by rfl, ?_⟩; intro w' hSw; (try dsimp only at hSw); go_simp; (try with_reducible rfl))
            try simp only [Act.put, List.setIfInBounds_toArray, List.set_cons_zero, List.set_cons_succ]
            refine wpAnyH_take (i := 6) (oi := ?ob6) (v := ?vb6) ?hib6 (by kernel_rfl) (by kernel_rfl) (by kernel_rfl) (fun _ _ _ h => h) ?yb6 (by assumption) ?rb6
            case hib6 => (simp only [List.getElem?_toArray, List.getElem?_cons_succ, List.getElem?_cons_zero]; rfl)
            case yb6 => (refine Or.inl ⟨by rfl, ?_⟩; intro w' hSw; (try dsimp only at hSw); go_simp; (try with_reducible rfl))
            try simp only [Act.put, List.setIfInBounds_toArray, List.set_cons_zero, List.set_cons_succ]
            refine wpAnyH_take (i := 7) (oi := ?ob7) (v := ?vb7) ?hib7 (by kernel_rfl) (by kernel_rfl) (by kernel_rfl) (fun _ _ _ h => h) ?yb7 (by assumption) ?rb7
            case hib7 => (simp only [List.getElem?_toArray, List.getElem?_cons_succ, List.getElem?_cons_zero]; rfl)
            case yb7 => (refine Or.inl ⟨by rfl, ?_⟩; intro w' hSw; (try dsimp only at hSw); go_simp; (try with_reducible rfl))
            try simp only [Act.put, List.setIfInBounds_toArray, List.set_cons_zero, List.set_cons_succ]
            refine wpAnyH_take (i := 8) (oi := ?ob8) (v := ?vb8) ?hib8 (by kernel_rfl) (by kernel_rfl) (by kernel_rfl) (fun _ _ _ h => h) ?yb8 (by assumption) ?rb8
            case hib8 => (simp only [List.getElem?_toArray, List.getElem?_cons_succ, List.getElem?_cons_zero]; rfl)
            case yb8 => (refine Or.inl ⟨by rfl, ?_⟩; intro w' hSw; (try dsimp only at hSw); go_simp; (try with_reducible rfl))
            try simp only [Act.put, List.setIfInBounds_toArray, List.set_cons_zero, List.set_cons_succ]
            refine wpAnyH_take (i := 9) (oi := ?ob9) (v := undef) ?hib9 (by kernel_rfl) (by kernel_rfl) (by kernel_rfl) (fun _ _ _ h => h) ?yb9 (by assumption) ?rb9
            case hib9 => (simp only [List.getElem?_toArray, List.getElem?_cons_succ, List.getElem?_cons_zero]; rfl)
            case yb9 => exact Or.inr ⟨by rfl, rfl⟩
            try simp only [Act.put, List.setIfInBounds_toArray, List.set_cons_zero, List.set_cons_succ]
            refine wpAnyH_take (i := 10) (oi := ?ob10) (v := undef) ?hib10 (by kernel_rfl) (by kernel_rfl) (by kernel_rfl) (fun _ _ _ h => h) ?yb10 (by assumption) ?rb10
            case hib10 => (simp only [List.getElem?_toArray, List.getElem?_cons_succ, List.getElem?_cons_zero]; rfl)
            case yb10 => exact Or.inr ⟨by rfl, rfl⟩
            try simp only [Act.put, List.setIfInBounds_toArray, List.set_cons_zero, List.set_cons_succ]
            refine wpAnyH_take (i := 11) (oi := ?ob11) (v := undef) ?hib11 (by kernel_rfl) (by kernel_rfl) (by kernel_rfl) (fun _ _ _ h => h) ?yb11 (by assumption) ?rb11
            case hib11 => (simp only [List.getElem?_toArray, List.getElem?_cons_succ, List.getElem?_cons_zero]; rfl)
            case yb11 => exact Or.inr ⟨by rfl, rfl⟩
            try simp only [Act.put, List.setIfInBounds_toArray, List.set_cons_zero, List.set_cons_succ]
            refine wpAnyH_take (i := 12) (oi := ?ob12) (v := undef) ?hib12 (by kernel_rfl) (by kernel_rfl) (by kernel_rfl) (fun _ _ _ h => h) ?yb12 (by assumption) ?rb12
            case hib12 => (simp only [List.getElem?_toArray, List.getElem?_cons_succ, List.getElem?_cons_zero]; rfl)
            case yb12 => exact Or.inr ⟨by rfl, rfl⟩
            try simp only [Act.put, List.setIfInBounds_toArray, List.set_cons_zero, List.set_cons_succ]
            refine wpAnyH_take (i := 13) (oi := ?ob13) (v := undef) ?hib13 (by kernel_rfl) (by kernel_rfl) (by kernel_rfl) (fun _ _ _ h => h) ?yb13 (by assumption) ?rb13
            case hib13 => (simp only [List.getElem?_toArray, List.getElem?_cons_succ, List.getElem?_cons_zero]; rfl)
            case yb13 => exact Or.inr ⟨by rfl, rfl⟩
            try simp only [Act.put, List.setIfInBounds_toArray, List.set_cons_zero, List.set_cons_succ]
            refine wpAnyH_take (i := 14) (oi := ?ob14) (v := undef) ?hib14 (by kernel_rfl) (by kernel_rfl) (by kernel_rfl) (fun _ _ _ h => h) ?yb14 (by assumption) ?rb14
            case hib14 => (simp only [List.getElem?_toArray, List.getElem?_cons_succ, List.getElem?_cons_zero]; rfl)
            case yb14 => exact Or.inr ⟨by rfl, rfl⟩
            try simp only [Act.put, List.setIfInBounds_toArray, List.set_cons_zero, List.set_cons_succ]
            refine wpAnyH_take (i := 15) (oi := ?ob15) (v := undef) ?hib15 (by kernel_rfl) (by kernel_rfl) (by kernel_rfl) (fun _ _ _ h => h) ?yb15 (by assumption) ?rb15
            case hib15 => (simp only [List.getElem?_toArray, List.getElem?_cons_succ, List.getElem?_cons_zero]; rfl)
            case yb15 => exact Or.inr ⟨by rfl, rfl⟩
            try simp only [Act.put, List.setIfInBounds_toArray, List.set_cons_zero, List.set_cons_succ]
            refine wpAnyH_take (i := 16) (oi := ?ob16) (v := undef) ?hib16 (by kernel_rfl) (by kernel_rfl) (by kernel_rfl) (fun _ _ _ h => h) ?yb16 (by assumption) ?rb16
            case hib16 => (simp only [List.getElem?_toArray, List.getElem?_cons_succ, List.getElem?_cons_zero]; rfl)
            case yb16 => exact Or.inr ⟨by rfl, rfl⟩
            try simp only [Act.put, List.setIfInBounds_toArray, List.set_cons_zero, List.set_cons_succ]
            refine wpAnyH_take (i := 17) (oi := ?ob17) (v := undef) ?hib17 (by kernel_rfl) (by kernel_rfl) (by kernel_rfl) (fun _ _ _ h => h) ?yb17 (by assumption) ?rb17
            case hib17 => (simp only [List.getElem?_toArray, List.getElem?_cons_succ, List.getElem?_cons_zero]; rfl)
            case yb17 => exact Or.inr ⟨by rfl, rfl⟩
            try simp only [Act.put, List.setIfInBounds_toArray, List.set_cons_zero, List.set_cons_succ]
            refine wpAnyH_take (i := 18) (oi := ?ob18) (v := ?vb18) ?hib18 (by kernel_rfl) (by kernel_rfl) (by kernel_rfl) (fun _ _ _ h => h) ?yb18 (by assumption) ?rb18
            case hib18 => (simp only [List.getElem?_toArray, List.getElem?_cons_succ, List.getElem?_cons_zero]; rfl)
            case yb18 => (refine Or.inl ⟨by rfl, ?_⟩; intro w' hSw; (try dsimp only at hSw); go_simp; (try with_reducible rfl))
            try simp only [Act.put, List.setIfInBounds_toArray, List.set_cons_zero, List.set_cons_succ]
            refine wpAnyH_take (i := 19) (oi := ?ob19) (v := ?vb19) ?hib19 (by kernel_rfl) (by kernel_rfl) (by kernel_rfl) (fun _ _ _ h => h) ?yb19 (by assumption) ?rb19
            case hib19 => (simp only [List.getElem?_toArray, List.getElem?_cons_succ, List.getElem?_cons_zero]; rfl)
            case yb19 => (refine Or.inl ⟨by rfl, ?_⟩; intro w' hSw; (try dsimp only at hSw); go_simp; (try with_reducible rfl))
            try simp only [Act.put, List.setIfInBounds_toArray, List.set_cons_zero, List.set_cons_succ]
            refine wpAnyH_done (by kernel_rfl) ?_ _
            refine NoPanic.normal ?_
            have B2 := Lib.hid (Bx.bel_drew BX.out hb1)
            clear hb1
            go_wp2
            go_roundw
            case rel => exact ⟨1, by omega, by go_num, HE2.out, B2.out⟩
            case measure => simp [intOf]; omega
          · obtain ⟨j, hj⟩ : ∃ j, k = j + 1 := ⟨k - 1, by omega⟩
            have hjl : j < l.length := by omega
            have HE2 : Hid (R = (ahd l[j] l[k] && chB long (prevE l (k + 1)) (l.drop (k + 1)))) := Lib.hid (by
              subst hj
              rw [HE.out, HN.out j hlt, hx, Bool.true_and])
            obtain ⟨b, o, rfl, _, c0, c1, c2, c3⟩ := (HA.out.below HB.out).at hlt
            have HOK' := Lib.hid (HOK.out l[k] (List.getElem_mem hlt))
            obtain ⟨t0, t1, t2⟩ := ((K.out.keep HB.out).keep (Bx.box_below wr (eo l[k]))).all3
            obtain ⟨d0, d1, d2, d3⟩ := (Bx.Blk.new wr (enc l[k]) 62).all4
            have BX := Lib.hid (Bx.bel_box HB.out (eo l[k]))
            obtain ⟨b', o', eb, _, e0, e1, e2, e3⟩ := ((HA.out.below HB.out).below (Bx.box_below wr (eo l[k]))).at hjl
            injection eb with eb
            injection eb with eb1 eb2
            subst eb1 eb2
            have HAH := Lib.hid (ahead_any l[j] l[k])
            rw [hx] at HOK'
            clear hx
            have hj1 : IntKind.i64.wrap ((k : Int) - 1) = (j : Int) := by rw [IntKind.wrap_i64]; omega
            have hj4 : wrap64 ((k : Int) - 1) = (j : Int) := by unfold wrap64; omega
            have hj2 : (j : Int) < (l.length : Int) := by omega
            have hj3 : 0 < k := by omega
            generalize l[k] = x at *
            generalize l[j] = y at *
            obtain ⟨x1, x2, x3, x4⟩ := x
            obtain ⟨y1, y2, y3, y4⟩ := y
            simp only at c0 c1 c2 c3 d0 d1 d2 d3 e0 e1 e2 e3
            clear hj h0
            generalize ahd ⟨y1, y2, y3, y4⟩ ⟨x1, x2, x3, x4⟩ = r at *
            go_wp2
            go_region_held3 (fun w' => w'.cell? ⟨wr.heap.size, 0, none⟩ = some (.int .i64 x1) ∧ w'.cell? ⟨wr.heap.size, 1, none⟩ = some (.int .u64 x2) ∧ w'.cell? ⟨wr.heap.size, 2, none⟩ = some (.int .i64 x3) ∧ w'.cell? ⟨wr.heap.size, 3, none⟩ = some (.int .i64 x4) ∧ w'.cell? ⟨w.heap.size, 0, none⟩ = some (.int .i64 most) ∧ w'.cell? ⟨w.heap.size, 1, none⟩ = some (.int .i64 long) ∧ w'.cell? ⟨w.heap.size, 2, none⟩ = some (.slice (some ⟨b, o, none⟩) l.length c) ∧ w'.cell? ⟨b, o + j * 4, none⟩ = some (.int .i64 y1) ∧ w'.cell? ⟨b, o + j * 4 + 1, none⟩ = some (.int .u64 y2) ∧ w'.cell? ⟨b, o + j * 4 + 2, none⟩ = some (.int .i64 y3) ∧ w'.cell? ⟨b, o + j * 4 + 3, none⟩ = some (.int .i64 y4))
              (first | go_keep | (go_split_ands; exact ⟨Bx.keep_cell (by assumption) (by assumption), Bx.keep_cell (by assumption) (by assumption), Bx.keep_cell (by assumption) (by assumption), Bx.keep_cell (by assumption) (by assumption), Bx.keep_cell (by assumption) (by assumption), Bx.keep_cell (by assumption) (by assumption), Bx.keep_cell (by assumption) (by assumption), Bx.keep_cell (by assumption) (by assumption), Bx.keep_cell (by assumption) (by assumption), Bx.keep_cell (by assumption) (by assumption), Bx.keep_cell (by assumption) (by assumption)⟩))
              (first | (go_at_call 59; with_reducible refine (HOK'.out _).mono ?_; rintro e w1 ⟨rfl, hb1⟩) | (go_at_call 60; with_reducible refine (HAH.out _).mono ?_; rintro e w2 ⟨rfl, hb2⟩))
            have B2 := Lib.hid (Bx.then_below (Bx.bel_drew BX.out hb1) hb2)
            have B3 := Lib.hid (Bx.then_below bel.out B2.out)
            clear hb1 hb2
            cases r with
            | true =>
              go_wp2
              go_roundw
              case rel => exact ⟨k + 1, by omega, by go_num, HE2.out.trans (Bool.true_and _), B2.out⟩
              case measure => simp [intOf]; omega
            | false =>
              go_wp2
              go_ret
              exact ⟨by rw [HE2.out]; rfl, B3.out⟩
      · obtain rfl : k = l.length := by omega
        have HT : Hid (R = true) := Lib.hid (HE.out.trans HZ.out)
        have B2 := Lib.hid (Bx.then_below bel.out HB.out)
        go_wp2
        go_ret
        exact ⟨by rw [HT.out]; rfl, B2.out⟩
  · have hs : sndB most long l = false := by unfold sndB; rw [decide_eq_false hlen]; rfl
    rw [hs]
    obtain ⟨t0, t1, t2⟩ := K.out.all3
    have hlt : most < (l.length : Int) := by omega
    go_enter Tryd.func23, Tryd.ntmps23
    go_wp2
    go_ret
    exact ⟨rfl, bel.out⟩

end Tab
end Go.Proofs.YtmojegnflcokjaaDoor
