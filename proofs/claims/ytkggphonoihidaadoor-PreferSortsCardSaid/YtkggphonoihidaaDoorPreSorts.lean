/-
  The statement PreferSorts: for every vectors and times the law PreferSorts returns true, and its arguments read afterwards as they read before.
-/
import Derived.Test.YtkggphonoihidaaDoorPreAwake
import Derived.Test.YtkggphonoihidaaDoorPreText
import Derived.Test.YtkggphonoihidaaDoorPreRef
import Derived.Test.YtkggphonoihidaaDoorPreOpen
import Derived.Test.YtkggphonoihidaaDoorFrame
import Derived.Test.YtkggphonoihidaaDoorCard
import Derived.Test.YtkggphonoihidaaDoorDecHome
import Derived.Test.YtkggphonoihidaaDoorRows
import Derived.Test.YtkggphonoihidaaDoorCards
import Derived.SevenTiedAt
import Derived.Test.YtkggphonoihidaaDoorTie
namespace Go.Proofs.YtkggphonoihidaaDoor
open Go.RowKit
namespace Pre
open Oct Dec

/-- The first of what is in order is the least of all. -/
theorem first_least {la l : List Vc} {k : Nat} (hp : la.Perm l) (hs : Srt.Inc ltV 0 la.length la) (hk : Fst l k) (h0 : 0 < la.length) (hkl : k < l.length) : la[0] = l[k] := by
  obtain ⟨x, h1, h2, _⟩ := hk
  rw [List.getElem?_eq_getElem hkl] at h1
  cases h1
  have hm : la[0] ∈ l := hp.mem_iff.1 (List.getElem_mem h0)
  obtain ⟨j, hj⟩ := List.getElem?_of_mem hm
  have g1 := h2 j _ hj
  have hm2 : l[k] ∈ la := hp.mem_iff.2 (List.getElem_mem hkl)
  obtain ⟨i, hi⟩ := List.getElem?_of_mem hm2
  have g2 := Srt.le_or tot hs (Nat.le_refl 0) (Nat.zero_le i) (List.getElem?_eq_some_iff.1 hi).1 (List.getElem?_eq_getElem h0) hi
  exact tot.tot _ _ g1 g2

set_option maxRecDepth 40000 in
set_option maxHeartbeats 16000000 in
theorem law_sorts (w : World) (A : Option Addr) (l : List Vc) (c : Nat) (_ : l.length ≤ maxLen) (hA : Vs w A l) (hw : ∀ x ∈ l, wfV x) (t : Tm) (ht : wfT t) (hH : Home w) :
    Calls Tryd.prog 3 #[.slice A l.length c, tmv t] w fun e w' => e = .returned (.bool true) ∧ Below w.heap.size w w' := by
  have HAW := Lib.hid awake_any
  have B0 := Lib.hid (Bx.box_below w (tmo t))
  by_cases hl : 60 < l.length
  · have hl' : (60 : Int) < (l.length : Int) := by omega
    generalize l.length = n at *
    clear hA
    go_enter Tryd.func3, Tryd.ntmps3
    go_wp2_with fail
    refine (HAW.out _).mono ?_; rintro e w1 ⟨rfl, hb⟩
    have B2 := Lib.hid (Bx.then_below B0.out hb)
    clear hb
    go_wp2
    go_ret
    exact ⟨rfl, B2.out⟩
  · have hl' : ¬ (60 : Int) < (l.length : Int) := by omega
    have hl2 : l.length ≤ 60 := by omega
    have HA := Lib.hid hA
    have HS := Lib.hid (fun w' h => sorted_any l hl2 A c w' h)
    have HR := Lib.hid (fun w' h => rsorted_any l (by omega) A c w' h)
    have HLE := Lib.hid (fun w' h => least_any l (by omega) A c w' h)
    obtain ⟨h, hh⟩ : ∃ h, h = hopsT t := ⟨_, rfl⟩
    have H1 : Hid (∀ W, Below w.heap.size w W → Calls Tryd.prog 7 #[tmv t] W fun e w' => e = .returned (.int .i64 h) ∧ Below W.heap.size W w') := Lib.hid (fun W hb => by rw [hh]; exact hops_any t ht W)
    have H2 : Hid (∀ W, Below w.heap.size w W → Calls Tryd.prog 8 #[tmv t] W fun e w' => e = .returned (.int .i64 h) ∧ Below W.heap.size W w') := Lib.hid (fun W hb => by rw [hh]; exact rhops_any t ht W)
    have HWF := Lib.hid hw
    have HOME := Lib.hid hH
    have X0 := Lib.hid (Bx.Blk.new w (tenc t) 24)
    obtain ⟨q1, q2, q3, q4⟩ := t
    clear hA hw hH ht hh
    go_enter Tryd.func3, Tryd.ntmps3
    go_wp2_with fail
    refine (HS.out _ (HA.out.below B0.out)).mono ?_; rintro e w1 ⟨Ba, ca, la, rfl, hva, hpa, hia, hb⟩
    have VA := Lib.hid hva
    have PA := Lib.hid hpa
    have IA := Lib.hid hia
    have B1 := Lib.hid (Bx.then_below B0.out hb)
    have X1 := Lib.hid (X0.out.keep hb)
    clear hb hva hpa hia X0 B0
    go_wp2_with fail
    refine (HR.out _ (HA.out.below B1.out)).mono ?_; rintro e w2 ⟨Bb, cb, lb, rfl, hvb, hpb, hib, hb⟩
    obtain rfl : la = lb := Srt.Inc.same tot IA.out hib (PA.out.trans hpb.symm)
    have VA2 := Lib.hid (VA.out.below hb)
    have VB := Lib.hid hvb
    have bel := Bx.then_below B1.out hb
    have X2 := Lib.hid (X1.out.keep hb)
    clear hb hvb hpb hib X1 B1 VA
    have HN := Lib.hid PA.out.length_eq
    obtain ⟨N, hN⟩ : ∃ N, N = la.length := ⟨_, rfl⟩
    have hNl : l.length = N := by rw [hN]; exact HN.out.symm
    rw [hNl] at HS HR HLE hl' hl2 ⊢
    rw [← hN]
    have HNA := Lib.hid hN
    have HNL := Lib.hid hNl
    clear hN hNl HS HR
    have en : ((N : Int) != (N : Int)) = false := by simp
    have eh : (h != h) = false := by simp
    obtain ⟨a0, a1, a2, a3⟩ := X2.out.all4
    go_wp2_with fail
    refine wp_region_noPanic ?_
    refine wp_region_held_drew (S := fun w' => w'.cell? ⟨w.heap.size, 0, none⟩ = some (.int .i64 q1) ∧ w'.cell? ⟨w.heap.size, 1, none⟩ = some (.int .i64 q2) ∧ w'.cell? ⟨w.heap.size, 2, none⟩ = some (.int .i64 q3) ∧ w'.cell? ⟨w.heap.size, 3, none⟩ = some (.int .i64 q4)) (by kernel_rfl) (by exact ⟨a0, a1, a2, a3⟩) (fun hHeld => ?_)
    replace bel := Bx.bel_drewn bel
    replace VA2 : Hid (Vs w2.drew Ba la) := VA2.out
    replace VB : Hid (Vs w2.drew Bb la) := VB.out
    replace X2 : Hid (Bx.Blk w2.drew w.heap.size (tenc ⟨q1, q2, q3, q4⟩)) := X2.out
    refine wpAnyH_take (i := 0) (oi := ?o0w1) (v := ?v0w1) ?hi0w1 (by kernel_rfl) (by kernel_rfl) (by kernel_rfl) (fun _ _ _ h => h) ?y0w1 (by assumption) ?r0w1
    case hi0w1 => (simp only [List.getElem?_toArray, List.getElem?_cons_zero]; rfl)
    case y0w1 => (refine Or.inl ⟨by rfl, ?_⟩; intro w' hSw; (try dsimp only at hSw); go_simp; (try with_reducible rfl))
    try simp only [Act.put, List.setIfInBounds_toArray, List.set_cons_zero, List.set_cons_succ]
    refine wpAnyH_take (i := 1) (oi := ?o1w1) (v := ?v1w1) ?hi1w1 (by kernel_rfl) (by kernel_rfl) (by kernel_rfl) (fun _ _ _ h => h) ?y1w1 (by assumption) ?r1w1
    case hi1w1 => (simp only [List.getElem?_toArray, List.getElem?_cons_succ, List.getElem?_cons_zero]; rfl)
    case y1w1 => (refine Or.inl ⟨by rfl, ?_⟩; intro w' hSw; (try dsimp only at hSw); go_simp; (try with_reducible rfl))
    try simp only [Act.put, List.setIfInBounds_toArray, List.set_cons_zero, List.set_cons_succ]
    refine wpAnyH_take (i := 2) (oi := ?o2w1) (v := ?v2w1) ?hi2w1 (by kernel_rfl) (by kernel_rfl) (by kernel_rfl) (fun _ _ _ h => h) ?y2w1 (by assumption) ?r2w1
    case hi2w1 => (simp only [List.getElem?_toArray, List.getElem?_cons_succ, List.getElem?_cons_zero]; rfl)
    case y2w1 => (refine Or.inl ⟨by rfl, ?_⟩; intro w' hSw; (try dsimp only at hSw); go_simp; (try with_reducible rfl))
    try simp only [Act.put, List.setIfInBounds_toArray, List.set_cons_zero, List.set_cons_succ]
    refine wpAnyH_take (i := 3) (oi := ?o3w1) (v := ?v3w1) ?hi3w1 (by kernel_rfl) (by kernel_rfl) (by kernel_rfl) (fun _ _ _ h => h) ?y3w1 (by assumption) ?r3w1
    case hi3w1 => (simp only [List.getElem?_toArray, List.getElem?_cons_succ, List.getElem?_cons_zero]; rfl)
    case y3w1 => (refine Or.inl ⟨by rfl, ?_⟩; intro w' hSw; (try dsimp only at hSw); go_simp; (try with_reducible rfl))
    try simp only [Act.put, List.setIfInBounds_toArray, List.set_cons_zero, List.set_cons_succ]
    refine wpAnyH_take (i := 4) (oi := ?o4w1) (v := ?v4w1) ?hi4w1 (by kernel_rfl) (by kernel_rfl) (by kernel_rfl) (fun _ _ _ h => h) ?y4w1 (by assumption) ?r4w1
    case hi4w1 => (simp only [List.getElem?_toArray, List.getElem?_cons_succ, List.getElem?_cons_zero]; rfl)
    case y4w1 => (refine Or.inl ⟨by rfl, ?_⟩; intro w' hSw; (try dsimp only at hSw); go_simp; (try with_reducible rfl))
    try simp only [Act.put, List.setIfInBounds_toArray, List.set_cons_zero, List.set_cons_succ]
    refine wpAnyH_take (i := 5) (oi := ?o5w1) (v := ?v5w1) ?hi5w1 (by kernel_rfl) (by kernel_rfl) (by kernel_rfl) (fun _ _ _ h => h) ?y5w1 (by assumption) ?r5w1
    case hi5w1 => (simp only [List.getElem?_toArray, List.getElem?_cons_succ, List.getElem?_cons_zero]; rfl)
    case y5w1 => (refine Or.inl ⟨by rfl, ?_⟩; intro w' hSw; (try dsimp only at hSw); go_simp; (try with_reducible rfl))
    try simp only [Act.put, List.setIfInBounds_toArray, List.set_cons_zero, List.set_cons_succ]
    refine wpAnyH_take (i := 6) (oi := ?o6w1) (v := ?v6w1) ?hi6w1 (by kernel_rfl) (by kernel_rfl) (by kernel_rfl) (fun _ _ _ h => h) ?y6w1 (by assumption) ?r6w1
    case hi6w1 => (simp only [List.getElem?_toArray, List.getElem?_cons_succ, List.getElem?_cons_zero]; rfl)
    case y6w1 => (refine Or.inl ⟨by rfl, ?_⟩; intro w' hSw; (try dsimp only at hSw); go_simp; (try with_reducible rfl))
    try simp only [Act.put, List.setIfInBounds_toArray, List.set_cons_zero, List.set_cons_succ]
    refine wpAnyH_take (i := 7) (oi := ?o7w1) (v := ?v7w1) ?hi7w1 (by kernel_rfl) (by kernel_rfl) (by kernel_rfl) (fun _ _ _ h => h) ?y7w1 (by assumption) ?r7w1
    case hi7w1 => (simp only [List.getElem?_toArray, List.getElem?_cons_succ, List.getElem?_cons_zero]; rfl)
    case y7w1 => (refine Or.inl ⟨by rfl, ?_⟩; intro w' hSw; (try dsimp only at hSw); go_simp; (try with_reducible rfl))
    try simp only [Act.put, List.setIfInBounds_toArray, List.set_cons_zero, List.set_cons_succ]
    refine wpAnyH_take (i := 8) (oi := ?o8w1) (v := ?v8w1) ?hi8w1 (by kernel_rfl) (by kernel_rfl) (by kernel_rfl) (fun _ _ _ h => h) ?y8w1 (by assumption) ?r8w1
    case hi8w1 => (simp only [List.getElem?_toArray, List.getElem?_cons_succ, List.getElem?_cons_zero]; rfl)
    case y8w1 => (refine Or.inl ⟨by rfl, ?_⟩; intro w' hSw; (try dsimp only at hSw); go_simp; (try with_reducible rfl))
    try simp only [Act.put, List.setIfInBounds_toArray, List.set_cons_zero, List.set_cons_succ]
    refine wpAnyH_take (i := 9) (oi := ?o9w1) (v := ?v9w1) ?hi9w1 (by kernel_rfl) (by kernel_rfl) (by kernel_rfl) (fun _ _ _ h => h) ?y9w1 (by assumption) ?r9w1
    case hi9w1 => (simp only [List.getElem?_toArray, List.getElem?_cons_succ, List.getElem?_cons_zero]; rfl)
    case y9w1 => (refine Or.inl ⟨by rfl, ?_⟩; intro w' hSw; (try dsimp only at hSw); go_simp; (try with_reducible rfl))
    try simp only [Act.put, List.setIfInBounds_toArray, List.set_cons_zero, List.set_cons_succ]
    refine wpAnyH_take (i := 10) (oi := ?o10w1) (v := ?v10w1) ?hi10w1 (by kernel_rfl) (by kernel_rfl) (by kernel_rfl) (fun _ _ _ h => h) ?y10w1 (by assumption) ?r10w1
    case hi10w1 => (simp only [List.getElem?_toArray, List.getElem?_cons_succ, List.getElem?_cons_zero]; rfl)
    case y10w1 => (refine Or.inl ⟨by rfl, ?_⟩; intro w' hSw; (try dsimp only at hSw); go_simp; (try with_reducible rfl))
    try simp only [Act.put, List.setIfInBounds_toArray, List.set_cons_zero, List.set_cons_succ]
    refine wpAnyH_take (i := 11) (oi := ?o11w1) (v := ?v11w1) ?hi11w1 (by kernel_rfl) (by kernel_rfl) (by kernel_rfl) (fun _ _ _ h => h) ?y11w1 (by assumption) ?r11w1
    case hi11w1 => (simp only [List.getElem?_toArray, List.getElem?_cons_succ, List.getElem?_cons_zero]; rfl)
    case y11w1 => (refine Or.inl ⟨by rfl, ?_⟩; intro w' hSw; (try dsimp only at hSw); go_simp; (try with_reducible rfl))
    try simp only [Act.put, List.setIfInBounds_toArray, List.set_cons_zero, List.set_cons_succ]
    refine wpAnyH_take (i := 12) (oi := ?o12w1) (v := ?v12w1) ?hi12w1 (by kernel_rfl) (by kernel_rfl) (by kernel_rfl) (fun _ _ _ h => h) ?y12w1 (by assumption) ?r12w1
    case hi12w1 => (simp only [List.getElem?_toArray, List.getElem?_cons_succ, List.getElem?_cons_zero]; rfl)
    case y12w1 => (refine Or.inl ⟨by rfl, ?_⟩; intro w' hSw; (try dsimp only at hSw); go_simp; (try with_reducible rfl))
    try simp only [Act.put, List.setIfInBounds_toArray, List.set_cons_zero, List.set_cons_succ]
    refine wpAnyH_take (i := 13) (oi := ?o13w1) (v := ?v13w1) ?hi13w1 (by kernel_rfl) (by kernel_rfl) (by kernel_rfl) (fun _ _ _ h => h) ?y13w1 (by assumption) ?r13w1
    case hi13w1 => (simp only [List.getElem?_toArray, List.getElem?_cons_succ, List.getElem?_cons_zero]; rfl)
    case y13w1 => (refine Or.inl ⟨by rfl, ?_⟩; intro w' hSw; (try dsimp only at hSw); go_simp; (try with_reducible rfl))
    try simp only [Act.put, List.setIfInBounds_toArray, List.set_cons_zero, List.set_cons_succ]
    refine wpAnyH_take (i := 15) (oi := ?o15w1) (v := ?v15w1) ?hi15w1 (by kernel_rfl) (by kernel_rfl) (by kernel_rfl) (fun _ _ _ h => h) ?y15w1 (by assumption) ?r15w1
    case hi15w1 => (simp only [List.getElem?_toArray, List.getElem?_cons_succ, List.getElem?_cons_zero]; rfl)
    case y15w1 => (refine Or.inl ⟨by rfl, ?_⟩; intro w' hSw; (try dsimp only at hSw); go_simp; (try with_reducible rfl))
    try simp only [Act.put, List.setIfInBounds_toArray, List.set_cons_zero, List.set_cons_succ]
    refine wpAnyH_ready (rs := [14]) (by kernel_rfl) (by simp) ?_
    refine AllReadyH.cons (o := ?o14w1) ?hi14w1 ?hst14w1 AllReadyH.nil
    case hi14w1 => (simp only [List.getElem?_toArray, List.getElem?_cons_succ, List.getElem?_cons_zero]; rfl)
    intro K hK
    go_simp
    (go_at_call 7; (with_reducible refine (H1.out _ bel).mono ?_); rintro e w11 ⟨rfl, hb11⟩)
    go_wp2_with fail
    refine hK.out _ _ ⟨Bx.keep_cell hb11 hHeld.1, Bx.keep_cell hb11 hHeld.2.1, Bx.keep_cell hb11 hHeld.2.2.1, Bx.keep_cell hb11 hHeld.2.2.2⟩ (fun hNew => ?_)
    clear hHeld
    have hHeld := hNew
    clear hNew hK K
    replace bel := Bx.then_below bel hb11
    replace VA2 := Lib.hid (VA2.out.below hb11)
    replace VB := Lib.hid (VB.out.below hb11)
    replace X2 := Lib.hid (X2.out.keep hb11)
    clear hb11
    refine wpAnyH_ready (rs := [16]) (by kernel_rfl) (by simp) ?_
    refine AllReadyH.cons (o := ?o16w1) ?hi16w1 ?hst16w1 AllReadyH.nil
    case hi16w1 => (simp only [List.getElem?_toArray, List.getElem?_cons_succ, List.getElem?_cons_zero]; rfl)
    intro K hK
    go_simp
    (go_at_call 8; (with_reducible refine (H2.out _ bel).mono ?_); rintro e w12 ⟨rfl, hb12⟩)
    go_wp2_with fail
    refine hK.out _ _ ⟨Bx.keep_cell hb12 hHeld.1, Bx.keep_cell hb12 hHeld.2.1, Bx.keep_cell hb12 hHeld.2.2.1, Bx.keep_cell hb12 hHeld.2.2.2⟩ (fun hNew => ?_)
    clear hHeld
    have hHeld := hNew
    clear hNew hK K
    replace bel := Bx.then_below bel hb12
    replace VA2 := Lib.hid (VA2.out.below hb12)
    replace VB := Lib.hid (VB.out.below hb12)
    replace X2 := Lib.hid (X2.out.keep hb12)
    clear hb12
    refine wpAnyH_take (i := 17) (oi := ?o17w1) (v := ?v17w1) ?hi17w1 (by kernel_rfl) (by kernel_rfl) (by kernel_rfl) (fun _ _ _ h => h) ?y17w1 (by assumption) ?r17w1
    case hi17w1 => (simp only [List.getElem?_toArray, List.getElem?_cons_succ, List.getElem?_cons_zero]; rfl)
    case y17w1 => (refine Or.inl ⟨by rfl, ?_⟩; intro w' hSw; (try dsimp only at hSw); go_simp; (try with_reducible rfl))
    try simp only [Act.put, List.setIfInBounds_toArray, List.set_cons_zero, List.set_cons_succ]
    refine wpAnyH_take (i := 18) (oi := ?o18w1) (v := ?v18w1) ?hi18w1 (by kernel_rfl) (by kernel_rfl) (by kernel_rfl) (fun _ _ _ h => h) ?y18w1 (by assumption) ?r18w1
    case hi18w1 => (simp only [List.getElem?_toArray, List.getElem?_cons_succ, List.getElem?_cons_zero]; rfl)
    case y18w1 => (refine Or.inl ⟨by rfl, ?_⟩; intro w' hSw; (try dsimp only at hSw); go_simp; (try with_reducible rfl))
    try simp only [Act.put, List.setIfInBounds_toArray, List.set_cons_zero, List.set_cons_succ]
    refine wpAnyH_done (by kernel_rfl) ?_ _
    refine NoPanic.normal ?_
    clear hHeld H1 H2 a0 a1 a2 a3 eh
    have B2 := Lib.hid bel
    clear bel
    go_wp2_with fail
    go_loopw [7, 38] (fun _ ix wr => ∃ i : Nat, i ≤ N ∧ ix = .int .i64 i ∧ Aside (Below w.heap.size w wr) ∧ Aside (Vs wr Ba la) ∧ Aside (Vs wr Bb la) ∧ Aside (Bx.Blk wr w.heap.size (tenc ⟨q1, q2, q3, q4⟩))) (fun _ ix _ => N - (intOf ix).toNat)
    case atStart => exact ⟨0, Nat.zero_le _, rfl, B2.out, VA2.out, VB.out, X2.out⟩
    clear B2 VA2 VB X2
    case round =>
      obtain ⟨i, hi, rfl, HB, HVA, HVB, HX⟩ := hrel
      have bel := HB.out
      have VA2 := Lib.hid HVA.out
      have VB := Lib.hid HVB.out
      have X2 := Lib.hid HX.out
      clear HB HVA HVB HX
      by_cases hlt : i < N
      · have hil : i < la.length := by rw [← HNA.out]; exact hlt
        obtain ⟨b1, p1, rfl, _, c0, c1, c2, c3⟩ := VA2.out.at hil
        obtain ⟨b2, p2, rfl, _, d0, d1, d2, d3⟩ := VB.out.at hil
        have hyw := HWF.out la[i] (PA.out.mem_iff.1 (List.getElem_mem hil))
        have HT1 : Hid (∀ W, Below w.heap.size w W → Calls Tryd.prog 9 #[vv la[i]] W fun e w' => e = .returned (.string (txtV la[i])) ∧ Below W.heap.size W w') := Lib.hid (fun W hb => text_any la[i] hyw W (HOME.out.below hb))
        have HT2 : Hid (∀ W, Below w.heap.size w W → Calls Tryd.prog 10 #[vv la[i]] W fun e w' => e = .returned (.string (txtV la[i])) ∧ Below W.heap.size W w') := Lib.hid (fun W hb => rtext_any la[i] hyw W)
        have k1 : (0 : Int) ≤ (i : Int) := by omega
        have k2 : (i : Int) < (N : Int) := by omega
        generalize hX : txtV la[i] = X at *
        clear hX hyw
        have es : (X.toList != X.toList) = false := by simp
        have es2 : (X.toList == X.toList) = true := by simp
        by_cases h0 : 0 < i
        · obtain ⟨j, hj⟩ : ∃ j, i = j + 1 := ⟨i - 1, by omega⟩
          have hjl : j < la.length := by omega
          obtain ⟨b3, p3, e3, _, f0, f1, f2, f3⟩ := VA2.out.at hjl
          injection e3 with e3
          injection e3 with e3 e4
          subst e3 e4
          have hbt : ltV la[i] la[j] = false := IA.out j i _ _ (Nat.zero_le _) (by omega) hil (List.getElem?_eq_getElem hjl) (List.getElem?_eq_getElem hil)
          have HBT : Hid (∀ W, Calls Tryd.prog 11 #[vv la[i], vv la[j]] W fun e w' => e = .returned (.bool false) ∧ Below W.heap.size W w') := Lib.hid (fun W => by have h := better_any la[i] la[j] W; rw [hbt] at h; exact h)
          have k3 : (0 : Int) < (i : Int) := by omega
          have k4 : (i : Int) - 1 = j := by omega
          have k5 : (0 : Int) ≤ (j : Int) := by omega
          have k6 : (j : Int) < (N : Int) := by omega
          have k7 := wrap_small (a := j) (by omega)
          have k8 : decide ((0 : Int) < (i : Int)) = true := decide_eq_true k3
          have k9 : decide (0 < i) = true := decide_eq_true h0
          clear hbt hj h0
          generalize la[i] = y at *
          generalize la[j] = z at *
          obtain ⟨m1, m2, m3, m4⟩ := y
          obtain ⟨n1, n2, n3, n4⟩ := z
          simp only at c0 c1 c2 c3 d0 d1 d2 d3 f0 f1 f2 f3
          have hne : ∀ w, (binOp .neq 30 (.agg #[.int .u64 m1, .int .u64 m2, .int .u64 m3, .int .i64 m4]) (.agg #[.int .u64 m1, .int .u64 m2, .int .u64 m3, .int .i64 m4])).run Tryd.prog w = .ok (.bool false) w := fun w => by have h := neq_at m1 m2 m3 m4 m1 m2 m3 m4 w; rw [decide_eq_true rfl] at h; exact h
          have hgd : ∀ (op : BinOp) (a b : Operand) (w : World), Sem.run Tryd.prog (eqGuard op 30 a b (.agg #[.int .u64 m1, .int .u64 m2, .int .u64 m3, .int .i64 m4]) (.agg #[.int .u64 m1, .int .u64 m2, .int .u64 m3, .int .i64 m4])) w = .ok () w := fun op a b w => guard_at op a b m1 m2 m3 m4 m1 m2 m3 m4 w
          go_wp2_with fail
          refine wp_region_noPanic ?_
          refine wp_region_held_drew (S := fun w' => w'.cell? ⟨b1, p1 + i * 4, none⟩ = some (.int .u64 m1) ∧ w'.cell? ⟨b1, p1 + i * 4 + 1, none⟩ = some (.int .u64 m2) ∧ w'.cell? ⟨b1, p1 + i * 4 + 2, none⟩ = some (.int .u64 m3) ∧ w'.cell? ⟨b1, p1 + i * 4 + 3, none⟩ = some (.int .i64 m4) ∧ w'.cell? ⟨b2, p2 + i * 4, none⟩ = some (.int .u64 m1) ∧ w'.cell? ⟨b2, p2 + i * 4 + 1, none⟩ = some (.int .u64 m2) ∧ w'.cell? ⟨b2, p2 + i * 4 + 2, none⟩ = some (.int .u64 m3) ∧ w'.cell? ⟨b2, p2 + i * 4 + 3, none⟩ = some (.int .i64 m4) ∧ w'.cell? ⟨b1, p1 + j * 4, none⟩ = some (.int .u64 n1) ∧ w'.cell? ⟨b1, p1 + j * 4 + 1, none⟩ = some (.int .u64 n2) ∧ w'.cell? ⟨b1, p1 + j * 4 + 2, none⟩ = some (.int .u64 n3) ∧ w'.cell? ⟨b1, p1 + j * 4 + 3, none⟩ = some (.int .i64 n4)) (by kernel_rfl) (by exact ⟨c0, c1, c2, c3, d0, d1, d2, d3, f0, f1, f2, f3⟩) (fun hHeld => ?_)
          replace bel := Bx.bel_drewn bel
          replace VA2 : Hid (Vs wr.drew (some ⟨b1, p1, none⟩) la) := VA2.out
          replace VB : Hid (Vs wr.drew (some ⟨b2, p2, none⟩) la) := VB.out
          replace X2 : Hid (Bx.Blk wr.drew w.heap.size (tenc ⟨q1, q2, q3, q4⟩)) := X2.out
          refine wpAnyH_take (i := 0) (oi := ?o0w2) (v := ?v0w2) ?hi0w2 (by kernel_rfl) (by kernel_rfl) (by kernel_rfl) (fun _ _ _ h => h) ?y0w2 (by assumption) ?r0w2
          case hi0w2 => (simp only [List.getElem?_toArray, List.getElem?_cons_zero]; rfl)
          case y0w2 => (refine Or.inl ⟨by rfl, ?_⟩; intro w' hSw; (try dsimp only at hSw); go_simp; (try with_reducible rfl))
          try simp only [Act.put, List.setIfInBounds_toArray, List.set_cons_zero, List.set_cons_succ]
          refine wpAnyH_take (i := 1) (oi := ?o1w2) (v := ?v1w2) ?hi1w2 (by kernel_rfl) (by kernel_rfl) (by kernel_rfl) (fun _ _ _ h => h) ?y1w2 (by assumption) ?r1w2
          case hi1w2 => (simp only [List.getElem?_toArray, List.getElem?_cons_succ, List.getElem?_cons_zero]; rfl)
          case y1w2 => (refine Or.inl ⟨by rfl, ?_⟩; intro w' hSw; (try dsimp only at hSw); go_simp; (try with_reducible rfl))
          try simp only [Act.put, List.setIfInBounds_toArray, List.set_cons_zero, List.set_cons_succ]
          refine wpAnyH_take (i := 2) (oi := ?o2w2) (v := ?v2w2) ?hi2w2 (by kernel_rfl) (by kernel_rfl) (by kernel_rfl) (fun _ _ _ h => h) ?y2w2 (by assumption) ?r2w2
          case hi2w2 => (simp only [List.getElem?_toArray, List.getElem?_cons_succ, List.getElem?_cons_zero]; rfl)
          case y2w2 => (refine Or.inl ⟨by rfl, ?_⟩; intro w' hSw; (try dsimp only at hSw); go_simp; (try with_reducible rfl))
          try simp only [Act.put, List.setIfInBounds_toArray, List.set_cons_zero, List.set_cons_succ]
          refine wpAnyH_take (i := 3) (oi := ?o3w2) (v := ?v3w2) ?hi3w2 (by kernel_rfl) (by kernel_rfl) (by kernel_rfl) (fun _ _ _ h => h) ?y3w2 (by assumption) ?r3w2
          case hi3w2 => (simp only [List.getElem?_toArray, List.getElem?_cons_succ, List.getElem?_cons_zero]; rfl)
          case y3w2 => (refine Or.inl ⟨by rfl, ?_⟩; intro w' hSw; (try dsimp only at hSw); go_simp; (try with_reducible rfl))
          try simp only [Act.put, List.setIfInBounds_toArray, List.set_cons_zero, List.set_cons_succ]
          refine wpAnyH_take (i := 4) (oi := ?o4w2) (v := ?v4w2) ?hi4w2 (by kernel_rfl) (by kernel_rfl) (by kernel_rfl) (fun _ _ _ h => h) ?y4w2 (by assumption) ?r4w2
          case hi4w2 => (simp only [List.getElem?_toArray, List.getElem?_cons_succ, List.getElem?_cons_zero]; rfl)
          case y4w2 => (refine Or.inl ⟨by rfl, ?_⟩; intro w' hSw; (try dsimp only at hSw); go_simp; (try with_reducible rfl))
          try simp only [Act.put, List.setIfInBounds_toArray, List.set_cons_zero, List.set_cons_succ]
          refine wpAnyH_take (i := 5) (oi := ?o5w2) (v := ?v5w2) ?hi5w2 (by kernel_rfl) (by kernel_rfl) (by kernel_rfl) (fun _ _ _ h => h) ?y5w2 (by assumption) ?r5w2
          case hi5w2 => (simp only [List.getElem?_toArray, List.getElem?_cons_succ, List.getElem?_cons_zero]; rfl)
          case y5w2 => (refine Or.inl ⟨by rfl, ?_⟩; intro w' hSw; (try dsimp only at hSw); go_simp; (try with_reducible rfl))
          try simp only [Act.put, List.setIfInBounds_toArray, List.set_cons_zero, List.set_cons_succ]
          refine wpAnyH_take (i := 6) (oi := ?o6w2) (v := ?v6w2) ?hi6w2 (by kernel_rfl) (by kernel_rfl) (by kernel_rfl) (fun _ _ _ h => h) ?y6w2 (by assumption) ?r6w2
          case hi6w2 => (simp only [List.getElem?_toArray, List.getElem?_cons_succ, List.getElem?_cons_zero]; rfl)
          case y6w2 => (refine Or.inl ⟨by rfl, ?_⟩; intro w' hSw; (try dsimp only at hSw); go_simp; (try with_reducible rfl))
          try simp only [Act.put, List.setIfInBounds_toArray, List.set_cons_zero, List.set_cons_succ]
          refine wpAnyH_take (i := 7) (oi := ?o7w2) (v := ?v7w2) ?hi7w2 (by kernel_rfl) (by kernel_rfl) (by kernel_rfl) (fun _ _ _ h => h) ?y7w2 (by assumption) ?r7w2
          case hi7w2 => (simp only [List.getElem?_toArray, List.getElem?_cons_succ, List.getElem?_cons_zero]; rfl)
          case y7w2 => (refine Or.inl ⟨by rfl, ?_⟩; intro w' hSw; (try dsimp only at hSw); go_simp; (try with_reducible rfl))
          try simp only [Act.put, List.setIfInBounds_toArray, List.set_cons_zero, List.set_cons_succ]
          refine wpAnyH_take (i := 8) (oi := ?o8w2) (v := ?v8w2) ?hi8w2 (by kernel_rfl) (by kernel_rfl) (by kernel_rfl) (fun _ _ _ h => h) ?y8w2 (by assumption) ?r8w2
          case hi8w2 => (simp only [List.getElem?_toArray, List.getElem?_cons_succ, List.getElem?_cons_zero]; rfl)
          case y8w2 => (refine Or.inl ⟨by rfl, ?_⟩; intro w' hSw; (try dsimp only at hSw); go_simp; (try with_reducible rfl))
          try simp only [Act.put, List.setIfInBounds_toArray, List.set_cons_zero, List.set_cons_succ]
          refine wpAnyH_take (i := 9) (oi := ?o9w2) (v := ?v9w2) ?hi9w2 (by kernel_rfl) (by kernel_rfl) (by kernel_rfl) (fun _ _ _ h => h) ?y9w2 (by assumption) ?r9w2
          case hi9w2 => (simp only [List.getElem?_toArray, List.getElem?_cons_succ, List.getElem?_cons_zero]; rfl)
          case y9w2 => (refine Or.inl ⟨by rfl, ?_⟩; intro w' hSw; (try dsimp only at hSw); go_simp; (try with_reducible rfl))
          try simp only [Act.put, List.setIfInBounds_toArray, List.set_cons_zero, List.set_cons_succ]
          refine wpAnyH_take (i := 10) (oi := ?o10w2) (v := ?v10w2) ?hi10w2 (by kernel_rfl) (by kernel_rfl) (by kernel_rfl) (fun _ _ _ h => h) ?y10w2 (by assumption) ?r10w2
          case hi10w2 => (simp only [List.getElem?_toArray, List.getElem?_cons_succ, List.getElem?_cons_zero]; rfl)
          case y10w2 => (refine Or.inl ⟨by rfl, ?_⟩; intro w' hSw; (try dsimp only at hSw); go_simp; (try with_reducible rfl))
          try simp only [Act.put, List.setIfInBounds_toArray, List.set_cons_zero, List.set_cons_succ]
          refine wpAnyH_take (i := 11) (oi := ?o11w2) (v := ?v11w2) ?hi11w2 (by kernel_rfl) (by kernel_rfl) (by kernel_rfl) (fun _ _ _ h => h) ?y11w2 (by assumption) ?r11w2
          case hi11w2 => (simp only [List.getElem?_toArray, List.getElem?_cons_succ, List.getElem?_cons_zero]; rfl)
          case y11w2 => (refine Or.inl ⟨by rfl, ?_⟩; intro w' hSw; (try dsimp only at hSw); go_simp; (try with_reducible rfl))
          try simp only [Act.put, List.setIfInBounds_toArray, List.set_cons_zero, List.set_cons_succ]
          refine wpAnyH_take (i := 12) (oi := ?o12w2) (v := ?v12w2) ?hi12w2 (by kernel_rfl) (by kernel_rfl) (by kernel_rfl) (fun _ _ _ h => h) ?y12w2 (by assumption) ?r12w2
          case hi12w2 => (simp only [List.getElem?_toArray, List.getElem?_cons_succ, List.getElem?_cons_zero]; rfl)
          case y12w2 => (refine Or.inl ⟨by rfl, ?_⟩; intro w' hSw; (try dsimp only at hSw); go_simp; (try with_reducible rfl))
          try simp only [Act.put, List.setIfInBounds_toArray, List.set_cons_zero, List.set_cons_succ]
          refine wpAnyH_take (i := 13) (oi := ?o13w2) (v := ?v13w2) ?hi13w2 (by kernel_rfl) (by kernel_rfl) (by kernel_rfl) (fun _ _ _ h => h) ?y13w2 (by assumption) ?r13w2
          case hi13w2 => (simp only [List.getElem?_toArray, List.getElem?_cons_succ, List.getElem?_cons_zero]; rfl)
          case y13w2 => (refine Or.inl ⟨by rfl, ?_⟩; intro w' hSw; (try dsimp only at hSw); go_simp; (try with_reducible rfl))
          try simp only [Act.put, List.setIfInBounds_toArray, List.set_cons_zero, List.set_cons_succ]
          refine wpAnyH_take (i := 15) (oi := ?o15w2) (v := ?v15w2) ?hi15w2 (by kernel_rfl) (by kernel_rfl) (by kernel_rfl) (fun _ _ _ h => h) ?y15w2 (by assumption) ?r15w2
          case hi15w2 => (simp only [List.getElem?_toArray, List.getElem?_cons_succ, List.getElem?_cons_zero]; rfl)
          case y15w2 => (refine Or.inl ⟨by rfl, ?_⟩; intro w' hSw; (try dsimp only at hSw); go_simp; (try with_reducible rfl))
          try simp only [Act.put, List.setIfInBounds_toArray, List.set_cons_zero, List.set_cons_succ]
          refine wpAnyH_take (i := 16) (oi := ?o16w2) (v := ?v16w2) ?hi16w2 (by kernel_rfl) (by kernel_rfl) (by kernel_rfl) (fun _ _ _ h => h) ?y16w2 (by assumption) ?r16w2
          case hi16w2 => (simp only [List.getElem?_toArray, List.getElem?_cons_succ, List.getElem?_cons_zero]; rfl)
          case y16w2 => (refine Or.inl ⟨by rfl, ?_⟩; intro w' hSw; (try dsimp only at hSw); go_simp; (try with_reducible rfl))
          try simp only [Act.put, List.setIfInBounds_toArray, List.set_cons_zero, List.set_cons_succ]
          refine wpAnyH_take (i := 17) (oi := ?o17w2) (v := ?v17w2) ?hi17w2 (by kernel_rfl) (by kernel_rfl) (by kernel_rfl) (fun _ _ _ h => h) ?y17w2 (by assumption) ?r17w2
          case hi17w2 => (simp only [List.getElem?_toArray, List.getElem?_cons_succ, List.getElem?_cons_zero]; rfl)
          case y17w2 => (refine Or.inl ⟨by rfl, ?_⟩; intro w' hSw; (try dsimp only at hSw); go_simp; (try with_reducible rfl))
          try simp only [Act.put, List.setIfInBounds_toArray, List.set_cons_zero, List.set_cons_succ]
          refine wpAnyH_take (i := 18) (oi := ?o18w2) (v := ?v18w2) ?hi18w2 (by kernel_rfl) (by kernel_rfl) (by kernel_rfl) (fun _ _ _ h => h) ?y18w2 (by assumption) ?r18w2
          case hi18w2 => (simp only [List.getElem?_toArray, List.getElem?_cons_succ, List.getElem?_cons_zero]; rfl)
          case y18w2 => (refine Or.inl ⟨by rfl, ?_⟩; intro w' hSw; (try dsimp only at hSw); go_simp; (try with_reducible rfl))
          try simp only [Act.put, List.setIfInBounds_toArray, List.set_cons_zero, List.set_cons_succ]
          refine wpAnyH_ready (rs := [14]) (by kernel_rfl) (by simp) ?_
          refine AllReadyH.cons (o := ?o14w2) ?hi14w2 ?hst14w2 AllReadyH.nil
          case hi14w2 => (simp only [List.getElem?_toArray, List.getElem?_cons_succ, List.getElem?_cons_zero]; rfl)
          intro K hK
          go_simp
          (go_at_call 9; (with_reducible refine (HT1.out _ bel).mono ?_); rintro e w21 ⟨rfl, hb21⟩)
          go_wp2_with fail
          refine hK.out _ _ ⟨Bx.keep_cell hb21 hHeld.1, Bx.keep_cell hb21 hHeld.2.1, Bx.keep_cell hb21 hHeld.2.2.1, Bx.keep_cell hb21 hHeld.2.2.2.1, Bx.keep_cell hb21 hHeld.2.2.2.2.1, Bx.keep_cell hb21 hHeld.2.2.2.2.2.1, Bx.keep_cell hb21 hHeld.2.2.2.2.2.2.1, Bx.keep_cell hb21 hHeld.2.2.2.2.2.2.2.1, Bx.keep_cell hb21 hHeld.2.2.2.2.2.2.2.2.1, Bx.keep_cell hb21 hHeld.2.2.2.2.2.2.2.2.2.1, Bx.keep_cell hb21 hHeld.2.2.2.2.2.2.2.2.2.2.1, Bx.keep_cell hb21 hHeld.2.2.2.2.2.2.2.2.2.2.2⟩ (fun hNew => ?_)
          clear hHeld
          have hHeld := hNew
          clear hNew hK K
          replace bel := Bx.then_below bel hb21
          replace VA2 := Lib.hid (VA2.out.below hb21)
          replace VB := Lib.hid (VB.out.below hb21)
          replace X2 := Lib.hid (X2.out.keep hb21)
          clear hb21
          refine wpAnyH_ready (rs := [19]) (by kernel_rfl) (by simp) ?_
          refine AllReadyH.cons (o := ?o19w2) ?hi19w2 ?hst19w2 AllReadyH.nil
          case hi19w2 => (simp only [List.getElem?_toArray, List.getElem?_cons_succ, List.getElem?_cons_zero]; rfl)
          intro K hK
          go_simp
          (go_at_call 10; (with_reducible refine (HT2.out _ bel).mono ?_); rintro e w22 ⟨rfl, hb22⟩)
          go_wp2_with fail
          refine hK.out _ _ ⟨Bx.keep_cell hb22 hHeld.1, Bx.keep_cell hb22 hHeld.2.1, Bx.keep_cell hb22 hHeld.2.2.1, Bx.keep_cell hb22 hHeld.2.2.2.1, Bx.keep_cell hb22 hHeld.2.2.2.2.1, Bx.keep_cell hb22 hHeld.2.2.2.2.2.1, Bx.keep_cell hb22 hHeld.2.2.2.2.2.2.1, Bx.keep_cell hb22 hHeld.2.2.2.2.2.2.2.1, Bx.keep_cell hb22 hHeld.2.2.2.2.2.2.2.2.1, Bx.keep_cell hb22 hHeld.2.2.2.2.2.2.2.2.2.1, Bx.keep_cell hb22 hHeld.2.2.2.2.2.2.2.2.2.2.1, Bx.keep_cell hb22 hHeld.2.2.2.2.2.2.2.2.2.2.2⟩ (fun hNew => ?_)
          clear hHeld
          have hHeld := hNew
          clear hNew hK K
          replace bel := Bx.then_below bel hb22
          replace VA2 := Lib.hid (VA2.out.below hb22)
          replace VB := Lib.hid (VB.out.below hb22)
          replace X2 := Lib.hid (X2.out.keep hb22)
          clear hb22
          refine wpAnyH_take (i := 20) (oi := ?o20w2) (v := ?v20w2) ?hi20w2 (by kernel_rfl) (by kernel_rfl) (by kernel_rfl) (fun _ _ _ h => h) ?y20w2 (by assumption) ?r20w2
          case hi20w2 => (simp only [List.getElem?_toArray, List.getElem?_cons_succ, List.getElem?_cons_zero]; rfl)
          case y20w2 => (refine Or.inl ⟨by rfl, ?_⟩; intro w' hSw; (try dsimp only at hSw); go_simp; (try with_reducible rfl))
          try simp only [Act.put, List.setIfInBounds_toArray, List.set_cons_zero, List.set_cons_succ]
          refine wpAnyH_take (i := 21) (oi := ?o21w2) (v := ?v21w2) ?hi21w2 (by kernel_rfl) (by kernel_rfl) (by kernel_rfl) (fun _ _ _ h => h) ?y21w2 (by assumption) ?r21w2
          case hi21w2 => (simp only [List.getElem?_toArray, List.getElem?_cons_succ, List.getElem?_cons_zero]; rfl)
          case y21w2 => (refine Or.inl ⟨by rfl, ?_⟩; intro w' hSw; (try dsimp only at hSw); go_simp; (try with_reducible rfl))
          try simp only [Act.put, List.setIfInBounds_toArray, List.set_cons_zero, List.set_cons_succ]
          refine wpAnyH_take (i := 22) (oi := ?o22w2) (v := ?v22w2) ?hi22w2 (by kernel_rfl) (by kernel_rfl) (by kernel_rfl) (fun _ _ _ h => h) ?y22w2 (by assumption) ?r22w2
          case hi22w2 => (simp only [List.getElem?_toArray, List.getElem?_cons_succ, List.getElem?_cons_zero]; rfl)
          case y22w2 => (refine Or.inl ⟨by rfl, ?_⟩; intro w' hSw; (try dsimp only at hSw); go_simp; (try with_reducible rfl))
          try simp only [Act.put, List.setIfInBounds_toArray, List.set_cons_zero, List.set_cons_succ]
          refine wpAnyH_take (i := 23) (oi := ?o23w2) (v := ?v23w2) ?hi23w2 (by kernel_rfl) (by kernel_rfl) (by kernel_rfl) (fun _ _ _ h => h) ?y23w2 (by assumption) ?r23w2
          case hi23w2 => (simp only [List.getElem?_toArray, List.getElem?_cons_succ, List.getElem?_cons_zero]; rfl)
          case y23w2 => (refine Or.inl ⟨by rfl, ?_⟩; intro w' hSw; (try dsimp only at hSw); go_simp; (try with_reducible rfl))
          try simp only [Act.put, List.setIfInBounds_toArray, List.set_cons_zero, List.set_cons_succ]
          refine wpAnyH_take (i := 24) (oi := ?o24w2) (v := ?v24w2) ?hi24w2 (by kernel_rfl) (by kernel_rfl) (by kernel_rfl) (fun _ _ _ h => h) ?y24w2 (by assumption) ?r24w2
          case hi24w2 => (simp only [List.getElem?_toArray, List.getElem?_cons_succ, List.getElem?_cons_zero]; rfl)
          case y24w2 => (refine Or.inl ⟨by rfl, ?_⟩; intro w' hSw; (try dsimp only at hSw); go_simp; (try with_reducible rfl))
          try simp only [Act.put, List.setIfInBounds_toArray, List.set_cons_zero, List.set_cons_succ]
          refine wpAnyH_take (i := 25) (oi := ?o25w2) (v := ?v25w2) ?hi25w2 (by kernel_rfl) (by kernel_rfl) (by kernel_rfl) (fun _ _ _ h => h) ?y25w2 (by assumption) ?r25w2
          case hi25w2 => (simp only [List.getElem?_toArray, List.getElem?_cons_succ, List.getElem?_cons_zero]; rfl)
          case y25w2 => (refine Or.inl ⟨by rfl, ?_⟩; intro w' hSw; (try dsimp only at hSw); go_simp; (try with_reducible rfl))
          try simp only [Act.put, List.setIfInBounds_toArray, List.set_cons_zero, List.set_cons_succ]
          refine wpAnyH_take (i := 26) (oi := ?o26w2) (v := ?v26w2) ?hi26w2 (by kernel_rfl) (by kernel_rfl) (by kernel_rfl) (fun _ _ _ h => h) ?y26w2 (by assumption) ?r26w2
          case hi26w2 => (simp only [List.getElem?_toArray, List.getElem?_cons_succ, List.getElem?_cons_zero]; rfl)
          case y26w2 => (refine Or.inl ⟨by rfl, ?_⟩; intro w' hSw; (try dsimp only at hSw); go_simp; (try with_reducible rfl))
          try simp only [Act.put, List.setIfInBounds_toArray, List.set_cons_zero, List.set_cons_succ]
          refine wpAnyH_take (i := 27) (oi := ?o27w2) (v := ?v27w2) ?hi27w2 (by kernel_rfl) (by kernel_rfl) (by kernel_rfl) (fun _ _ _ h => h) ?y27w2 (by assumption) ?r27w2
          case hi27w2 => (simp only [List.getElem?_toArray, List.getElem?_cons_succ, List.getElem?_cons_zero]; rfl)
          case y27w2 => (refine Or.inl ⟨by rfl, ?_⟩; intro w' hSw; (try dsimp only at hSw); go_simp; (try with_reducible rfl))
          try simp only [Act.put, List.setIfInBounds_toArray, List.set_cons_zero, List.set_cons_succ]
          refine wpAnyH_take (i := 28) (oi := ?o28w2) (v := ?v28w2) ?hi28w2 (by kernel_rfl) (by kernel_rfl) (by kernel_rfl) (fun _ _ _ h => h) ?y28w2 (by assumption) ?r28w2
          case hi28w2 => (simp only [List.getElem?_toArray, List.getElem?_cons_succ, List.getElem?_cons_zero]; rfl)
          case y28w2 => (refine Or.inl ⟨by rfl, ?_⟩; intro w' hSw; (try dsimp only at hSw); go_simp; (try with_reducible rfl))
          try simp only [Act.put, List.setIfInBounds_toArray, List.set_cons_zero, List.set_cons_succ]
          refine wpAnyH_take (i := 29) (oi := ?o29w2) (v := ?v29w2) ?hi29w2 (by kernel_rfl) (by kernel_rfl) (by kernel_rfl) (fun _ _ _ h => h) ?y29w2 (by assumption) ?r29w2
          case hi29w2 => (simp only [List.getElem?_toArray, List.getElem?_cons_succ, List.getElem?_cons_zero]; rfl)
          case y29w2 => (refine Or.inl ⟨by rfl, ?_⟩; intro w' hSw; (try dsimp only at hSw); go_simp; (try with_reducible rfl))
          try simp only [Act.put, List.setIfInBounds_toArray, List.set_cons_zero, List.set_cons_succ]
          refine wpAnyH_take (i := 30) (oi := ?o30w2) (v := ?v30w2) ?hi30w2 (by kernel_rfl) (by kernel_rfl) (by kernel_rfl) (fun _ _ _ h => h) ?y30w2 (by assumption) ?r30w2
          case hi30w2 => (simp only [List.getElem?_toArray, List.getElem?_cons_succ, List.getElem?_cons_zero]; rfl)
          case y30w2 => (refine Or.inl ⟨by rfl, ?_⟩; intro w' hSw; (try dsimp only at hSw); go_simp; (try with_reducible rfl))
          try simp only [Act.put, List.setIfInBounds_toArray, List.set_cons_zero, List.set_cons_succ]
          refine wpAnyH_take (i := 31) (oi := ?o31w2) (v := ?v31w2) ?hi31w2 (by kernel_rfl) (by kernel_rfl) (by kernel_rfl) (fun _ _ _ h => h) ?y31w2 (by assumption) ?r31w2
          case hi31w2 => (simp only [List.getElem?_toArray, List.getElem?_cons_succ, List.getElem?_cons_zero]; rfl)
          case y31w2 => (refine Or.inl ⟨by rfl, ?_⟩; intro w' hSw; (try dsimp only at hSw); go_simp; (try with_reducible rfl))
          try simp only [Act.put, List.setIfInBounds_toArray, List.set_cons_zero, List.set_cons_succ]
          refine wpAnyH_take (i := 32) (oi := ?o32w2) (v := ?v32w2) ?hi32w2 (by kernel_rfl) (by kernel_rfl) (by kernel_rfl) (fun _ _ _ h => h) ?y32w2 (by assumption) ?r32w2
          case hi32w2 => (simp only [List.getElem?_toArray, List.getElem?_cons_succ, List.getElem?_cons_zero]; rfl)
          case y32w2 => (refine Or.inl ⟨by rfl, ?_⟩; intro w' hSw; (try dsimp only at hSw); go_simp; (try with_reducible rfl))
          try simp only [Act.put, List.setIfInBounds_toArray, List.set_cons_zero, List.set_cons_succ]
          refine wpAnyH_take (i := 33) (oi := ?o33w2) (v := ?v33w2) ?hi33w2 (by kernel_rfl) (by kernel_rfl) (by kernel_rfl) (fun _ _ _ h => h) ?y33w2 (by assumption) ?r33w2
          case hi33w2 => (simp only [List.getElem?_toArray, List.getElem?_cons_succ, List.getElem?_cons_zero]; rfl)
          case y33w2 => (refine Or.inl ⟨by rfl, ?_⟩; intro w' hSw; (try dsimp only at hSw); go_simp; (try with_reducible rfl))
          try simp only [Act.put, List.setIfInBounds_toArray, List.set_cons_zero, List.set_cons_succ]
          refine wpAnyH_take (i := 34) (oi := ?o34w2) (v := ?v34w2) ?hi34w2 (by kernel_rfl) (by kernel_rfl) (by kernel_rfl) (fun _ _ _ h => h) ?y34w2 (by assumption) ?r34w2
          case hi34w2 => (simp only [List.getElem?_toArray, List.getElem?_cons_succ, List.getElem?_cons_zero]; rfl)
          case y34w2 => (refine Or.inl ⟨by rfl, ?_⟩; intro w' hSw; (try dsimp only at hSw); go_simp; (try with_reducible rfl))
          try simp only [Act.put, List.setIfInBounds_toArray, List.set_cons_zero, List.set_cons_succ]
          refine wpAnyH_ready (rs := [35]) (by kernel_rfl) (by simp) ?_
          refine AllReadyH.cons (o := ?o35w2) ?hi35w2 ?hst35w2 AllReadyH.nil
          case hi35w2 => (simp only [List.getElem?_toArray, List.getElem?_cons_succ, List.getElem?_cons_zero]; rfl)
          intro K hK
          go_simp
          (go_at_call 11; (with_reducible refine (HBT.out _).mono ?_); rintro e w23 ⟨rfl, hb23⟩)
          go_wp2_with fail
          refine hK.out _ _ ⟨Bx.keep_cell hb23 hHeld.1, Bx.keep_cell hb23 hHeld.2.1, Bx.keep_cell hb23 hHeld.2.2.1, Bx.keep_cell hb23 hHeld.2.2.2.1, Bx.keep_cell hb23 hHeld.2.2.2.2.1, Bx.keep_cell hb23 hHeld.2.2.2.2.2.1, Bx.keep_cell hb23 hHeld.2.2.2.2.2.2.1, Bx.keep_cell hb23 hHeld.2.2.2.2.2.2.2.1, Bx.keep_cell hb23 hHeld.2.2.2.2.2.2.2.2.1, Bx.keep_cell hb23 hHeld.2.2.2.2.2.2.2.2.2.1, Bx.keep_cell hb23 hHeld.2.2.2.2.2.2.2.2.2.2.1, Bx.keep_cell hb23 hHeld.2.2.2.2.2.2.2.2.2.2.2⟩ (fun hNew => ?_)
          clear hHeld
          have hHeld := hNew
          clear hNew hK K
          replace bel := Bx.then_below bel hb23
          replace VA2 := Lib.hid (VA2.out.below hb23)
          replace VB := Lib.hid (VB.out.below hb23)
          replace X2 := Lib.hid (X2.out.keep hb23)
          clear hb23
          refine wpAnyH_take (i := 36) (oi := ?o36w2) (v := ?v36w2) ?hi36w2 (by kernel_rfl) (by kernel_rfl) (by kernel_rfl) (fun _ _ _ h => h) ?y36w2 (by assumption) ?r36w2
          case hi36w2 => (simp only [List.getElem?_toArray, List.getElem?_cons_succ, List.getElem?_cons_zero]; rfl)
          case y36w2 => (refine Or.inl ⟨by rfl, ?_⟩; intro w' hSw; (try dsimp only at hSw); go_simp; (try with_reducible rfl))
          try simp only [Act.put, List.setIfInBounds_toArray, List.set_cons_zero, List.set_cons_succ]
          refine wpAnyH_take (i := 37) (oi := ?o37w2) (v := ?v37w2) ?hi37w2 (by kernel_rfl) (by kernel_rfl) (by kernel_rfl) (fun _ _ _ h => h) ?y37w2 (by assumption) ?r37w2
          case hi37w2 => (simp only [List.getElem?_toArray, List.getElem?_cons_succ, List.getElem?_cons_zero]; rfl)
          case y37w2 => (refine Or.inl ⟨by rfl, ?_⟩; intro w' hSw; (try dsimp only at hSw); go_simp; (try with_reducible rfl))
          try simp only [Act.put, List.setIfInBounds_toArray, List.set_cons_zero, List.set_cons_succ]
          refine wpAnyH_done (by kernel_rfl) ?_ _
          refine NoPanic.normal ?_
          clear hHeld
          have B3 := Lib.hid bel
          clear bel
          go_wp2_with fail
          go_roundw
          case rel => exact ⟨i + 1, by omega, by go_num, B3.out, VA2.out, VB.out, X2.out⟩
          case measure => simp [intOf]; omega
        · have k3 : ¬ (0 : Int) < (i : Int) := by omega
          have k8 : decide ((0 : Int) < (i : Int)) = false := decide_eq_false k3
          have k9 : decide (0 < i) = false := decide_eq_false h0
          generalize la[i] = y at *
          obtain ⟨m1, m2, m3, m4⟩ := y
          simp only at c0 c1 c2 c3 d0 d1 d2 d3
          have hne : ∀ w, (binOp .neq 30 (.agg #[.int .u64 m1, .int .u64 m2, .int .u64 m3, .int .i64 m4]) (.agg #[.int .u64 m1, .int .u64 m2, .int .u64 m3, .int .i64 m4])).run Tryd.prog w = .ok (.bool false) w := fun w => by have h := neq_at m1 m2 m3 m4 m1 m2 m3 m4 w; rw [decide_eq_true rfl] at h; exact h
          have hgd : ∀ (op : BinOp) (a b : Operand) (w : World), Sem.run Tryd.prog (eqGuard op 30 a b (.agg #[.int .u64 m1, .int .u64 m2, .int .u64 m3, .int .i64 m4]) (.agg #[.int .u64 m1, .int .u64 m2, .int .u64 m3, .int .i64 m4])) w = .ok () w := fun op a b w => guard_at op a b m1 m2 m3 m4 m1 m2 m3 m4 w
          go_wp2_with fail
          refine wp_region_noPanic ?_
          refine wp_region_held_drew (S := fun w' => w'.cell? ⟨b1, p1 + i * 4, none⟩ = some (.int .u64 m1) ∧ w'.cell? ⟨b1, p1 + i * 4 + 1, none⟩ = some (.int .u64 m2) ∧ w'.cell? ⟨b1, p1 + i * 4 + 2, none⟩ = some (.int .u64 m3) ∧ w'.cell? ⟨b1, p1 + i * 4 + 3, none⟩ = some (.int .i64 m4) ∧ w'.cell? ⟨b2, p2 + i * 4, none⟩ = some (.int .u64 m1) ∧ w'.cell? ⟨b2, p2 + i * 4 + 1, none⟩ = some (.int .u64 m2) ∧ w'.cell? ⟨b2, p2 + i * 4 + 2, none⟩ = some (.int .u64 m3) ∧ w'.cell? ⟨b2, p2 + i * 4 + 3, none⟩ = some (.int .i64 m4)) (by kernel_rfl) (by exact ⟨c0, c1, c2, c3, d0, d1, d2, d3⟩) (fun hHeld => ?_)
          replace bel := Bx.bel_drewn bel
          replace VA2 : Hid (Vs wr.drew (some ⟨b1, p1, none⟩) la) := VA2.out
          replace VB : Hid (Vs wr.drew (some ⟨b2, p2, none⟩) la) := VB.out
          replace X2 : Hid (Bx.Blk wr.drew w.heap.size (tenc ⟨q1, q2, q3, q4⟩)) := X2.out
          refine wpAnyH_take (i := 0) (oi := ?o0w3) (v := ?v0w3) ?hi0w3 (by kernel_rfl) (by kernel_rfl) (by kernel_rfl) (fun _ _ _ h => h) ?y0w3 (by assumption) ?r0w3
          case hi0w3 => (simp only [List.getElem?_toArray, List.getElem?_cons_zero]; rfl)
          case y0w3 => (refine Or.inl ⟨by rfl, ?_⟩; intro w' hSw; (try dsimp only at hSw); go_simp; (try with_reducible rfl))
          try simp only [Act.put, List.setIfInBounds_toArray, List.set_cons_zero, List.set_cons_succ]
          refine wpAnyH_take (i := 1) (oi := ?o1w3) (v := ?v1w3) ?hi1w3 (by kernel_rfl) (by kernel_rfl) (by kernel_rfl) (fun _ _ _ h => h) ?y1w3 (by assumption) ?r1w3
          case hi1w3 => (simp only [List.getElem?_toArray, List.getElem?_cons_succ, List.getElem?_cons_zero]; rfl)
          case y1w3 => (refine Or.inl ⟨by rfl, ?_⟩; intro w' hSw; (try dsimp only at hSw); go_simp; (try with_reducible rfl))
          try simp only [Act.put, List.setIfInBounds_toArray, List.set_cons_zero, List.set_cons_succ]
          refine wpAnyH_take (i := 2) (oi := ?o2w3) (v := ?v2w3) ?hi2w3 (by kernel_rfl) (by kernel_rfl) (by kernel_rfl) (fun _ _ _ h => h) ?y2w3 (by assumption) ?r2w3
          case hi2w3 => (simp only [List.getElem?_toArray, List.getElem?_cons_succ, List.getElem?_cons_zero]; rfl)
          case y2w3 => (refine Or.inl ⟨by rfl, ?_⟩; intro w' hSw; (try dsimp only at hSw); go_simp; (try with_reducible rfl))
          try simp only [Act.put, List.setIfInBounds_toArray, List.set_cons_zero, List.set_cons_succ]
          refine wpAnyH_take (i := 3) (oi := ?o3w3) (v := ?v3w3) ?hi3w3 (by kernel_rfl) (by kernel_rfl) (by kernel_rfl) (fun _ _ _ h => h) ?y3w3 (by assumption) ?r3w3
          case hi3w3 => (simp only [List.getElem?_toArray, List.getElem?_cons_succ, List.getElem?_cons_zero]; rfl)
          case y3w3 => (refine Or.inl ⟨by rfl, ?_⟩; intro w' hSw; (try dsimp only at hSw); go_simp; (try with_reducible rfl))
          try simp only [Act.put, List.setIfInBounds_toArray, List.set_cons_zero, List.set_cons_succ]
          refine wpAnyH_take (i := 4) (oi := ?o4w3) (v := ?v4w3) ?hi4w3 (by kernel_rfl) (by kernel_rfl) (by kernel_rfl) (fun _ _ _ h => h) ?y4w3 (by assumption) ?r4w3
          case hi4w3 => (simp only [List.getElem?_toArray, List.getElem?_cons_succ, List.getElem?_cons_zero]; rfl)
          case y4w3 => (refine Or.inl ⟨by rfl, ?_⟩; intro w' hSw; (try dsimp only at hSw); go_simp; (try with_reducible rfl))
          try simp only [Act.put, List.setIfInBounds_toArray, List.set_cons_zero, List.set_cons_succ]
          refine wpAnyH_take (i := 5) (oi := ?o5w3) (v := ?v5w3) ?hi5w3 (by kernel_rfl) (by kernel_rfl) (by kernel_rfl) (fun _ _ _ h => h) ?y5w3 (by assumption) ?r5w3
          case hi5w3 => (simp only [List.getElem?_toArray, List.getElem?_cons_succ, List.getElem?_cons_zero]; rfl)
          case y5w3 => (refine Or.inl ⟨by rfl, ?_⟩; intro w' hSw; (try dsimp only at hSw); go_simp; (try with_reducible rfl))
          try simp only [Act.put, List.setIfInBounds_toArray, List.set_cons_zero, List.set_cons_succ]
          refine wpAnyH_take (i := 6) (oi := ?o6w3) (v := ?v6w3) ?hi6w3 (by kernel_rfl) (by kernel_rfl) (by kernel_rfl) (fun _ _ _ h => h) ?y6w3 (by assumption) ?r6w3
          case hi6w3 => (simp only [List.getElem?_toArray, List.getElem?_cons_succ, List.getElem?_cons_zero]; rfl)
          case y6w3 => (refine Or.inl ⟨by rfl, ?_⟩; intro w' hSw; (try dsimp only at hSw); go_simp; (try with_reducible rfl))
          try simp only [Act.put, List.setIfInBounds_toArray, List.set_cons_zero, List.set_cons_succ]
          refine wpAnyH_take (i := 7) (oi := ?o7w3) (v := ?v7w3) ?hi7w3 (by kernel_rfl) (by kernel_rfl) (by kernel_rfl) (fun _ _ _ h => h) ?y7w3 (by assumption) ?r7w3
          case hi7w3 => (simp only [List.getElem?_toArray, List.getElem?_cons_succ, List.getElem?_cons_zero]; rfl)
          case y7w3 => (refine Or.inl ⟨by rfl, ?_⟩; intro w' hSw; (try dsimp only at hSw); go_simp; (try with_reducible rfl))
          try simp only [Act.put, List.setIfInBounds_toArray, List.set_cons_zero, List.set_cons_succ]
          refine wpAnyH_take (i := 8) (oi := ?o8w3) (v := ?v8w3) ?hi8w3 (by kernel_rfl) (by kernel_rfl) (by kernel_rfl) (fun _ _ _ h => h) ?y8w3 (by assumption) ?r8w3
          case hi8w3 => (simp only [List.getElem?_toArray, List.getElem?_cons_succ, List.getElem?_cons_zero]; rfl)
          case y8w3 => (refine Or.inl ⟨by rfl, ?_⟩; intro w' hSw; (try dsimp only at hSw); go_simp; (try with_reducible rfl))
          try simp only [Act.put, List.setIfInBounds_toArray, List.set_cons_zero, List.set_cons_succ]
          refine wpAnyH_take (i := 9) (oi := ?o9w3) (v := ?v9w3) ?hi9w3 (by kernel_rfl) (by kernel_rfl) (by kernel_rfl) (fun _ _ _ h => h) ?y9w3 (by assumption) ?r9w3
          case hi9w3 => (simp only [List.getElem?_toArray, List.getElem?_cons_succ, List.getElem?_cons_zero]; rfl)
          case y9w3 => (refine Or.inl ⟨by rfl, ?_⟩; intro w' hSw; (try dsimp only at hSw); go_simp; (try with_reducible rfl))
          try simp only [Act.put, List.setIfInBounds_toArray, List.set_cons_zero, List.set_cons_succ]
          refine wpAnyH_take (i := 10) (oi := ?o10w3) (v := ?v10w3) ?hi10w3 (by kernel_rfl) (by kernel_rfl) (by kernel_rfl) (fun _ _ _ h => h) ?y10w3 (by assumption) ?r10w3
          case hi10w3 => (simp only [List.getElem?_toArray, List.getElem?_cons_succ, List.getElem?_cons_zero]; rfl)
          case y10w3 => (refine Or.inl ⟨by rfl, ?_⟩; intro w' hSw; (try dsimp only at hSw); go_simp; (try with_reducible rfl))
          try simp only [Act.put, List.setIfInBounds_toArray, List.set_cons_zero, List.set_cons_succ]
          refine wpAnyH_take (i := 11) (oi := ?o11w3) (v := ?v11w3) ?hi11w3 (by kernel_rfl) (by kernel_rfl) (by kernel_rfl) (fun _ _ _ h => h) ?y11w3 (by assumption) ?r11w3
          case hi11w3 => (simp only [List.getElem?_toArray, List.getElem?_cons_succ, List.getElem?_cons_zero]; rfl)
          case y11w3 => (refine Or.inl ⟨by rfl, ?_⟩; intro w' hSw; (try dsimp only at hSw); go_simp; (try with_reducible rfl))
          try simp only [Act.put, List.setIfInBounds_toArray, List.set_cons_zero, List.set_cons_succ]
          refine wpAnyH_take (i := 12) (oi := ?o12w3) (v := ?v12w3) ?hi12w3 (by kernel_rfl) (by kernel_rfl) (by kernel_rfl) (fun _ _ _ h => h) ?y12w3 (by assumption) ?r12w3
          case hi12w3 => (simp only [List.getElem?_toArray, List.getElem?_cons_succ, List.getElem?_cons_zero]; rfl)
          case y12w3 => (refine Or.inl ⟨by rfl, ?_⟩; intro w' hSw; (try dsimp only at hSw); go_simp; (try with_reducible rfl))
          try simp only [Act.put, List.setIfInBounds_toArray, List.set_cons_zero, List.set_cons_succ]
          refine wpAnyH_take (i := 13) (oi := ?o13w3) (v := ?v13w3) ?hi13w3 (by kernel_rfl) (by kernel_rfl) (by kernel_rfl) (fun _ _ _ h => h) ?y13w3 (by assumption) ?r13w3
          case hi13w3 => (simp only [List.getElem?_toArray, List.getElem?_cons_succ, List.getElem?_cons_zero]; rfl)
          case y13w3 => (refine Or.inl ⟨by rfl, ?_⟩; intro w' hSw; (try dsimp only at hSw); go_simp; (try with_reducible rfl))
          try simp only [Act.put, List.setIfInBounds_toArray, List.set_cons_zero, List.set_cons_succ]
          refine wpAnyH_take (i := 15) (oi := ?o15w3) (v := ?v15w3) ?hi15w3 (by kernel_rfl) (by kernel_rfl) (by kernel_rfl) (fun _ _ _ h => h) ?y15w3 (by assumption) ?r15w3
          case hi15w3 => (simp only [List.getElem?_toArray, List.getElem?_cons_succ, List.getElem?_cons_zero]; rfl)
          case y15w3 => (refine Or.inl ⟨by rfl, ?_⟩; intro w' hSw; (try dsimp only at hSw); go_simp; (try with_reducible rfl))
          try simp only [Act.put, List.setIfInBounds_toArray, List.set_cons_zero, List.set_cons_succ]
          refine wpAnyH_take (i := 16) (oi := ?o16w3) (v := ?v16w3) ?hi16w3 (by kernel_rfl) (by kernel_rfl) (by kernel_rfl) (fun _ _ _ h => h) ?y16w3 (by assumption) ?r16w3
          case hi16w3 => (simp only [List.getElem?_toArray, List.getElem?_cons_succ, List.getElem?_cons_zero]; rfl)
          case y16w3 => (refine Or.inl ⟨by rfl, ?_⟩; intro w' hSw; (try dsimp only at hSw); go_simp; (try with_reducible rfl))
          try simp only [Act.put, List.setIfInBounds_toArray, List.set_cons_zero, List.set_cons_succ]
          refine wpAnyH_take (i := 17) (oi := ?o17w3) (v := ?v17w3) ?hi17w3 (by kernel_rfl) (by kernel_rfl) (by kernel_rfl) (fun _ _ _ h => h) ?y17w3 (by assumption) ?r17w3
          case hi17w3 => (simp only [List.getElem?_toArray, List.getElem?_cons_succ, List.getElem?_cons_zero]; rfl)
          case y17w3 => (refine Or.inl ⟨by rfl, ?_⟩; intro w' hSw; (try dsimp only at hSw); go_simp; (try with_reducible rfl))
          try simp only [Act.put, List.setIfInBounds_toArray, List.set_cons_zero, List.set_cons_succ]
          refine wpAnyH_take (i := 18) (oi := ?o18w3) (v := ?v18w3) ?hi18w3 (by kernel_rfl) (by kernel_rfl) (by kernel_rfl) (fun _ _ _ h => h) ?y18w3 (by assumption) ?r18w3
          case hi18w3 => (simp only [List.getElem?_toArray, List.getElem?_cons_succ, List.getElem?_cons_zero]; rfl)
          case y18w3 => (refine Or.inl ⟨by rfl, ?_⟩; intro w' hSw; (try dsimp only at hSw); go_simp; (try with_reducible rfl))
          try simp only [Act.put, List.setIfInBounds_toArray, List.set_cons_zero, List.set_cons_succ]
          refine wpAnyH_ready (rs := [14]) (by kernel_rfl) (by simp) ?_
          refine AllReadyH.cons (o := ?o14w3) ?hi14w3 ?hst14w3 AllReadyH.nil
          case hi14w3 => (simp only [List.getElem?_toArray, List.getElem?_cons_succ, List.getElem?_cons_zero]; rfl)
          intro K hK
          go_simp
          (go_at_call 9; (with_reducible refine (HT1.out _ bel).mono ?_); rintro e w31 ⟨rfl, hb31⟩)
          go_wp2_with fail
          refine hK.out _ _ ⟨Bx.keep_cell hb31 hHeld.1, Bx.keep_cell hb31 hHeld.2.1, Bx.keep_cell hb31 hHeld.2.2.1, Bx.keep_cell hb31 hHeld.2.2.2.1, Bx.keep_cell hb31 hHeld.2.2.2.2.1, Bx.keep_cell hb31 hHeld.2.2.2.2.2.1, Bx.keep_cell hb31 hHeld.2.2.2.2.2.2.1, Bx.keep_cell hb31 hHeld.2.2.2.2.2.2.2⟩ (fun hNew => ?_)
          clear hHeld
          have hHeld := hNew
          clear hNew hK K
          replace bel := Bx.then_below bel hb31
          replace VA2 := Lib.hid (VA2.out.below hb31)
          replace VB := Lib.hid (VB.out.below hb31)
          replace X2 := Lib.hid (X2.out.keep hb31)
          clear hb31
          refine wpAnyH_ready (rs := [19]) (by kernel_rfl) (by simp) ?_
          refine AllReadyH.cons (o := ?o19w3) ?hi19w3 ?hst19w3 AllReadyH.nil
          case hi19w3 => (simp only [List.getElem?_toArray, List.getElem?_cons_succ, List.getElem?_cons_zero]; rfl)
          intro K hK
          go_simp
          (go_at_call 10; (with_reducible refine (HT2.out _ bel).mono ?_); rintro e w32 ⟨rfl, hb32⟩)
          go_wp2_with fail
          refine hK.out _ _ ⟨Bx.keep_cell hb32 hHeld.1, Bx.keep_cell hb32 hHeld.2.1, Bx.keep_cell hb32 hHeld.2.2.1, Bx.keep_cell hb32 hHeld.2.2.2.1, Bx.keep_cell hb32 hHeld.2.2.2.2.1, Bx.keep_cell hb32 hHeld.2.2.2.2.2.1, Bx.keep_cell hb32 hHeld.2.2.2.2.2.2.1, Bx.keep_cell hb32 hHeld.2.2.2.2.2.2.2⟩ (fun hNew => ?_)
          clear hHeld
          have hHeld := hNew
          clear hNew hK K
          replace bel := Bx.then_below bel hb32
          replace VA2 := Lib.hid (VA2.out.below hb32)
          replace VB := Lib.hid (VB.out.below hb32)
          replace X2 := Lib.hid (X2.out.keep hb32)
          clear hb32
          refine wpAnyH_take (i := 20) (oi := ?o20w3) (v := ?v20w3) ?hi20w3 (by kernel_rfl) (by kernel_rfl) (by kernel_rfl) (fun _ _ _ h => h) ?y20w3 (by assumption) ?r20w3
          case hi20w3 => (simp only [List.getElem?_toArray, List.getElem?_cons_succ, List.getElem?_cons_zero]; rfl)
          case y20w3 => (refine Or.inl ⟨by rfl, ?_⟩; intro w' hSw; (try dsimp only at hSw); go_simp; (try with_reducible rfl))
          try simp only [Act.put, List.setIfInBounds_toArray, List.set_cons_zero, List.set_cons_succ]
          refine wpAnyH_take (i := 21) (oi := ?o21w3) (v := ?v21w3) ?hi21w3 (by kernel_rfl) (by kernel_rfl) (by kernel_rfl) (fun _ _ _ h => h) ?y21w3 (by assumption) ?r21w3
          case hi21w3 => (simp only [List.getElem?_toArray, List.getElem?_cons_succ, List.getElem?_cons_zero]; rfl)
          case y21w3 => (refine Or.inl ⟨by rfl, ?_⟩; intro w' hSw; (try dsimp only at hSw); go_simp; (try with_reducible rfl))
          try simp only [Act.put, List.setIfInBounds_toArray, List.set_cons_zero, List.set_cons_succ]
          refine wpAnyH_take (i := 22) (oi := ?o22w3) (v := ?v22w3) ?hi22w3 (by kernel_rfl) (by kernel_rfl) (by kernel_rfl) (fun _ _ _ h => h) ?y22w3 (by assumption) ?r22w3
          case hi22w3 => (simp only [List.getElem?_toArray, List.getElem?_cons_succ, List.getElem?_cons_zero]; rfl)
          case y22w3 => (refine Or.inl ⟨by rfl, ?_⟩; intro w' hSw; (try dsimp only at hSw); go_simp; (try with_reducible rfl))
          try simp only [Act.put, List.setIfInBounds_toArray, List.set_cons_zero, List.set_cons_succ]
          refine wpAnyH_take (i := 23) (oi := ?o23w3) (v := ?v23w3) ?hi23w3 (by kernel_rfl) (by kernel_rfl) (by kernel_rfl) (fun _ _ _ h => h) ?y23w3 (by assumption) ?r23w3
          case hi23w3 => (simp only [List.getElem?_toArray, List.getElem?_cons_succ, List.getElem?_cons_zero]; rfl)
          case y23w3 => (refine Or.inl ⟨by rfl, ?_⟩; intro w' hSw; (try dsimp only at hSw); go_simp; (try with_reducible rfl))
          try simp only [Act.put, List.setIfInBounds_toArray, List.set_cons_zero, List.set_cons_succ]
          refine wpAnyH_take (i := 24) (oi := ?o24w3) (v := ?v24w3) ?hi24w3 (by kernel_rfl) (by kernel_rfl) (by kernel_rfl) (fun _ _ _ h => h) ?y24w3 (by assumption) ?r24w3
          case hi24w3 => (simp only [List.getElem?_toArray, List.getElem?_cons_succ, List.getElem?_cons_zero]; rfl)
          case y24w3 => (refine Or.inl ⟨by rfl, ?_⟩; intro w' hSw; (try dsimp only at hSw); go_simp; (try with_reducible rfl))
          try simp only [Act.put, List.setIfInBounds_toArray, List.set_cons_zero, List.set_cons_succ]
          refine wpAnyH_take (i := 25) (oi := ?o25w3) (v := ?v25w3) ?hi25w3 (by kernel_rfl) (by kernel_rfl) (by kernel_rfl) (fun _ _ _ h => h) ?y25w3 (by assumption) ?r25w3
          case hi25w3 => (simp only [List.getElem?_toArray, List.getElem?_cons_succ, List.getElem?_cons_zero]; rfl)
          case y25w3 => (refine Or.inl ⟨by rfl, ?_⟩; intro w' hSw; (try dsimp only at hSw); go_simp; (try with_reducible rfl))
          try simp only [Act.put, List.setIfInBounds_toArray, List.set_cons_zero, List.set_cons_succ]
          refine wpAnyH_take (i := 26) (oi := ?o26w3) (v := undef) ?hi26w3 (by kernel_rfl) (by kernel_rfl) (by kernel_rfl) (fun _ _ _ h => h) ?y26w3 (by assumption) ?r26w3
          case hi26w3 => (simp only [List.getElem?_toArray, List.getElem?_cons_succ, List.getElem?_cons_zero]; rfl)
          case y26w3 => exact Or.inr ⟨by rfl, rfl⟩
          try simp only [Act.put, List.setIfInBounds_toArray, List.set_cons_zero, List.set_cons_succ]
          refine wpAnyH_take (i := 27) (oi := ?o27w3) (v := undef) ?hi27w3 (by kernel_rfl) (by kernel_rfl) (by kernel_rfl) (fun _ _ _ h => h) ?y27w3 (by assumption) ?r27w3
          case hi27w3 => (simp only [List.getElem?_toArray, List.getElem?_cons_succ, List.getElem?_cons_zero]; rfl)
          case y27w3 => exact Or.inr ⟨by rfl, rfl⟩
          try simp only [Act.put, List.setIfInBounds_toArray, List.set_cons_zero, List.set_cons_succ]
          refine wpAnyH_take (i := 28) (oi := ?o28w3) (v := undef) ?hi28w3 (by kernel_rfl) (by kernel_rfl) (by kernel_rfl) (fun _ _ _ h => h) ?y28w3 (by assumption) ?r28w3
          case hi28w3 => (simp only [List.getElem?_toArray, List.getElem?_cons_succ, List.getElem?_cons_zero]; rfl)
          case y28w3 => exact Or.inr ⟨by rfl, rfl⟩
          try simp only [Act.put, List.setIfInBounds_toArray, List.set_cons_zero, List.set_cons_succ]
          refine wpAnyH_take (i := 29) (oi := ?o29w3) (v := undef) ?hi29w3 (by kernel_rfl) (by kernel_rfl) (by kernel_rfl) (fun _ _ _ h => h) ?y29w3 (by assumption) ?r29w3
          case hi29w3 => (simp only [List.getElem?_toArray, List.getElem?_cons_succ, List.getElem?_cons_zero]; rfl)
          case y29w3 => exact Or.inr ⟨by rfl, rfl⟩
          try simp only [Act.put, List.setIfInBounds_toArray, List.set_cons_zero, List.set_cons_succ]
          refine wpAnyH_take (i := 30) (oi := ?o30w3) (v := undef) ?hi30w3 (by kernel_rfl) (by kernel_rfl) (by kernel_rfl) (fun _ _ _ h => h) ?y30w3 (by assumption) ?r30w3
          case hi30w3 => (simp only [List.getElem?_toArray, List.getElem?_cons_succ, List.getElem?_cons_zero]; rfl)
          case y30w3 => exact Or.inr ⟨by rfl, rfl⟩
          try simp only [Act.put, List.setIfInBounds_toArray, List.set_cons_zero, List.set_cons_succ]
          refine wpAnyH_take (i := 31) (oi := ?o31w3) (v := undef) ?hi31w3 (by kernel_rfl) (by kernel_rfl) (by kernel_rfl) (fun _ _ _ h => h) ?y31w3 (by assumption) ?r31w3
          case hi31w3 => (simp only [List.getElem?_toArray, List.getElem?_cons_succ, List.getElem?_cons_zero]; rfl)
          case y31w3 => exact Or.inr ⟨by rfl, rfl⟩
          try simp only [Act.put, List.setIfInBounds_toArray, List.set_cons_zero, List.set_cons_succ]
          refine wpAnyH_take (i := 32) (oi := ?o32w3) (v := undef) ?hi32w3 (by kernel_rfl) (by kernel_rfl) (by kernel_rfl) (fun _ _ _ h => h) ?y32w3 (by assumption) ?r32w3
          case hi32w3 => (simp only [List.getElem?_toArray, List.getElem?_cons_succ, List.getElem?_cons_zero]; rfl)
          case y32w3 => exact Or.inr ⟨by rfl, rfl⟩
          try simp only [Act.put, List.setIfInBounds_toArray, List.set_cons_zero, List.set_cons_succ]
          refine wpAnyH_take (i := 33) (oi := ?o33w3) (v := undef) ?hi33w3 (by kernel_rfl) (by kernel_rfl) (by kernel_rfl) (fun _ _ _ h => h) ?y33w3 (by assumption) ?r33w3
          case hi33w3 => (simp only [List.getElem?_toArray, List.getElem?_cons_succ, List.getElem?_cons_zero]; rfl)
          case y33w3 => exact Or.inr ⟨by rfl, rfl⟩
          try simp only [Act.put, List.setIfInBounds_toArray, List.set_cons_zero, List.set_cons_succ]
          refine wpAnyH_take (i := 34) (oi := ?o34w3) (v := undef) ?hi34w3 (by kernel_rfl) (by kernel_rfl) (by kernel_rfl) (fun _ _ _ h => h) ?y34w3 (by assumption) ?r34w3
          case hi34w3 => (simp only [List.getElem?_toArray, List.getElem?_cons_succ, List.getElem?_cons_zero]; rfl)
          case y34w3 => exact Or.inr ⟨by rfl, rfl⟩
          try simp only [Act.put, List.setIfInBounds_toArray, List.set_cons_zero, List.set_cons_succ]
          refine wpAnyH_take (i := 35) (oi := ?o35w3) (v := undef) ?hi35w3 (by kernel_rfl) (by kernel_rfl) (by kernel_rfl) (fun _ _ _ h => h) ?y35w3 (by assumption) ?r35w3
          case hi35w3 => (simp only [List.getElem?_toArray, List.getElem?_cons_succ, List.getElem?_cons_zero]; rfl)
          case y35w3 => exact Or.inr ⟨by rfl, rfl⟩
          try simp only [Act.put, List.setIfInBounds_toArray, List.set_cons_zero, List.set_cons_succ]
          refine wpAnyH_take (i := 36) (oi := ?o36w3) (v := ?v36w3) ?hi36w3 (by kernel_rfl) (by kernel_rfl) (by kernel_rfl) (fun _ _ _ h => h) ?y36w3 (by assumption) ?r36w3
          case hi36w3 => (simp only [List.getElem?_toArray, List.getElem?_cons_succ, List.getElem?_cons_zero]; rfl)
          case y36w3 => (refine Or.inl ⟨by rfl, ?_⟩; intro w' hSw; (try dsimp only at hSw); go_simp; (try with_reducible rfl))
          try simp only [Act.put, List.setIfInBounds_toArray, List.set_cons_zero, List.set_cons_succ]
          refine wpAnyH_take (i := 37) (oi := ?o37w3) (v := ?v37w3) ?hi37w3 (by kernel_rfl) (by kernel_rfl) (by kernel_rfl) (fun _ _ _ h => h) ?y37w3 (by assumption) ?r37w3
          case hi37w3 => (simp only [List.getElem?_toArray, List.getElem?_cons_succ, List.getElem?_cons_zero]; rfl)
          case y37w3 => (refine Or.inl ⟨by rfl, ?_⟩; intro w' hSw; (try dsimp only at hSw); go_simp; (try with_reducible rfl))
          try simp only [Act.put, List.setIfInBounds_toArray, List.set_cons_zero, List.set_cons_succ]
          refine wpAnyH_done (by kernel_rfl) ?_ _
          refine NoPanic.normal ?_
          clear hHeld
          have B3 := Lib.hid bel
          clear bel
          go_wp2_with fail
          go_roundw
          case rel => exact ⟨i + 1, by omega, by go_num, B3.out, VA2.out, VB.out, X2.out⟩
          case measure => simp [intOf]; omega
      · have B3 := Lib.hid bel
        go_wp2_with fail
        refine (HLE.out _ (HA.out.below B3.out)).mono ?_; rintro e wl ⟨⟨z, rfl, hz⟩, hb⟩
        replace VA2 := Lib.hid (VA2.out.below hb)
        replace X2 := Lib.hid (X2.out.keep hb)
        replace bel := Bx.then_below bel hb
        have VL := Lib.hid (HA.out.below bel)
        clear hb B3 VB
        obtain ⟨a0, a1, a2, a3⟩ := X2.out.all4
        rcases hz with ⟨hl0, rfl⟩ | ⟨k, rfl, hk⟩
        · have hN0 : N = 0 := by rw [← HNL.out, hl0]; rfl
          have e1 : ((N : Int) == 0) = true := by rw [hN0]; rfl
          have e2 : decide ((-1 : Int) < (N : Int)) = true := decide_eq_true (by omega)
          have e3 : decide ((-1 : Int) < 0) = true := by decide
          have e4 : (true == true) = true := rfl
          clear hN0 hl0
          go_wp2_with fail
          refine wp_region_noPanic ?_
          refine wp_region_held_drew (S := fun w' => w'.cell? ⟨w.heap.size, 0, none⟩ = some (.int .i64 q1) ∧ w'.cell? ⟨w.heap.size, 1, none⟩ = some (.int .i64 q2) ∧ w'.cell? ⟨w.heap.size, 2, none⟩ = some (.int .i64 q3) ∧ w'.cell? ⟨w.heap.size, 3, none⟩ = some (.int .i64 q4)) (by kernel_rfl) (by exact ⟨a0, a1, a2, a3⟩) (fun hHeld => ?_)
          replace bel := Bx.bel_drewn bel
          refine wpAnyH_take (i := 0) (oi := ?o0w4) (v := ?v0w4) ?hi0w4 (by kernel_rfl) (by kernel_rfl) (by kernel_rfl) (fun _ _ _ h => h) ?y0w4 (by assumption) ?r0w4
          case hi0w4 => (simp only [List.getElem?_toArray, List.getElem?_cons_zero]; rfl)
          case y0w4 => (refine Or.inl ⟨by rfl, ?_⟩; intro w' hSw; (try dsimp only at hSw); go_simp; (try with_reducible rfl))
          try simp only [Act.put, List.setIfInBounds_toArray, List.set_cons_zero, List.set_cons_succ]
          refine wpAnyH_take (i := 1) (oi := ?o1w4) (v := ?v1w4) ?hi1w4 (by kernel_rfl) (by kernel_rfl) (by kernel_rfl) (fun _ _ _ h => h) ?y1w4 (by assumption) ?r1w4
          case hi1w4 => (simp only [List.getElem?_toArray, List.getElem?_cons_succ, List.getElem?_cons_zero]; rfl)
          case y1w4 => (refine Or.inl ⟨by rfl, ?_⟩; intro w' hSw; (try dsimp only at hSw); go_simp; (try with_reducible rfl))
          try simp only [Act.put, List.setIfInBounds_toArray, List.set_cons_zero, List.set_cons_succ]
          refine wpAnyH_take (i := 2) (oi := ?o2w4) (v := ?v2w4) ?hi2w4 (by kernel_rfl) (by kernel_rfl) (by kernel_rfl) (fun _ _ _ h => h) ?y2w4 (by assumption) ?r2w4
          case hi2w4 => (simp only [List.getElem?_toArray, List.getElem?_cons_succ, List.getElem?_cons_zero]; rfl)
          case y2w4 => (refine Or.inl ⟨by rfl, ?_⟩; intro w' hSw; (try dsimp only at hSw); go_simp; (try with_reducible rfl))
          try simp only [Act.put, List.setIfInBounds_toArray, List.set_cons_zero, List.set_cons_succ]
          refine wpAnyH_take (i := 3) (oi := ?o3w4) (v := ?v3w4) ?hi3w4 (by kernel_rfl) (by kernel_rfl) (by kernel_rfl) (fun _ _ _ h => h) ?y3w4 (by assumption) ?r3w4
          case hi3w4 => (simp only [List.getElem?_toArray, List.getElem?_cons_succ, List.getElem?_cons_zero]; rfl)
          case y3w4 => (refine Or.inl ⟨by rfl, ?_⟩; intro w' hSw; (try dsimp only at hSw); go_simp; (try with_reducible rfl))
          try simp only [Act.put, List.setIfInBounds_toArray, List.set_cons_zero, List.set_cons_succ]
          refine wpAnyH_take (i := 4) (oi := ?o4w4) (v := ?v4w4) ?hi4w4 (by kernel_rfl) (by kernel_rfl) (by kernel_rfl) (fun _ _ _ h => h) ?y4w4 (by assumption) ?r4w4
          case hi4w4 => (simp only [List.getElem?_toArray, List.getElem?_cons_succ, List.getElem?_cons_zero]; rfl)
          case y4w4 => (refine Or.inl ⟨by rfl, ?_⟩; intro w' hSw; (try dsimp only at hSw); go_simp; (try with_reducible rfl))
          try simp only [Act.put, List.setIfInBounds_toArray, List.set_cons_zero, List.set_cons_succ]
          refine wpAnyH_take (i := 5) (oi := ?o5w4) (v := ?v5w4) ?hi5w4 (by kernel_rfl) (by kernel_rfl) (by kernel_rfl) (fun _ _ _ h => h) ?y5w4 (by assumption) ?r5w4
          case hi5w4 => (simp only [List.getElem?_toArray, List.getElem?_cons_succ, List.getElem?_cons_zero]; rfl)
          case y5w4 => (refine Or.inl ⟨by rfl, ?_⟩; intro w' hSw; (try dsimp only at hSw); go_simp; (try with_reducible rfl))
          try simp only [Act.put, List.setIfInBounds_toArray, List.set_cons_zero, List.set_cons_succ]
          refine wpAnyH_take (i := 6) (oi := ?o6w4) (v := ?v6w4) ?hi6w4 (by kernel_rfl) (by kernel_rfl) (by kernel_rfl) (fun _ _ _ h => h) ?y6w4 (by assumption) ?r6w4
          case hi6w4 => (simp only [List.getElem?_toArray, List.getElem?_cons_succ, List.getElem?_cons_zero]; rfl)
          case y6w4 => (refine Or.inl ⟨by rfl, ?_⟩; intro w' hSw; (try dsimp only at hSw); go_simp; (try with_reducible rfl))
          try simp only [Act.put, List.setIfInBounds_toArray, List.set_cons_zero, List.set_cons_succ]
          refine wpAnyH_take (i := 7) (oi := ?o7w4) (v := ?v7w4) ?hi7w4 (by kernel_rfl) (by kernel_rfl) (by kernel_rfl) (fun _ _ _ h => h) ?y7w4 (by assumption) ?r7w4
          case hi7w4 => (simp only [List.getElem?_toArray, List.getElem?_cons_succ, List.getElem?_cons_zero]; rfl)
          case y7w4 => (refine Or.inl ⟨by rfl, ?_⟩; intro w' hSw; (try dsimp only at hSw); go_simp; (try with_reducible rfl))
          try simp only [Act.put, List.setIfInBounds_toArray, List.set_cons_zero, List.set_cons_succ]
          refine wpAnyH_take (i := 8) (oi := ?o8w4) (v := ?v8w4) ?hi8w4 (by kernel_rfl) (by kernel_rfl) (by kernel_rfl) (fun _ _ _ h => h) ?y8w4 (by assumption) ?r8w4
          case hi8w4 => (simp only [List.getElem?_toArray, List.getElem?_cons_succ, List.getElem?_cons_zero]; rfl)
          case y8w4 => (refine Or.inl ⟨by rfl, ?_⟩; intro w' hSw; (try dsimp only at hSw); go_simp; (try with_reducible rfl))
          try simp only [Act.put, List.setIfInBounds_toArray, List.set_cons_zero, List.set_cons_succ]
          refine wpAnyH_take (i := 9) (oi := ?o9w4) (v := ?v9w4) ?hi9w4 (by kernel_rfl) (by kernel_rfl) (by kernel_rfl) (fun _ _ _ h => h) ?y9w4 (by assumption) ?r9w4
          case hi9w4 => (simp only [List.getElem?_toArray, List.getElem?_cons_succ, List.getElem?_cons_zero]; rfl)
          case y9w4 => (refine Or.inl ⟨by rfl, ?_⟩; intro w' hSw; (try dsimp only at hSw); go_simp; (try with_reducible rfl))
          try simp only [Act.put, List.setIfInBounds_toArray, List.set_cons_zero, List.set_cons_succ]
          refine wpAnyH_take (i := 10) (oi := ?o10w4) (v := undef) ?hi10w4 (by kernel_rfl) (by kernel_rfl) (by kernel_rfl) (fun _ _ _ h => h) ?y10w4 (by assumption) ?r10w4
          case hi10w4 => (simp only [List.getElem?_toArray, List.getElem?_cons_succ, List.getElem?_cons_zero]; rfl)
          case y10w4 => exact Or.inr ⟨by rfl, rfl⟩
          try simp only [Act.put, List.setIfInBounds_toArray, List.set_cons_zero, List.set_cons_succ]
          refine wpAnyH_take (i := 11) (oi := ?o11w4) (v := undef) ?hi11w4 (by kernel_rfl) (by kernel_rfl) (by kernel_rfl) (fun _ _ _ h => h) ?y11w4 (by assumption) ?r11w4
          case hi11w4 => (simp only [List.getElem?_toArray, List.getElem?_cons_succ, List.getElem?_cons_zero]; rfl)
          case y11w4 => exact Or.inr ⟨by rfl, rfl⟩
          try simp only [Act.put, List.setIfInBounds_toArray, List.set_cons_zero, List.set_cons_succ]
          refine wpAnyH_take (i := 12) (oi := ?o12w4) (v := undef) ?hi12w4 (by kernel_rfl) (by kernel_rfl) (by kernel_rfl) (fun _ _ _ h => h) ?y12w4 (by assumption) ?r12w4
          case hi12w4 => (simp only [List.getElem?_toArray, List.getElem?_cons_succ, List.getElem?_cons_zero]; rfl)
          case y12w4 => exact Or.inr ⟨by rfl, rfl⟩
          try simp only [Act.put, List.setIfInBounds_toArray, List.set_cons_zero, List.set_cons_succ]
          refine wpAnyH_take (i := 13) (oi := ?o13w4) (v := undef) ?hi13w4 (by kernel_rfl) (by kernel_rfl) (by kernel_rfl) (fun _ _ _ h => h) ?y13w4 (by assumption) ?r13w4
          case hi13w4 => (simp only [List.getElem?_toArray, List.getElem?_cons_succ, List.getElem?_cons_zero]; rfl)
          case y13w4 => exact Or.inr ⟨by rfl, rfl⟩
          try simp only [Act.put, List.setIfInBounds_toArray, List.set_cons_zero, List.set_cons_succ]
          refine wpAnyH_take (i := 14) (oi := ?o14w4) (v := ?v14w4) ?hi14w4 (by kernel_rfl) (by kernel_rfl) (by kernel_rfl) (fun _ _ _ h => h) ?y14w4 (by assumption) ?r14w4
          case hi14w4 => (simp only [List.getElem?_toArray, List.getElem?_cons_succ, List.getElem?_cons_zero]; rfl)
          case y14w4 => (refine Or.inl ⟨by rfl, ?_⟩; intro w' hSw; (try dsimp only at hSw); go_simp; (try with_reducible rfl))
          try simp only [Act.put, List.setIfInBounds_toArray, List.set_cons_zero, List.set_cons_succ]
          refine wpAnyH_take (i := 15) (oi := ?o15w4) (v := ?v15w4) ?hi15w4 (by kernel_rfl) (by kernel_rfl) (by kernel_rfl) (fun _ _ _ h => h) ?y15w4 (by assumption) ?r15w4
          case hi15w4 => (simp only [List.getElem?_toArray, List.getElem?_cons_succ, List.getElem?_cons_zero]; rfl)
          case y15w4 => (refine Or.inl ⟨by rfl, ?_⟩; intro w' hSw; (try dsimp only at hSw); go_simp; (try with_reducible rfl))
          try simp only [Act.put, List.setIfInBounds_toArray, List.set_cons_zero, List.set_cons_succ]
          refine wpAnyH_take (i := 16) (oi := ?o16w4) (v := undef) ?hi16w4 (by kernel_rfl) (by kernel_rfl) (by kernel_rfl) (fun _ _ _ h => h) ?y16w4 (by assumption) ?r16w4
          case hi16w4 => (simp only [List.getElem?_toArray, List.getElem?_cons_succ, List.getElem?_cons_zero]; rfl)
          case y16w4 => exact Or.inr ⟨by rfl, rfl⟩
          try simp only [Act.put, List.setIfInBounds_toArray, List.set_cons_zero, List.set_cons_succ]
          refine wpAnyH_take (i := 17) (oi := ?o17w4) (v := undef) ?hi17w4 (by kernel_rfl) (by kernel_rfl) (by kernel_rfl) (fun _ _ _ h => h) ?y17w4 (by assumption) ?r17w4
          case hi17w4 => (simp only [List.getElem?_toArray, List.getElem?_cons_succ, List.getElem?_cons_zero]; rfl)
          case y17w4 => exact Or.inr ⟨by rfl, rfl⟩
          try simp only [Act.put, List.setIfInBounds_toArray, List.set_cons_zero, List.set_cons_succ]
          refine wpAnyH_take (i := 18) (oi := ?o18w4) (v := undef) ?hi18w4 (by kernel_rfl) (by kernel_rfl) (by kernel_rfl) (fun _ _ _ h => h) ?y18w4 (by assumption) ?r18w4
          case hi18w4 => (simp only [List.getElem?_toArray, List.getElem?_cons_succ, List.getElem?_cons_zero]; rfl)
          case y18w4 => exact Or.inr ⟨by rfl, rfl⟩
          try simp only [Act.put, List.setIfInBounds_toArray, List.set_cons_zero, List.set_cons_succ]
          refine wpAnyH_take (i := 19) (oi := ?o19w4) (v := undef) ?hi19w4 (by kernel_rfl) (by kernel_rfl) (by kernel_rfl) (fun _ _ _ h => h) ?y19w4 (by assumption) ?r19w4
          case hi19w4 => (simp only [List.getElem?_toArray, List.getElem?_cons_succ, List.getElem?_cons_zero]; rfl)
          case y19w4 => exact Or.inr ⟨by rfl, rfl⟩
          try simp only [Act.put, List.setIfInBounds_toArray, List.set_cons_zero, List.set_cons_succ]
          refine wpAnyH_take (i := 20) (oi := ?o20w4) (v := undef) ?hi20w4 (by kernel_rfl) (by kernel_rfl) (by kernel_rfl) (fun _ _ _ h => h) ?y20w4 (by assumption) ?r20w4
          case hi20w4 => (simp only [List.getElem?_toArray, List.getElem?_cons_succ, List.getElem?_cons_zero]; rfl)
          case y20w4 => exact Or.inr ⟨by rfl, rfl⟩
          try simp only [Act.put, List.setIfInBounds_toArray, List.set_cons_zero, List.set_cons_succ]
          refine wpAnyH_take (i := 21) (oi := ?o21w4) (v := undef) ?hi21w4 (by kernel_rfl) (by kernel_rfl) (by kernel_rfl) (fun _ _ _ h => h) ?y21w4 (by assumption) ?r21w4
          case hi21w4 => (simp only [List.getElem?_toArray, List.getElem?_cons_succ, List.getElem?_cons_zero]; rfl)
          case y21w4 => exact Or.inr ⟨by rfl, rfl⟩
          try simp only [Act.put, List.setIfInBounds_toArray, List.set_cons_zero, List.set_cons_succ]
          refine wpAnyH_take (i := 22) (oi := ?o22w4) (v := undef) ?hi22w4 (by kernel_rfl) (by kernel_rfl) (by kernel_rfl) (fun _ _ _ h => h) ?y22w4 (by assumption) ?r22w4
          case hi22w4 => (simp only [List.getElem?_toArray, List.getElem?_cons_succ, List.getElem?_cons_zero]; rfl)
          case y22w4 => exact Or.inr ⟨by rfl, rfl⟩
          try simp only [Act.put, List.setIfInBounds_toArray, List.set_cons_zero, List.set_cons_succ]
          refine wpAnyH_take (i := 23) (oi := ?o23w4) (v := undef) ?hi23w4 (by kernel_rfl) (by kernel_rfl) (by kernel_rfl) (fun _ _ _ h => h) ?y23w4 (by assumption) ?r23w4
          case hi23w4 => (simp only [List.getElem?_toArray, List.getElem?_cons_succ, List.getElem?_cons_zero]; rfl)
          case y23w4 => exact Or.inr ⟨by rfl, rfl⟩
          try simp only [Act.put, List.setIfInBounds_toArray, List.set_cons_zero, List.set_cons_succ]
          refine wpAnyH_take (i := 24) (oi := ?o24w4) (v := ?v24w4) ?hi24w4 (by kernel_rfl) (by kernel_rfl) (by kernel_rfl) (fun _ _ _ h => h) ?y24w4 (by assumption) ?r24w4
          case hi24w4 => (simp only [List.getElem?_toArray, List.getElem?_cons_succ, List.getElem?_cons_zero]; rfl)
          case y24w4 => (refine Or.inl ⟨by rfl, ?_⟩; intro w' hSw; (try dsimp only at hSw); go_simp; (try with_reducible rfl))
          try simp only [Act.put, List.setIfInBounds_toArray, List.set_cons_zero, List.set_cons_succ]
          refine wpAnyH_take (i := 25) (oi := ?o25w4) (v := ?v25w4) ?hi25w4 (by kernel_rfl) (by kernel_rfl) (by kernel_rfl) (fun _ _ _ h => h) ?y25w4 (by assumption) ?r25w4
          case hi25w4 => (simp only [List.getElem?_toArray, List.getElem?_cons_succ, List.getElem?_cons_zero]; rfl)
          case y25w4 => (refine Or.inl ⟨by rfl, ?_⟩; intro w' hSw; (try dsimp only at hSw); go_simp; (try with_reducible rfl))
          try simp only [Act.put, List.setIfInBounds_toArray, List.set_cons_zero, List.set_cons_succ]
          refine wpAnyH_take (i := 26) (oi := ?o26w4) (v := ?v26w4) ?hi26w4 (by kernel_rfl) (by kernel_rfl) (by kernel_rfl) (fun _ _ _ h => h) ?y26w4 (by assumption) ?r26w4
          case hi26w4 => (simp only [List.getElem?_toArray, List.getElem?_cons_succ, List.getElem?_cons_zero]; rfl)
          case y26w4 => (refine Or.inl ⟨by rfl, ?_⟩; intro w' hSw; (try dsimp only at hSw); go_simp; (try with_reducible rfl))
          try simp only [Act.put, List.setIfInBounds_toArray, List.set_cons_zero, List.set_cons_succ]
          refine wpAnyH_take (i := 27) (oi := ?o27w4) (v := ?v27w4) ?hi27w4 (by kernel_rfl) (by kernel_rfl) (by kernel_rfl) (fun _ _ _ h => h) ?y27w4 (by assumption) ?r27w4
          case hi27w4 => (simp only [List.getElem?_toArray, List.getElem?_cons_succ, List.getElem?_cons_zero]; rfl)
          case y27w4 => (refine Or.inl ⟨by rfl, ?_⟩; intro w' hSw; (try dsimp only at hSw); go_simp; (try with_reducible rfl))
          try simp only [Act.put, List.setIfInBounds_toArray, List.set_cons_zero, List.set_cons_succ]
          refine wpAnyH_take (i := 28) (oi := ?o28w4) (v := ?v28w4) ?hi28w4 (by kernel_rfl) (by kernel_rfl) (by kernel_rfl) (fun _ _ _ h => h) ?y28w4 (by assumption) ?r28w4
          case hi28w4 => (simp only [List.getElem?_toArray, List.getElem?_cons_succ, List.getElem?_cons_zero]; rfl)
          case y28w4 => (refine Or.inl ⟨by rfl, ?_⟩; intro w' hSw; (try dsimp only at hSw); go_simp; (try with_reducible rfl))
          try simp only [Act.put, List.setIfInBounds_toArray, List.set_cons_zero, List.set_cons_succ]
          refine wpAnyH_take (i := 29) (oi := ?o29w4) (v := ?v29w4) ?hi29w4 (by kernel_rfl) (by kernel_rfl) (by kernel_rfl) (fun _ _ _ h => h) ?y29w4 (by assumption) ?r29w4
          case hi29w4 => (simp only [List.getElem?_toArray, List.getElem?_cons_succ, List.getElem?_cons_zero]; rfl)
          case y29w4 => (refine Or.inl ⟨by rfl, ?_⟩; intro w' hSw; (try dsimp only at hSw); go_simp; (try with_reducible rfl))
          try simp only [Act.put, List.setIfInBounds_toArray, List.set_cons_zero, List.set_cons_succ]
          refine wpAnyH_take (i := 30) (oi := ?o30w4) (v := ?v30w4) ?hi30w4 (by kernel_rfl) (by kernel_rfl) (by kernel_rfl) (fun _ _ _ h => h) ?y30w4 (by assumption) ?r30w4
          case hi30w4 => (simp only [List.getElem?_toArray, List.getElem?_cons_succ, List.getElem?_cons_zero]; rfl)
          case y30w4 => (refine Or.inl ⟨by rfl, ?_⟩; intro w' hSw; (try dsimp only at hSw); go_simp; (try with_reducible rfl))
          try simp only [Act.put, List.setIfInBounds_toArray, List.set_cons_zero, List.set_cons_succ]
          refine wpAnyH_take (i := 31) (oi := ?o31w4) (v := ?v31w4) ?hi31w4 (by kernel_rfl) (by kernel_rfl) (by kernel_rfl) (fun _ _ _ h => h) ?y31w4 (by assumption) ?r31w4
          case hi31w4 => (simp only [List.getElem?_toArray, List.getElem?_cons_succ, List.getElem?_cons_zero]; rfl)
          case y31w4 => (refine Or.inl ⟨by rfl, ?_⟩; intro w' hSw; (try dsimp only at hSw); go_simp; (try with_reducible rfl))
          try simp only [Act.put, List.setIfInBounds_toArray, List.set_cons_zero, List.set_cons_succ]
          refine wpAnyH_take (i := 32) (oi := ?o32w4) (v := ?v32w4) ?hi32w4 (by kernel_rfl) (by kernel_rfl) (by kernel_rfl) (fun _ _ _ h => h) ?y32w4 (by assumption) ?r32w4
          case hi32w4 => (simp only [List.getElem?_toArray, List.getElem?_cons_succ, List.getElem?_cons_zero]; rfl)
          case y32w4 => (refine Or.inl ⟨by rfl, ?_⟩; intro w' hSw; (try dsimp only at hSw); go_simp; (try with_reducible rfl))
          try simp only [Act.put, List.setIfInBounds_toArray, List.set_cons_zero, List.set_cons_succ]
          refine wpAnyH_ready (rs := [33]) (by kernel_rfl) (by simp) ?_
          refine AllReadyH.cons (o := ?o33w4) ?hi33w4 ?hst33w4 AllReadyH.nil
          case hi33w4 => (simp only [List.getElem?_toArray, List.getElem?_cons_succ, List.getElem?_cons_zero]; rfl)
          intro K hK
          go_simp
          (go_at_call 4; (with_reducible refine (HAW.out _).mono ?_); rintro e w41 ⟨rfl, hb41⟩)
          go_wp2_with fail
          refine hK.out _ _ ⟨Bx.keep_cell hb41 hHeld.1, Bx.keep_cell hb41 hHeld.2.1, Bx.keep_cell hb41 hHeld.2.2.1, Bx.keep_cell hb41 hHeld.2.2.2⟩ (fun hNew => ?_)
          clear hHeld
          have hHeld := hNew
          clear hNew hK K
          replace bel := Bx.then_below bel hb41
          clear hb41
          refine wpAnyH_take (i := 34) (oi := ?o34w4) (v := ?v34w4) ?hi34w4 (by kernel_rfl) (by kernel_rfl) (by kernel_rfl) (fun _ _ _ h => h) ?y34w4 (by assumption) ?r34w4
          case hi34w4 => (simp only [List.getElem?_toArray, List.getElem?_cons_succ, List.getElem?_cons_zero]; rfl)
          case y34w4 => (refine Or.inl ⟨by rfl, ?_⟩; intro w' hSw; (try dsimp only at hSw); go_simp; (try with_reducible rfl))
          try simp only [Act.put, List.setIfInBounds_toArray, List.set_cons_zero, List.set_cons_succ]
          refine wpAnyH_take (i := 35) (oi := ?o35w4) (v := ?v35w4) ?hi35w4 (by kernel_rfl) (by kernel_rfl) (by kernel_rfl) (fun _ _ _ h => h) ?y35w4 (by assumption) ?r35w4
          case hi35w4 => (simp only [List.getElem?_toArray, List.getElem?_cons_succ, List.getElem?_cons_zero]; rfl)
          case y35w4 => (refine Or.inl ⟨by rfl, ?_⟩; intro w' hSw; (try dsimp only at hSw); go_simp; (try with_reducible rfl))
          try simp only [Act.put, List.setIfInBounds_toArray, List.set_cons_zero, List.set_cons_succ]
          refine wpAnyH_done (by kernel_rfl) ?_ _
          refine NoPanic.normal ?_
          clear hHeld
          go_wp2_with fail
          go_ret
          exact ⟨rfl, bel⟩
        · have hkl : k < l.length := by obtain ⟨x, hx, _⟩ := hk; exact (List.getElem?_eq_some_iff.1 hx).1
          have hkN : k < N := by rw [← HNL.out]; exact hkl
          have h0l : 0 < la.length := by rw [← HNA.out]; omega
          have hfl := first_least PA.out IA.out hk h0l hkl
          obtain ⟨b1, p1, rfl, _, c0, c1, c2, c3⟩ := VA2.out.at h0l
          obtain ⟨b2, p2, rfl, _, d0, d1, d2, d3⟩ := VL.out.at hkl
          rw [hfl] at c0 c1 c2 c3
          rw [show p1 + 0 * 4 = p1 by omega] at c0 c1 c2 c3
          have e1 : ((N : Int) == 0) = false := beq_eq_false_iff_ne.2 (by omega)
          have e2 : decide ((k : Int) < 0) = false := decide_eq_false (by omega)
          have e3 : decide ((N : Int) ≤ (k : Int)) = false := decide_eq_false (by omega)
          have e4 : decide ((k : Int) < (N : Int)) = true := decide_eq_true (by omega)
          have e9 : decide (N ≤ k) = false := decide_eq_false (by omega)
          have e10 : decide (k < N) = true := decide_eq_true (by omega)
          have e5 : (0 : Int) ≤ (k : Int) := by omega
          have e6 : (k : Int) < (N : Int) := by omega
          have e7 : (0 : Int) < (N : Int) := by omega
          have e8 : (false == false) = true := rfl
          have e11 : 0 < N := by omega
          clear hfl hk
          generalize l[k] = y at *
          obtain ⟨m1, m2, m3, m4⟩ := y
          simp only at c0 c1 c2 c3 d0 d1 d2 d3
          have heq : ∀ w, (binOp .eql 30 (.agg #[.int .u64 m1, .int .u64 m2, .int .u64 m3, .int .i64 m4]) (.agg #[.int .u64 m1, .int .u64 m2, .int .u64 m3, .int .i64 m4])).run Tryd.prog w = .ok (.bool true) w := fun w => by have h := eql_at m1 m2 m3 m4 m1 m2 m3 m4 w; rw [decide_eq_true rfl] at h; exact h
          have hgd : ∀ (op : BinOp) (a b : Operand) (w : World), Sem.run Tryd.prog (eqGuard op 30 a b (.agg #[.int .u64 m1, .int .u64 m2, .int .u64 m3, .int .i64 m4]) (.agg #[.int .u64 m1, .int .u64 m2, .int .u64 m3, .int .i64 m4])) w = .ok () w := fun op a b w => guard_at op a b m1 m2 m3 m4 m1 m2 m3 m4 w
          go_wp2_with fail
          refine wp_region_noPanic ?_
          refine wp_region_held_drew (S := fun w' => w'.cell? ⟨b1, p1, none⟩ = some (.int .u64 m1) ∧ w'.cell? ⟨b1, p1 + 1, none⟩ = some (.int .u64 m2) ∧ w'.cell? ⟨b1, p1 + 2, none⟩ = some (.int .u64 m3) ∧ w'.cell? ⟨b1, p1 + 3, none⟩ = some (.int .i64 m4) ∧ w'.cell? ⟨b2, p2 + k * 4, none⟩ = some (.int .u64 m1) ∧ w'.cell? ⟨b2, p2 + k * 4 + 1, none⟩ = some (.int .u64 m2) ∧ w'.cell? ⟨b2, p2 + k * 4 + 2, none⟩ = some (.int .u64 m3) ∧ w'.cell? ⟨b2, p2 + k * 4 + 3, none⟩ = some (.int .i64 m4)) (by kernel_rfl) (by exact ⟨c0, c1, c2, c3, d0, d1, d2, d3⟩) (fun hHeld => ?_)
          replace bel := Bx.bel_drewn bel
          refine wpAnyH_take (i := 0) (oi := ?o0w5) (v := ?v0w5) ?hi0w5 (by kernel_rfl) (by kernel_rfl) (by kernel_rfl) (fun _ _ _ h => h) ?y0w5 (by assumption) ?r0w5
          case hi0w5 => (simp only [List.getElem?_toArray, List.getElem?_cons_zero]; rfl)
          case y0w5 => (refine Or.inl ⟨by rfl, ?_⟩; intro w' hSw; (try dsimp only at hSw); go_simp; (try with_reducible rfl))
          try simp only [Act.put, List.setIfInBounds_toArray, List.set_cons_zero, List.set_cons_succ]
          refine wpAnyH_take (i := 1) (oi := ?o1w5) (v := ?v1w5) ?hi1w5 (by kernel_rfl) (by kernel_rfl) (by kernel_rfl) (fun _ _ _ h => h) ?y1w5 (by assumption) ?r1w5
          case hi1w5 => (simp only [List.getElem?_toArray, List.getElem?_cons_succ, List.getElem?_cons_zero]; rfl)
          case y1w5 => (refine Or.inl ⟨by rfl, ?_⟩; intro w' hSw; (try dsimp only at hSw); go_simp; (try with_reducible rfl))
          try simp only [Act.put, List.setIfInBounds_toArray, List.set_cons_zero, List.set_cons_succ]
          refine wpAnyH_take (i := 2) (oi := ?o2w5) (v := ?v2w5) ?hi2w5 (by kernel_rfl) (by kernel_rfl) (by kernel_rfl) (fun _ _ _ h => h) ?y2w5 (by assumption) ?r2w5
          case hi2w5 => (simp only [List.getElem?_toArray, List.getElem?_cons_succ, List.getElem?_cons_zero]; rfl)
          case y2w5 => (refine Or.inl ⟨by rfl, ?_⟩; intro w' hSw; (try dsimp only at hSw); go_simp; (try with_reducible rfl))
          try simp only [Act.put, List.setIfInBounds_toArray, List.set_cons_zero, List.set_cons_succ]
          refine wpAnyH_take (i := 3) (oi := ?o3w5) (v := ?v3w5) ?hi3w5 (by kernel_rfl) (by kernel_rfl) (by kernel_rfl) (fun _ _ _ h => h) ?y3w5 (by assumption) ?r3w5
          case hi3w5 => (simp only [List.getElem?_toArray, List.getElem?_cons_succ, List.getElem?_cons_zero]; rfl)
          case y3w5 => (refine Or.inl ⟨by rfl, ?_⟩; intro w' hSw; (try dsimp only at hSw); go_simp; (try with_reducible rfl))
          try simp only [Act.put, List.setIfInBounds_toArray, List.set_cons_zero, List.set_cons_succ]
          refine wpAnyH_take (i := 4) (oi := ?o4w5) (v := ?v4w5) ?hi4w5 (by kernel_rfl) (by kernel_rfl) (by kernel_rfl) (fun _ _ _ h => h) ?y4w5 (by assumption) ?r4w5
          case hi4w5 => (simp only [List.getElem?_toArray, List.getElem?_cons_succ, List.getElem?_cons_zero]; rfl)
          case y4w5 => (refine Or.inl ⟨by rfl, ?_⟩; intro w' hSw; (try dsimp only at hSw); go_simp; (try with_reducible rfl))
          try simp only [Act.put, List.setIfInBounds_toArray, List.set_cons_zero, List.set_cons_succ]
          refine wpAnyH_take (i := 5) (oi := ?o5w5) (v := ?v5w5) ?hi5w5 (by kernel_rfl) (by kernel_rfl) (by kernel_rfl) (fun _ _ _ h => h) ?y5w5 (by assumption) ?r5w5
          case hi5w5 => (simp only [List.getElem?_toArray, List.getElem?_cons_succ, List.getElem?_cons_zero]; rfl)
          case y5w5 => (refine Or.inl ⟨by rfl, ?_⟩; intro w' hSw; (try dsimp only at hSw); go_simp; (try with_reducible rfl))
          try simp only [Act.put, List.setIfInBounds_toArray, List.set_cons_zero, List.set_cons_succ]
          refine wpAnyH_take (i := 6) (oi := ?o6w5) (v := ?v6w5) ?hi6w5 (by kernel_rfl) (by kernel_rfl) (by kernel_rfl) (fun _ _ _ h => h) ?y6w5 (by assumption) ?r6w5
          case hi6w5 => (simp only [List.getElem?_toArray, List.getElem?_cons_succ, List.getElem?_cons_zero]; rfl)
          case y6w5 => (refine Or.inl ⟨by rfl, ?_⟩; intro w' hSw; (try dsimp only at hSw); go_simp; (try with_reducible rfl))
          try simp only [Act.put, List.setIfInBounds_toArray, List.set_cons_zero, List.set_cons_succ]
          refine wpAnyH_take (i := 7) (oi := ?o7w5) (v := ?v7w5) ?hi7w5 (by kernel_rfl) (by kernel_rfl) (by kernel_rfl) (fun _ _ _ h => h) ?y7w5 (by assumption) ?r7w5
          case hi7w5 => (simp only [List.getElem?_toArray, List.getElem?_cons_succ, List.getElem?_cons_zero]; rfl)
          case y7w5 => (refine Or.inl ⟨by rfl, ?_⟩; intro w' hSw; (try dsimp only at hSw); go_simp; (try with_reducible rfl))
          try simp only [Act.put, List.setIfInBounds_toArray, List.set_cons_zero, List.set_cons_succ]
          refine wpAnyH_take (i := 8) (oi := ?o8w5) (v := ?v8w5) ?hi8w5 (by kernel_rfl) (by kernel_rfl) (by kernel_rfl) (fun _ _ _ h => h) ?y8w5 (by assumption) ?r8w5
          case hi8w5 => (simp only [List.getElem?_toArray, List.getElem?_cons_succ, List.getElem?_cons_zero]; rfl)
          case y8w5 => (refine Or.inl ⟨by rfl, ?_⟩; intro w' hSw; (try dsimp only at hSw); go_simp; (try with_reducible rfl))
          try simp only [Act.put, List.setIfInBounds_toArray, List.set_cons_zero, List.set_cons_succ]
          refine wpAnyH_take (i := 9) (oi := ?o9w5) (v := ?v9w5) ?hi9w5 (by kernel_rfl) (by kernel_rfl) (by kernel_rfl) (fun _ _ _ h => h) ?y9w5 (by assumption) ?r9w5
          case hi9w5 => (simp only [List.getElem?_toArray, List.getElem?_cons_succ, List.getElem?_cons_zero]; rfl)
          case y9w5 => (refine Or.inl ⟨by rfl, ?_⟩; intro w' hSw; (try dsimp only at hSw); go_simp; (try with_reducible rfl))
          try simp only [Act.put, List.setIfInBounds_toArray, List.set_cons_zero, List.set_cons_succ]
          refine wpAnyH_take (i := 10) (oi := ?o10w5) (v := ?v10w5) ?hi10w5 (by kernel_rfl) (by kernel_rfl) (by kernel_rfl) (fun _ _ _ h => h) ?y10w5 (by assumption) ?r10w5
          case hi10w5 => (simp only [List.getElem?_toArray, List.getElem?_cons_succ, List.getElem?_cons_zero]; rfl)
          case y10w5 => (refine Or.inl ⟨by rfl, ?_⟩; intro w' hSw; (try dsimp only at hSw); go_simp; (try with_reducible rfl))
          try simp only [Act.put, List.setIfInBounds_toArray, List.set_cons_zero, List.set_cons_succ]
          refine wpAnyH_take (i := 11) (oi := ?o11w5) (v := ?v11w5) ?hi11w5 (by kernel_rfl) (by kernel_rfl) (by kernel_rfl) (fun _ _ _ h => h) ?y11w5 (by assumption) ?r11w5
          case hi11w5 => (simp only [List.getElem?_toArray, List.getElem?_cons_succ, List.getElem?_cons_zero]; rfl)
          case y11w5 => (refine Or.inl ⟨by rfl, ?_⟩; intro w' hSw; (try dsimp only at hSw); go_simp; (try with_reducible rfl))
          try simp only [Act.put, List.setIfInBounds_toArray, List.set_cons_zero, List.set_cons_succ]
          refine wpAnyH_take (i := 12) (oi := ?o12w5) (v := ?v12w5) ?hi12w5 (by kernel_rfl) (by kernel_rfl) (by kernel_rfl) (fun _ _ _ h => h) ?y12w5 (by assumption) ?r12w5
          case hi12w5 => (simp only [List.getElem?_toArray, List.getElem?_cons_succ, List.getElem?_cons_zero]; rfl)
          case y12w5 => (refine Or.inl ⟨by rfl, ?_⟩; intro w' hSw; (try dsimp only at hSw); go_simp; (try with_reducible rfl))
          try simp only [Act.put, List.setIfInBounds_toArray, List.set_cons_zero, List.set_cons_succ]
          refine wpAnyH_take (i := 13) (oi := ?o13w5) (v := ?v13w5) ?hi13w5 (by kernel_rfl) (by kernel_rfl) (by kernel_rfl) (fun _ _ _ h => h) ?y13w5 (by assumption) ?r13w5
          case hi13w5 => (simp only [List.getElem?_toArray, List.getElem?_cons_succ, List.getElem?_cons_zero]; rfl)
          case y13w5 => (refine Or.inl ⟨by rfl, ?_⟩; intro w' hSw; (try dsimp only at hSw); go_simp; (try with_reducible rfl))
          try simp only [Act.put, List.setIfInBounds_toArray, List.set_cons_zero, List.set_cons_succ]
          refine wpAnyH_take (i := 14) (oi := ?o14w5) (v := ?v14w5) ?hi14w5 (by kernel_rfl) (by kernel_rfl) (by kernel_rfl) (fun _ _ _ h => h) ?y14w5 (by assumption) ?r14w5
          case hi14w5 => (simp only [List.getElem?_toArray, List.getElem?_cons_succ, List.getElem?_cons_zero]; rfl)
          case y14w5 => (refine Or.inl ⟨by rfl, ?_⟩; intro w' hSw; (try dsimp only at hSw); go_simp; (try with_reducible rfl))
          try simp only [Act.put, List.setIfInBounds_toArray, List.set_cons_zero, List.set_cons_succ]
          refine wpAnyH_take (i := 15) (oi := ?o15w5) (v := ?v15w5) ?hi15w5 (by kernel_rfl) (by kernel_rfl) (by kernel_rfl) (fun _ _ _ h => h) ?y15w5 (by assumption) ?r15w5
          case hi15w5 => (simp only [List.getElem?_toArray, List.getElem?_cons_succ, List.getElem?_cons_zero]; rfl)
          case y15w5 => (refine Or.inl ⟨by rfl, ?_⟩; intro w' hSw; (try dsimp only at hSw); go_simp; (try with_reducible rfl))
          try simp only [Act.put, List.setIfInBounds_toArray, List.set_cons_zero, List.set_cons_succ]
          refine wpAnyH_take (i := 16) (oi := ?o16w5) (v := ?v16w5) ?hi16w5 (by kernel_rfl) (by kernel_rfl) (by kernel_rfl) (fun _ _ _ h => h) ?y16w5 (by assumption) ?r16w5
          case hi16w5 => (simp only [List.getElem?_toArray, List.getElem?_cons_succ, List.getElem?_cons_zero]; rfl)
          case y16w5 => (refine Or.inl ⟨by rfl, ?_⟩; intro w' hSw; (try dsimp only at hSw); go_simp; (try with_reducible rfl))
          try simp only [Act.put, List.setIfInBounds_toArray, List.set_cons_zero, List.set_cons_succ]
          refine wpAnyH_take (i := 17) (oi := ?o17w5) (v := ?v17w5) ?hi17w5 (by kernel_rfl) (by kernel_rfl) (by kernel_rfl) (fun _ _ _ h => h) ?y17w5 (by assumption) ?r17w5
          case hi17w5 => (simp only [List.getElem?_toArray, List.getElem?_cons_succ, List.getElem?_cons_zero]; rfl)
          case y17w5 => (refine Or.inl ⟨by rfl, ?_⟩; intro w' hSw; (try dsimp only at hSw); go_simp; (try with_reducible rfl))
          try simp only [Act.put, List.setIfInBounds_toArray, List.set_cons_zero, List.set_cons_succ]
          refine wpAnyH_take (i := 18) (oi := ?o18w5) (v := ?v18w5) ?hi18w5 (by kernel_rfl) (by kernel_rfl) (by kernel_rfl) (fun _ _ _ h => h) ?y18w5 (by assumption) ?r18w5
          case hi18w5 => (simp only [List.getElem?_toArray, List.getElem?_cons_succ, List.getElem?_cons_zero]; rfl)
          case y18w5 => (refine Or.inl ⟨by rfl, ?_⟩; intro w' hSw; (try dsimp only at hSw); go_simp; (try with_reducible rfl))
          try simp only [Act.put, List.setIfInBounds_toArray, List.set_cons_zero, List.set_cons_succ]
          refine wpAnyH_take (i := 19) (oi := ?o19w5) (v := ?v19w5) ?hi19w5 (by kernel_rfl) (by kernel_rfl) (by kernel_rfl) (fun _ _ _ h => h) ?y19w5 (by assumption) ?r19w5
          case hi19w5 => (simp only [List.getElem?_toArray, List.getElem?_cons_succ, List.getElem?_cons_zero]; rfl)
          case y19w5 => (refine Or.inl ⟨by rfl, ?_⟩; intro w' hSw; (try dsimp only at hSw); go_simp; (try with_reducible rfl))
          try simp only [Act.put, List.setIfInBounds_toArray, List.set_cons_zero, List.set_cons_succ]
          refine wpAnyH_take (i := 20) (oi := ?o20w5) (v := ?v20w5) ?hi20w5 (by kernel_rfl) (by kernel_rfl) (by kernel_rfl) (fun _ _ _ h => h) ?y20w5 (by assumption) ?r20w5
          case hi20w5 => (simp only [List.getElem?_toArray, List.getElem?_cons_succ, List.getElem?_cons_zero]; rfl)
          case y20w5 => (refine Or.inl ⟨by rfl, ?_⟩; intro w' hSw; (try dsimp only at hSw); go_simp; (try with_reducible rfl))
          try simp only [Act.put, List.setIfInBounds_toArray, List.set_cons_zero, List.set_cons_succ]
          refine wpAnyH_take (i := 21) (oi := ?o21w5) (v := ?v21w5) ?hi21w5 (by kernel_rfl) (by kernel_rfl) (by kernel_rfl) (fun _ _ _ h => h) ?y21w5 (by assumption) ?r21w5
          case hi21w5 => (simp only [List.getElem?_toArray, List.getElem?_cons_succ, List.getElem?_cons_zero]; rfl)
          case y21w5 => (refine Or.inl ⟨by rfl, ?_⟩; intro w' hSw; (try dsimp only at hSw); go_simp; (try with_reducible rfl))
          try simp only [Act.put, List.setIfInBounds_toArray, List.set_cons_zero, List.set_cons_succ]
          refine wpAnyH_take (i := 22) (oi := ?o22w5) (v := ?v22w5) ?hi22w5 (by kernel_rfl) (by kernel_rfl) (by kernel_rfl) (fun _ _ _ h => h) ?y22w5 (by assumption) ?r22w5
          case hi22w5 => (simp only [List.getElem?_toArray, List.getElem?_cons_succ, List.getElem?_cons_zero]; rfl)
          case y22w5 => (refine Or.inl ⟨by rfl, ?_⟩; intro w' hSw; (try dsimp only at hSw); go_simp; (try with_reducible rfl))
          try simp only [Act.put, List.setIfInBounds_toArray, List.set_cons_zero, List.set_cons_succ]
          refine wpAnyH_take (i := 23) (oi := ?o23w5) (v := ?v23w5) ?hi23w5 (by kernel_rfl) (by kernel_rfl) (by kernel_rfl) (fun _ _ _ h => h) ?y23w5 (by assumption) ?r23w5
          case hi23w5 => (simp only [List.getElem?_toArray, List.getElem?_cons_succ, List.getElem?_cons_zero]; rfl)
          case y23w5 => (refine Or.inl ⟨by rfl, ?_⟩; intro w' hSw; (try dsimp only at hSw); go_simp; (try with_reducible rfl))
          try simp only [Act.put, List.setIfInBounds_toArray, List.set_cons_zero, List.set_cons_succ]
          refine wpAnyH_take (i := 24) (oi := ?o24w5) (v := ?v24w5) ?hi24w5 (by kernel_rfl) (by kernel_rfl) (by kernel_rfl) (fun _ _ _ h => h) ?y24w5 (by assumption) ?r24w5
          case hi24w5 => (simp only [List.getElem?_toArray, List.getElem?_cons_succ, List.getElem?_cons_zero]; rfl)
          case y24w5 => (refine Or.inl ⟨by rfl, ?_⟩; intro w' hSw; (try dsimp only at hSw); go_simp; (try with_reducible rfl))
          try simp only [Act.put, List.setIfInBounds_toArray, List.set_cons_zero, List.set_cons_succ]
          refine wpAnyH_take (i := 25) (oi := ?o25w5) (v := ?v25w5) ?hi25w5 (by kernel_rfl) (by kernel_rfl) (by kernel_rfl) (fun _ _ _ h => h) ?y25w5 (by assumption) ?r25w5
          case hi25w5 => (simp only [List.getElem?_toArray, List.getElem?_cons_succ, List.getElem?_cons_zero]; rfl)
          case y25w5 => (refine Or.inl ⟨by rfl, ?_⟩; intro w' hSw; (try dsimp only at hSw); go_simp; (try with_reducible rfl))
          try simp only [Act.put, List.setIfInBounds_toArray, List.set_cons_zero, List.set_cons_succ]
          refine wpAnyH_take (i := 26) (oi := ?o26w5) (v := ?v26w5) ?hi26w5 (by kernel_rfl) (by kernel_rfl) (by kernel_rfl) (fun _ _ _ h => h) ?y26w5 (by assumption) ?r26w5
          case hi26w5 => (simp only [List.getElem?_toArray, List.getElem?_cons_succ, List.getElem?_cons_zero]; rfl)
          case y26w5 => (refine Or.inl ⟨by rfl, ?_⟩; intro w' hSw; (try dsimp only at hSw); go_simp; (try with_reducible rfl))
          try simp only [Act.put, List.setIfInBounds_toArray, List.set_cons_zero, List.set_cons_succ]
          refine wpAnyH_take (i := 27) (oi := ?o27w5) (v := ?v27w5) ?hi27w5 (by kernel_rfl) (by kernel_rfl) (by kernel_rfl) (fun _ _ _ h => h) ?y27w5 (by assumption) ?r27w5
          case hi27w5 => (simp only [List.getElem?_toArray, List.getElem?_cons_succ, List.getElem?_cons_zero]; rfl)
          case y27w5 => (refine Or.inl ⟨by rfl, ?_⟩; intro w' hSw; (try dsimp only at hSw); go_simp; (try with_reducible rfl))
          try simp only [Act.put, List.setIfInBounds_toArray, List.set_cons_zero, List.set_cons_succ]
          refine wpAnyH_take (i := 28) (oi := ?o28w5) (v := ?v28w5) ?hi28w5 (by kernel_rfl) (by kernel_rfl) (by kernel_rfl) (fun _ _ _ h => h) ?y28w5 (by assumption) ?r28w5
          case hi28w5 => (simp only [List.getElem?_toArray, List.getElem?_cons_succ, List.getElem?_cons_zero]; rfl)
          case y28w5 => (refine Or.inl ⟨by rfl, ?_⟩; intro w' hSw; (try dsimp only at hSw); go_simp; (try with_reducible rfl))
          try simp only [Act.put, List.setIfInBounds_toArray, List.set_cons_zero, List.set_cons_succ]
          refine wpAnyH_take (i := 29) (oi := ?o29w5) (v := ?v29w5) ?hi29w5 (by kernel_rfl) (by kernel_rfl) (by kernel_rfl) (fun _ _ _ h => h) ?y29w5 (by assumption) ?r29w5
          case hi29w5 => (simp only [List.getElem?_toArray, List.getElem?_cons_succ, List.getElem?_cons_zero]; rfl)
          case y29w5 => (refine Or.inl ⟨by rfl, ?_⟩; intro w' hSw; (try dsimp only at hSw); go_simp; (try with_reducible rfl))
          try simp only [Act.put, List.setIfInBounds_toArray, List.set_cons_zero, List.set_cons_succ]
          refine wpAnyH_take (i := 30) (oi := ?o30w5) (v := ?v30w5) ?hi30w5 (by kernel_rfl) (by kernel_rfl) (by kernel_rfl) (fun _ _ _ h => h) ?y30w5 (by assumption) ?r30w5
          case hi30w5 => (simp only [List.getElem?_toArray, List.getElem?_cons_succ, List.getElem?_cons_zero]; rfl)
          case y30w5 => (refine Or.inl ⟨by rfl, ?_⟩; intro w' hSw; (try dsimp only at hSw); go_simp; (try with_reducible rfl))
          try simp only [Act.put, List.setIfInBounds_toArray, List.set_cons_zero, List.set_cons_succ]
          refine wpAnyH_take (i := 31) (oi := ?o31w5) (v := ?v31w5) ?hi31w5 (by kernel_rfl) (by kernel_rfl) (by kernel_rfl) (fun _ _ _ h => h) ?y31w5 (by assumption) ?r31w5
          case hi31w5 => (simp only [List.getElem?_toArray, List.getElem?_cons_succ, List.getElem?_cons_zero]; rfl)
          case y31w5 => (refine Or.inl ⟨by rfl, ?_⟩; intro w' hSw; (try dsimp only at hSw); go_simp; (try with_reducible rfl))
          try simp only [Act.put, List.setIfInBounds_toArray, List.set_cons_zero, List.set_cons_succ]
          refine wpAnyH_take (i := 32) (oi := ?o32w5) (v := ?v32w5) ?hi32w5 (by kernel_rfl) (by kernel_rfl) (by kernel_rfl) (fun _ _ _ h => h) ?y32w5 (by assumption) ?r32w5
          case hi32w5 => (simp only [List.getElem?_toArray, List.getElem?_cons_succ, List.getElem?_cons_zero]; rfl)
          case y32w5 => (refine Or.inl ⟨by rfl, ?_⟩; intro w' hSw; (try dsimp only at hSw); go_simp; (try with_reducible rfl))
          try simp only [Act.put, List.setIfInBounds_toArray, List.set_cons_zero, List.set_cons_succ]
          refine wpAnyH_ready (rs := [33]) (by kernel_rfl) (by simp) ?_
          refine AllReadyH.cons (o := ?o33w5) ?hi33w5 ?hst33w5 AllReadyH.nil
          case hi33w5 => (simp only [List.getElem?_toArray, List.getElem?_cons_succ, List.getElem?_cons_zero]; rfl)
          intro K hK
          go_simp
          (go_at_call 4; (with_reducible refine (HAW.out _).mono ?_); rintro e w51 ⟨rfl, hb51⟩)
          go_wp2_with fail
          refine hK.out _ _ ⟨Bx.keep_cell hb51 hHeld.1, Bx.keep_cell hb51 hHeld.2.1, Bx.keep_cell hb51 hHeld.2.2.1, Bx.keep_cell hb51 hHeld.2.2.2.1, Bx.keep_cell hb51 hHeld.2.2.2.2.1, Bx.keep_cell hb51 hHeld.2.2.2.2.2.1, Bx.keep_cell hb51 hHeld.2.2.2.2.2.2.1, Bx.keep_cell hb51 hHeld.2.2.2.2.2.2.2⟩ (fun hNew => ?_)
          clear hHeld
          have hHeld := hNew
          clear hNew hK K
          replace bel := Bx.then_below bel hb51
          clear hb51
          refine wpAnyH_take (i := 34) (oi := ?o34w5) (v := ?v34w5) ?hi34w5 (by kernel_rfl) (by kernel_rfl) (by kernel_rfl) (fun _ _ _ h => h) ?y34w5 (by assumption) ?r34w5
          case hi34w5 => (simp only [List.getElem?_toArray, List.getElem?_cons_succ, List.getElem?_cons_zero]; rfl)
          case y34w5 => (refine Or.inl ⟨by rfl, ?_⟩; intro w' hSw; (try dsimp only at hSw); go_simp; (try with_reducible rfl))
          try simp only [Act.put, List.setIfInBounds_toArray, List.set_cons_zero, List.set_cons_succ]
          refine wpAnyH_take (i := 35) (oi := ?o35w5) (v := ?v35w5) ?hi35w5 (by kernel_rfl) (by kernel_rfl) (by kernel_rfl) (fun _ _ _ h => h) ?y35w5 (by assumption) ?r35w5
          case hi35w5 => (simp only [List.getElem?_toArray, List.getElem?_cons_succ, List.getElem?_cons_zero]; rfl)
          case y35w5 => (refine Or.inl ⟨by rfl, ?_⟩; intro w' hSw; (try dsimp only at hSw); go_simp; (try with_reducible rfl))
          try simp only [Act.put, List.setIfInBounds_toArray, List.set_cons_zero, List.set_cons_succ]
          refine wpAnyH_done (by kernel_rfl) ?_ _
          refine NoPanic.normal ?_
          clear hHeld
          go_wp2_with fail
          go_ret
          exact ⟨rfl, bel⟩

end Pre

namespace LawPreferSorts
open Go.ChangeShapes Go.WideShapes Go.ChangeAt Go.RowKit
open Go.ChangeMaps (open_string shut_string)

theorem own : ownKnob Tryd.prog.godebug = none := by kernel_rfl
theorem laidOut : laidOutB Tryd.prog = true := by kernel_rfl
theorem plain : (Rows.preferSortsRow.laid.all fun x => x.2.handleName?.isNone) = true := by kernel_rfl

set_option maxRecDepth 100000 in
theorem lifted (os : Os) (started : os.Started) (H : Type) (enc : TypeId × Value → H) :
    ReturnsInHanded {} Tryd.checked os 3 .any (fun w args => (Rows.preferSortsSpec.pre enc Tryd.prog Tryd.f3 Rows.preferSortsRow.domain false w args ∧ laidMetH Tryd.prog Rows.preferSortsRow.laid w) ∧ sizedMet enc Tryd.prog Tryd.f3 (OpenSpec.ofChange Rows.preferSortsSpec) false w args)
      (Rows.preferSortsSpec.post enc Tryd.prog Tryd.f3 false true false false) := by
  refine Fr.law_lift_laid (C := Tryd.checked) (laid := Rows.preferSortsRow.laid) (tb := 4) own started (by kernel_rfl) Tryd.func3
    (ChangeSpec.witness_shaped (enc := enc) (C := Tryd.checked) (os := os) (X := fun w _ => laidMetH Tryd.prog Rows.preferSortsRow.laid w) false (World.laidAll Tryd.prog os Rows.preferSortsRow.laid) #[.slice none 0 0, .agg #[.int .i64 0, .int .i64 0, .int .i64 0, .int .i64 0]] 8 (World.laidAll_os _ _ _)
      (World.shaped_of_ZipB (by kernel_rfl) (by kernel_rfl)) (by kernel_rfl) (by kernel_rfl) (by kernel_rfl)
      (by rw [MakeChecks.laidMetH_plain _ _ _ plain]; exact laidMet_laidAll _ (by kernel_rfl) (by kernel_rfl)))
    laidOut (by rw [Tryd.params3]; decide +kernel) rfl Tryd.underlying4 rfl ?_ ?_
  · intro ds hl
    match ds, hl with
    | [d0, d1], _ => rfl
  · intro W base args ds p hsh hL hval hA
    rw [Tryd.params3] at hA hval
    obtain ⟨v0, vs0, d0, ds0, p0, q0, hargs, rfl, rfl, h0, r0⟩ := trodAll_cons hA
    obtain ⟨v1, vs1, d1, ds1, p1, q1, rfl, rfl, rfl, h1, r1⟩ := trodAll_cons r0
    obtain ⟨rfl, rfl, rfl⟩ := trodAll_nil r1
    obtain rfl : args = #[v0, v1] := by cases args; simp_all
    obtain ⟨A0, l0, c0, rfl, hm0, hA0, hw0⟩ := Pre.open_vs' (hval 0 22 v0 rfl rfl) h0
    obtain ⟨t1, rfl, ht1⟩ := Pre.open_tm (hval 1 24 v1 rfl rfl) h1
    exact Pre.law_sorts W A0 l0 c0 hm0 hA0 hw0 t1 ht1 (Dec.home_of hsh hL plain (by simp [Rows.preferSortsRow]))

theorem over : Rows.preferSortsRow.holds Tryd.pinned (OpenSpec.ofChange Rows.preferSortsSpec) :=
  OpenClaim.holds_of_wide 3 Tryd.f3 rfl rfl rfl rfl rfl rfl rfl ⟨rfl, rfl, rfl, rfl, rfl⟩ rfl rfl rfl rfl rfl (by kernel_rfl) Tryd.func3 (by kernel_rfl)
    (of_decide_eq_true (by kernel_rfl)) (by unfold Func.isWrapper; first | (rw [if_pos (by decide +kernel)]; kernel_rfl) | (rw [if_neg (by decide +kernel)]; exact ⟨rfl, rfl⟩))
    (fun os started H enc _ => lifted os started H enc)
end LawPreferSorts

/-- The statement PreferSorts (the tied card). -/
theorem preferSorts_holds : Rows.PreferSortsCardSaid :=
  Claim7.holds_tied_plain_at .later [] _ true _ _ LawPreferSorts.over (fun _ h => by cases h) (by kernel_rfl) (fun _ h => by cases h) preferSorts_row_tie rfl ⟨rfl, rfl⟩ (by kernel_rfl) rfl
    (fun f fn hf hfn => by
      obtain rfl : f = 3 := Option.some.inj ((show Tryd.prog.funcNamed Rows.preferSortsRow.func = some 3 by kernel_rfl).symm.trans hf) |>.symm
      obtain rfl : fn = Tryd.f3 := (Option.some.inj (Tryd.func3.symm.trans hfn)).symm
      exact ⟨by kernel_rfl, fun j t ht => by
        rw [Tryd.params3] at ht
        have hm : t ∈ [22, 24] := by have := Array.mem_of_getElem? ht; simp at this; simp [this]
        have hall : ([22, 24].all fun u => !Tryd.prog.wantsStandIn u) = true := by kernel_rfl
        exact (show Tryd.prog.wantsStandIn t = false by simpa using List.all_eq_true.1 hall t hm)⟩)
    (by kernel_rfl)

end Go.Proofs.YtkggphonoihidaaDoor
