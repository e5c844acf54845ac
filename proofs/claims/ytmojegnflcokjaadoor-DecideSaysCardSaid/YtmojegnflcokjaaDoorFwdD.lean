/-
  What the document's own Sound answers of any table.
-/
import Derived.Test.YtmojegnflcokjaaDoorPkFwdB
namespace Go.Proofs.YtmojegnflcokjaaDoor
open Go.RowKit
namespace Tab
open Oct

theorem ok_cases (long : Int) (e : En) : (okE long e = true ∧ decide (e.a < 0) = false ∧ decide (long ≤ e.a) = false ∧ decide (e.p < 0) = false ∧ decide (8 ≤ e.p) = false ∧ Mac.groupB e.m = false ∧ decide (e.v < 1) = false ∧ decide (4094 < e.v) = false) ∨
    (okE long e = false ∧ ((decide (e.a < 0) = true ∧ True ∧ True ∧ True ∧ True ∧ True ∧ True) ∨
      (decide (e.a < 0) = false ∧ decide (long ≤ e.a) = true ∧ True ∧ True ∧ True ∧ True ∧ True) ∨
      (decide (e.a < 0) = false ∧ decide (long ≤ e.a) = false ∧ decide (e.p < 0) = true ∧ True ∧ True ∧ True ∧ True) ∨
      (decide (e.a < 0) = false ∧ decide (long ≤ e.a) = false ∧ decide (e.p < 0) = false ∧ decide (8 ≤ e.p) = true ∧ True ∧ True ∧ True) ∨
      (decide (e.a < 0) = false ∧ decide (long ≤ e.a) = false ∧ decide (e.p < 0) = false ∧ decide (8 ≤ e.p) = false ∧ Mac.groupB e.m = true ∧ True ∧ True) ∨
      (decide (e.a < 0) = false ∧ decide (long ≤ e.a) = false ∧ decide (e.p < 0) = false ∧ decide (8 ≤ e.p) = false ∧ Mac.groupB e.m = false ∧ decide (e.v < 1) = true ∧ True) ∨
      (decide (e.a < 0) = false ∧ decide (long ≤ e.a) = false ∧ decide (e.p < 0) = false ∧ decide (8 ≤ e.p) = false ∧ Mac.groupB e.m = false ∧ decide (e.v < 1) = false ∧ decide (4094 < e.v) = true))) := by
  unfold okE rightP rightV
  by_cases h1 : e.a < 0
  · exact .inr ⟨by rw [decide_eq_false (by omega)]; rfl, .inl ⟨decide_eq_true h1, trivial, trivial, trivial, trivial, trivial, trivial⟩⟩
  by_cases h2 : long ≤ e.a
  · exact .inr ⟨by rw [decide_eq_false (by omega)]; rfl, .inr (.inl ⟨decide_eq_false h1, decide_eq_true h2, trivial, trivial, trivial, trivial, trivial⟩)⟩
  rw [decide_eq_true (show 0 ≤ e.a ∧ e.a < long by omega), Bool.true_and]
  by_cases h3 : e.p < 0
  · exact .inr ⟨by rw [decide_eq_false (by omega)]; rfl, .inr (.inr (.inl ⟨decide_eq_false h1, decide_eq_false h2, decide_eq_true h3, trivial, trivial, trivial, trivial⟩))⟩
  by_cases h4 : 8 ≤ e.p
  · exact .inr ⟨by rw [decide_eq_false (by omega)]; rfl, .inr (.inr (.inr (.inl ⟨decide_eq_false h1, decide_eq_false h2, decide_eq_false h3, decide_eq_true h4, trivial, trivial, trivial⟩)))⟩
  rw [decide_eq_true (show 0 ≤ e.p ∧ e.p < 8 by omega), Bool.true_and]
  cases h5 : Mac.groupB e.m with
  | true => exact .inr ⟨rfl, .inr (.inr (.inr (.inr (.inl ⟨decide_eq_false h1, decide_eq_false h2, decide_eq_false h3, decide_eq_false h4, rfl, trivial, trivial⟩))))⟩
  | false =>
    rw [Bool.not_false, Bool.true_and]
    by_cases h6 : e.v < 1
    · exact .inr ⟨decide_eq_false (by omega), .inr (.inr (.inr (.inr (.inr (.inl ⟨decide_eq_false h1, decide_eq_false h2, decide_eq_false h3, decide_eq_false h4, rfl, decide_eq_true h6, trivial⟩)))))⟩
    by_cases h7 : 4094 < e.v
    · exact .inr ⟨decide_eq_false (by omega), .inr (.inr (.inr (.inr (.inr (.inr (⟨decide_eq_false h1, decide_eq_false h2, decide_eq_false h3, decide_eq_false h4, rfl, decide_eq_false h6, decide_eq_true h7⟩))))))⟩
    exact .inl ⟨decide_eq_true (by omega), decide_eq_false h1, decide_eq_false h2, decide_eq_false h3, decide_eq_false h4, rfl, decide_eq_false h6, decide_eq_false h7⟩

set_option maxRecDepth 100000 in
set_option maxHeartbeats 8000000 in
theorem rsound_any (most long : Int) (l : List En) (hl : l.length ≤ maxLen) (hm : ∀ e ∈ l, e.m < 18446744073709551616) (A : Option Addr) (c : Nat) (w : World) (hA : Ents w A l) :
    Calls Tryd.prog 7 #[tv most long A l.length c] w fun e w' => e = .returned (.bool (sndB most long l)) ∧ Below w.heap.size w w' := by
  have HA := Lib.hid (hA.below (Bx.box_below w (to most long A l.length c)))
  have K := Lib.hid (Bx.Blk.new w [.int .i64 most, .int .i64 long, .slice A l.length c] 24)
  have bel := Lib.hid (Bx.box_below w (to most long A l.length c))
  have HG := Lib.hid (fun e (he : e ∈ l) w => Mac.rgroup_any e.m (hm e he) w)
  have HF := Lib.hid (ch_first long l)
  have HN := Lib.hid (ch_next long l)
  have hl' : l.length ≤ 9223372036854775807 := hl
  clear hA hm
  by_cases hlen : (l.length : Int) ≤ most
  · have hs : sndB most long l = chB long (prevE l 0) (l.drop 0) := by unfold sndB; rw [decide_eq_true hlen, Bool.true_and]; rfl
    rw [hs]
    have HZ := Lib.hid (show chB long (prevE l l.length) (l.drop l.length) = true by rw [List.drop_length]; unfold chB; rfl)
    clear hs
    obtain ⟨R, HR⟩ : ∃ R, Hid (R = chB long (prevE l 0) (l.drop 0)) := ⟨_, rfl⟩
    rw [← HR.out]
    obtain ⟨t0, t1, t2⟩ := K.out.all3
    go_enter Tryd.func7, Tryd.ntmps7
    go_wp2
    clear t0 t1 t2
    generalize w.alloc (to most long A l.length c) = W0 at *
    go_loopw [3, 4, 14] (fun _ _ ix wr => ∃ k : Nat, k ≤ l.length ∧ ix = .int .i64 k ∧ Aside (R = chB long (prevE l k) (l.drop k)) ∧ Aside (Below W0.heap.size W0 wr)) (fun _ _ ix _ => l.length - (intOf ix).toNat)
    case atStart => exact ⟨0, Nat.zero_le _, rfl, HR.out, Below.refl _ _⟩
    case round =>
      obtain ⟨k, hk, rfl, HE, HB⟩ := hrel
      by_cases hlt : k < l.length
      · by_cases h0 : k = 0
        · subst h0
          have HQ := Lib.hid (show R = (okE long l[0] && chB long (prevE l 1) (l.drop 1)) by rw [HE.out, HF.out hlt])
          obtain ⟨b, o, rfl, _, c0, c1, c2, c3⟩ := (HA.out.below HB.out).at hlt
          obtain ⟨t0, t1, t2⟩ := ((K.out.keep HB.out).keep (Bx.box_below wr (eo l[0]))).all3
          obtain ⟨d0, d1, d2, d3⟩ := (Bx.Blk.new wr (enc l[0]) 62).all4
          have BX := Lib.hid (Bx.bel_box HB.out (eo l[0]))
          have HG' := Lib.hid (HG.out l[0] (List.getElem_mem hlt))
          have hok := ok_cases long l[0]
          generalize l[0] = x at *
          obtain ⟨x1, x2, x3, x4⟩ := x
          simp only [Nat.zero_mul, Nat.add_zero] at c0 c1 c2 c3
          simp only at d0 d1 d2 d3 hok HG'
          rcases hok with ⟨hx, h1, h2, h3, h4, h5, h6, h7⟩ | ⟨hx, hok⟩
          · have HE2 := Lib.hid (show R = chB long (prevE l 1) (l.drop 1) by rw [HQ.out, hx, Bool.true_and])
            rw [h5] at HG'
            clear hx HQ h5
            go_wp2
            refine wp_region_noPanic ?_
            refine wp_region_held_drew (S := fun w' => w'.cell? ⟨wr.heap.size, 0, none⟩ = some (.int .i64 x1) ∧ w'.cell? ⟨wr.heap.size, 1, none⟩ = some (.int .u64 x2) ∧ w'.cell? ⟨wr.heap.size, 2, none⟩ = some (.int .i64 x3) ∧ w'.cell? ⟨wr.heap.size, 3, none⟩ = some (.int .i64 x4) ∧ w'.cell? ⟨w.heap.size, 0, none⟩ = some (.int .i64 most) ∧ w'.cell? ⟨w.heap.size, 1, none⟩ = some (.int .i64 long) ∧ w'.cell? ⟨w.heap.size, 2, none⟩ = some (.slice (some ⟨b, o, none⟩) l.length c)) (by kernel_rfl) (by exact ⟨d0, d1, d2, d3, t0, t1, t2⟩) (fun hHeld => ?_)
            replace BX := Lib.hid (Bx.bel_drewn BX.out)
            apply wpAnyH_take (i := 0) (hs := by kernel_rfl) (hf := by kernel_rfl) (hr := by kernel_rfl) (hQ := fun _ _ _ h => h) (hS := by assumption)
            · simp only [List.getElem?_toArray, List.getElem?_cons_zero]; rfl
            · first | exact Or.inr ⟨by rfl, rfl⟩ | (refine Or.inl ⟨by rfl, ?_⟩; intro w' hSw; (try dsimp only at hSw); go_simp; (try with_reducible rfl))
            try simp only [Act.put, List.setIfInBounds_toArray, List.set_cons_zero, List.set_cons_succ]
            apply wpAnyH_take (i := 1) (hs := by kernel_rfl) (hf := by kernel_rfl) (hr := by kernel_rfl) (hQ := fun _ _ _ h => h) (hS := by assumption)
            · simp only [List.getElem?_toArray, List.getElem?_cons_succ, List.getElem?_cons_zero]; rfl
            · first | exact Or.inr ⟨by rfl, rfl⟩ | (refine Or.inl ⟨by rfl, ?_⟩; intro w' hSw; (try dsimp only at hSw); go_simp; (try with_reducible rfl))
            try simp only [Act.put, List.setIfInBounds_toArray, List.set_cons_zero, List.set_cons_succ]
            try rw [hz0]
            apply wpAnyH_take (i := 2) (hs := by kernel_rfl) (hf := by kernel_rfl) (hr := by kernel_rfl) (hQ := fun _ _ _ h => h) (hS := by assumption)
            · simp only [List.getElem?_toArray, List.getElem?_cons_succ, List.getElem?_cons_zero]; rfl
            · first | exact Or.inr ⟨by rfl, rfl⟩ | (refine Or.inl ⟨by rfl, ?_⟩; intro w' hSw; (try dsimp only at hSw); go_simp; (try with_reducible rfl))
            try simp only [Act.put, List.setIfInBounds_toArray, List.set_cons_zero, List.set_cons_succ]
            apply wpAnyH_take (i := 3) (hs := by kernel_rfl) (hf := by kernel_rfl) (hr := by kernel_rfl) (hQ := fun _ _ _ h => h) (hS := by assumption)
            · simp only [List.getElem?_toArray, List.getElem?_cons_succ, List.getElem?_cons_zero]; rfl
            · first | exact Or.inr ⟨by rfl, rfl⟩ | (refine Or.inl ⟨by rfl, ?_⟩; intro w' hSw; (try dsimp only at hSw); go_simp; (try with_reducible rfl))
            try simp only [Act.put, List.setIfInBounds_toArray, List.set_cons_zero, List.set_cons_succ]
            apply wpAnyH_take (i := 4) (hs := by kernel_rfl) (hf := by kernel_rfl) (hr := by kernel_rfl) (hQ := fun _ _ _ h => h) (hS := by assumption)
            · simp only [List.getElem?_toArray, List.getElem?_cons_succ, List.getElem?_cons_zero]; rfl
            · first | exact Or.inr ⟨by rfl, rfl⟩ | (refine Or.inl ⟨by rfl, ?_⟩; intro w' hSw; (try dsimp only at hSw); go_simp; (try with_reducible rfl))
            try simp only [Act.put, List.setIfInBounds_toArray, List.set_cons_zero, List.set_cons_succ]
            apply wpAnyH_take (i := 5) (hs := by kernel_rfl) (hf := by kernel_rfl) (hr := by kernel_rfl) (hQ := fun _ _ _ h => h) (hS := by assumption)
            · simp only [List.getElem?_toArray, List.getElem?_cons_succ, List.getElem?_cons_zero]; rfl
            · first | exact Or.inr ⟨by rfl, rfl⟩ | (refine Or.inl ⟨by rfl, ?_⟩; intro w' hSw; (try dsimp only at hSw); go_simp; (try with_reducible rfl))
            try simp only [Act.put, List.setIfInBounds_toArray, List.set_cons_zero, List.set_cons_succ]
            apply wpAnyH_take (i := 6) (hs := by kernel_rfl) (hf := by kernel_rfl) (hr := by kernel_rfl) (hQ := fun _ _ _ h => h) (hS := by assumption)
            · simp only [List.getElem?_toArray, List.getElem?_cons_succ, List.getElem?_cons_zero]; rfl
            · first | exact Or.inr ⟨by rfl, rfl⟩ | (refine Or.inl ⟨by rfl, ?_⟩; intro w' hSw; (try dsimp only at hSw); go_simp; (try with_reducible rfl))
            try simp only [Act.put, List.setIfInBounds_toArray, List.set_cons_zero, List.set_cons_succ]
            apply wpAnyH_take (i := 7) (hs := by kernel_rfl) (hf := by kernel_rfl) (hr := by kernel_rfl) (hQ := fun _ _ _ h => h) (hS := by assumption)
            · simp only [List.getElem?_toArray, List.getElem?_cons_succ, List.getElem?_cons_zero]; rfl
            · first | exact Or.inr ⟨by rfl, rfl⟩ | (refine Or.inl ⟨by rfl, ?_⟩; intro w' hSw; (try dsimp only at hSw); go_simp; (try with_reducible rfl))
            try simp only [Act.put, List.setIfInBounds_toArray, List.set_cons_zero, List.set_cons_succ]
            apply wpAnyH_take (i := 8) (hs := by kernel_rfl) (hf := by kernel_rfl) (hr := by kernel_rfl) (hQ := fun _ _ _ h => h) (hS := by assumption)
            · simp only [List.getElem?_toArray, List.getElem?_cons_succ, List.getElem?_cons_zero]; rfl
            · first | exact Or.inr ⟨by rfl, rfl⟩ | (refine Or.inl ⟨by rfl, ?_⟩; intro w' hSw; (try dsimp only at hSw); go_simp; (try with_reducible rfl))
            try simp only [Act.put, List.setIfInBounds_toArray, List.set_cons_zero, List.set_cons_succ]
            apply wpAnyH_take (i := 9) (hs := by kernel_rfl) (hf := by kernel_rfl) (hr := by kernel_rfl) (hQ := fun _ _ _ h => h) (hS := by assumption)
            · simp only [List.getElem?_toArray, List.getElem?_cons_succ, List.getElem?_cons_zero]; rfl
            · first | exact Or.inr ⟨by rfl, rfl⟩ | (refine Or.inl ⟨by rfl, ?_⟩; intro w' hSw; (try dsimp only at hSw); go_simp; (try with_reducible rfl))
            try simp only [Act.put, List.setIfInBounds_toArray, List.set_cons_zero, List.set_cons_succ]
            apply wpAnyH_take (i := 10) (hs := by kernel_rfl) (hf := by kernel_rfl) (hr := by kernel_rfl) (hQ := fun _ _ _ h => h) (hS := by assumption)
            · simp only [List.getElem?_toArray, List.getElem?_cons_succ, List.getElem?_cons_zero]; rfl
            · first | exact Or.inr ⟨by rfl, rfl⟩ | (refine Or.inl ⟨by rfl, ?_⟩; intro w' hSw; (try dsimp only at hSw); go_simp; (try with_reducible rfl))
            try simp only [Act.put, List.setIfInBounds_toArray, List.set_cons_zero, List.set_cons_succ]
            apply wpAnyH_take (i := 11) (hs := by kernel_rfl) (hf := by kernel_rfl) (hr := by kernel_rfl) (hQ := fun _ _ _ h => h) (hS := by assumption)
            · simp only [List.getElem?_toArray, List.getElem?_cons_succ, List.getElem?_cons_zero]; rfl
            · first | exact Or.inr ⟨by rfl, rfl⟩ | (refine Or.inl ⟨by rfl, ?_⟩; intro w' hSw; (try dsimp only at hSw); go_simp; (try with_reducible rfl))
            try simp only [Act.put, List.setIfInBounds_toArray, List.set_cons_zero, List.set_cons_succ]
            apply wpAnyH_take (i := 12) (hs := by kernel_rfl) (hf := by kernel_rfl) (hr := by kernel_rfl) (hQ := fun _ _ _ h => h) (hS := by assumption)
            · simp only [List.getElem?_toArray, List.getElem?_cons_succ, List.getElem?_cons_zero]; rfl
            · first | exact Or.inr ⟨by rfl, rfl⟩ | (refine Or.inl ⟨by rfl, ?_⟩; intro w' hSw; (try dsimp only at hSw); go_simp; (try with_reducible rfl))
            try simp only [Act.put, List.setIfInBounds_toArray, List.set_cons_zero, List.set_cons_succ]
            apply wpAnyH_take (i := 13) (hs := by kernel_rfl) (hf := by kernel_rfl) (hr := by kernel_rfl) (hQ := fun _ _ _ h => h) (hS := by assumption)
            · simp only [List.getElem?_toArray, List.getElem?_cons_succ, List.getElem?_cons_zero]; rfl
            · first | exact Or.inr ⟨by rfl, rfl⟩ | (refine Or.inl ⟨by rfl, ?_⟩; intro w' hSw; (try dsimp only at hSw); go_simp; (try with_reducible rfl))
            try simp only [Act.put, List.setIfInBounds_toArray, List.set_cons_zero, List.set_cons_succ]
            apply wpAnyH_take (i := 14) (hs := by kernel_rfl) (hf := by kernel_rfl) (hr := by kernel_rfl) (hQ := fun _ _ _ h => h) (hS := by assumption)
            · simp only [List.getElem?_toArray, List.getElem?_cons_succ, List.getElem?_cons_zero]; rfl
            · first | exact Or.inr ⟨by rfl, rfl⟩ | (refine Or.inl ⟨by rfl, ?_⟩; intro w' hSw; (try dsimp only at hSw); go_simp; (try with_reducible rfl))
            try simp only [Act.put, List.setIfInBounds_toArray, List.set_cons_zero, List.set_cons_succ]
            apply wpAnyH_take (i := 15) (hs := by kernel_rfl) (hf := by kernel_rfl) (hr := by kernel_rfl) (hQ := fun _ _ _ h => h) (hS := by assumption)
            · simp only [List.getElem?_toArray, List.getElem?_cons_succ, List.getElem?_cons_zero]; rfl
            · first | exact Or.inr ⟨by rfl, rfl⟩ | (refine Or.inl ⟨by rfl, ?_⟩; intro w' hSw; (try dsimp only at hSw); go_simp; (try with_reducible rfl))
            try simp only [Act.put, List.setIfInBounds_toArray, List.set_cons_zero, List.set_cons_succ]
            apply wpAnyH_take (i := 16) (hs := by kernel_rfl) (hf := by kernel_rfl) (hr := by kernel_rfl) (hQ := fun _ _ _ h => h) (hS := by assumption)
            · simp only [List.getElem?_toArray, List.getElem?_cons_succ, List.getElem?_cons_zero]; rfl
            · first | exact Or.inr ⟨by rfl, rfl⟩ | (refine Or.inl ⟨by rfl, ?_⟩; intro w' hSw; (try dsimp only at hSw); go_simp; (try with_reducible rfl))
            try simp only [Act.put, List.setIfInBounds_toArray, List.set_cons_zero, List.set_cons_succ]
            apply wpAnyH_take (i := 17) (hs := by kernel_rfl) (hf := by kernel_rfl) (hr := by kernel_rfl) (hQ := fun _ _ _ h => h) (hS := by assumption)
            · simp only [List.getElem?_toArray, List.getElem?_cons_succ, List.getElem?_cons_zero]; rfl
            · first | exact Or.inr ⟨by rfl, rfl⟩ | (refine Or.inl ⟨by rfl, ?_⟩; intro w' hSw; (try dsimp only at hSw); go_simp; (try with_reducible rfl))
            try simp only [Act.put, List.setIfInBounds_toArray, List.set_cons_zero, List.set_cons_succ]
            apply wpAnyH_take (i := 18) (hs := by kernel_rfl) (hf := by kernel_rfl) (hr := by kernel_rfl) (hQ := fun _ _ _ h => h) (hS := by assumption)
            · simp only [List.getElem?_toArray, List.getElem?_cons_succ, List.getElem?_cons_zero]; rfl
            · first | exact Or.inr ⟨by rfl, rfl⟩ | (refine Or.inl ⟨by rfl, ?_⟩; intro w' hSw; (try dsimp only at hSw); go_simp; (try with_reducible rfl))
            try simp only [Act.put, List.setIfInBounds_toArray, List.set_cons_zero, List.set_cons_succ]
            apply wpAnyH_take (i := 19) (hs := by kernel_rfl) (hf := by kernel_rfl) (hr := by kernel_rfl) (hQ := fun _ _ _ h => h) (hS := by assumption)
            · simp only [List.getElem?_toArray, List.getElem?_cons_succ, List.getElem?_cons_zero]; rfl
            · first | exact Or.inr ⟨by rfl, rfl⟩ | (refine Or.inl ⟨by rfl, ?_⟩; intro w' hSw; (try dsimp only at hSw); go_simp; (try with_reducible rfl))
            try simp only [Act.put, List.setIfInBounds_toArray, List.set_cons_zero, List.set_cons_succ]
            try rw [h1]
            apply wpAnyH_take (i := 20) (hs := by kernel_rfl) (hf := by kernel_rfl) (hr := by kernel_rfl) (hQ := fun _ _ _ h => h) (hS := by assumption)
            · simp only [List.getElem?_toArray, List.getElem?_cons_succ, List.getElem?_cons_zero]; rfl
            · first | exact Or.inr ⟨by rfl, rfl⟩ | (refine Or.inl ⟨by rfl, ?_⟩; intro w' hSw; (try dsimp only at hSw); go_simp; (try with_reducible rfl))
            try simp only [Act.put, List.setIfInBounds_toArray, List.set_cons_zero, List.set_cons_succ]
            apply wpAnyH_take (i := 21) (hs := by kernel_rfl) (hf := by kernel_rfl) (hr := by kernel_rfl) (hQ := fun _ _ _ h => h) (hS := by assumption)
            · simp only [List.getElem?_toArray, List.getElem?_cons_succ, List.getElem?_cons_zero]; rfl
            · first | exact Or.inr ⟨by rfl, rfl⟩ | (refine Or.inl ⟨by rfl, ?_⟩; intro w' hSw; (try dsimp only at hSw); go_simp; (try with_reducible rfl))
            try simp only [Act.put, List.setIfInBounds_toArray, List.set_cons_zero, List.set_cons_succ]
            apply wpAnyH_take (i := 22) (hs := by kernel_rfl) (hf := by kernel_rfl) (hr := by kernel_rfl) (hQ := fun _ _ _ h => h) (hS := by assumption)
            · simp only [List.getElem?_toArray, List.getElem?_cons_succ, List.getElem?_cons_zero]; rfl
            · first | exact Or.inr ⟨by rfl, rfl⟩ | (refine Or.inl ⟨by rfl, ?_⟩; intro w' hSw; (try dsimp only at hSw); go_simp; (try with_reducible rfl))
            try simp only [Act.put, List.setIfInBounds_toArray, List.set_cons_zero, List.set_cons_succ]
            apply wpAnyH_take (i := 23) (hs := by kernel_rfl) (hf := by kernel_rfl) (hr := by kernel_rfl) (hQ := fun _ _ _ h => h) (hS := by assumption)
            · simp only [List.getElem?_toArray, List.getElem?_cons_succ, List.getElem?_cons_zero]; rfl
            · first | exact Or.inr ⟨by rfl, rfl⟩ | (refine Or.inl ⟨by rfl, ?_⟩; intro w' hSw; (try dsimp only at hSw); go_simp; (try with_reducible rfl))
            try simp only [Act.put, List.setIfInBounds_toArray, List.set_cons_zero, List.set_cons_succ]
            apply wpAnyH_take (i := 24) (hs := by kernel_rfl) (hf := by kernel_rfl) (hr := by kernel_rfl) (hQ := fun _ _ _ h => h) (hS := by assumption)
            · simp only [List.getElem?_toArray, List.getElem?_cons_succ, List.getElem?_cons_zero]; rfl
            · first | exact Or.inr ⟨by rfl, rfl⟩ | (refine Or.inl ⟨by rfl, ?_⟩; intro w' hSw; (try dsimp only at hSw); go_simp; (try with_reducible rfl))
            try simp only [Act.put, List.setIfInBounds_toArray, List.set_cons_zero, List.set_cons_succ]
            apply wpAnyH_take (i := 25) (hs := by kernel_rfl) (hf := by kernel_rfl) (hr := by kernel_rfl) (hQ := fun _ _ _ h => h) (hS := by assumption)
            · simp only [List.getElem?_toArray, List.getElem?_cons_succ, List.getElem?_cons_zero]; rfl
            · first | exact Or.inr ⟨by rfl, rfl⟩ | (refine Or.inl ⟨by rfl, ?_⟩; intro w' hSw; (try dsimp only at hSw); go_simp; (try with_reducible rfl))
            try simp only [Act.put, List.setIfInBounds_toArray, List.set_cons_zero, List.set_cons_succ]
            apply wpAnyH_take (i := 26) (hs := by kernel_rfl) (hf := by kernel_rfl) (hr := by kernel_rfl) (hQ := fun _ _ _ h => h) (hS := by assumption)
            · simp only [List.getElem?_toArray, List.getElem?_cons_succ, List.getElem?_cons_zero]; rfl
            · first | exact Or.inr ⟨by rfl, rfl⟩ | (refine Or.inl ⟨by rfl, ?_⟩; intro w' hSw; (try dsimp only at hSw); go_simp; (try with_reducible rfl))
            try simp only [Act.put, List.setIfInBounds_toArray, List.set_cons_zero, List.set_cons_succ]
            try rw [h2]
            apply wpAnyH_take (i := 27) (hs := by kernel_rfl) (hf := by kernel_rfl) (hr := by kernel_rfl) (hQ := fun _ _ _ h => h) (hS := by assumption)
            · simp only [List.getElem?_toArray, List.getElem?_cons_succ, List.getElem?_cons_zero]; rfl
            · first | exact Or.inr ⟨by rfl, rfl⟩ | (refine Or.inl ⟨by rfl, ?_⟩; intro w' hSw; (try dsimp only at hSw); go_simp; (try with_reducible rfl))
            try simp only [Act.put, List.setIfInBounds_toArray, List.set_cons_zero, List.set_cons_succ]
            apply wpAnyH_take (i := 28) (hs := by kernel_rfl) (hf := by kernel_rfl) (hr := by kernel_rfl) (hQ := fun _ _ _ h => h) (hS := by assumption)
            · simp only [List.getElem?_toArray, List.getElem?_cons_succ, List.getElem?_cons_zero]; rfl
            · first | exact Or.inr ⟨by rfl, rfl⟩ | (refine Or.inl ⟨by rfl, ?_⟩; intro w' hSw; (try dsimp only at hSw); go_simp; (try with_reducible rfl))
            try simp only [Act.put, List.setIfInBounds_toArray, List.set_cons_zero, List.set_cons_succ]
            apply wpAnyH_take (i := 29) (hs := by kernel_rfl) (hf := by kernel_rfl) (hr := by kernel_rfl) (hQ := fun _ _ _ h => h) (hS := by assumption)
            · simp only [List.getElem?_toArray, List.getElem?_cons_succ, List.getElem?_cons_zero]; rfl
            · first | exact Or.inr ⟨by rfl, rfl⟩ | (refine Or.inl ⟨by rfl, ?_⟩; intro w' hSw; (try dsimp only at hSw); go_simp; (try with_reducible rfl))
            try simp only [Act.put, List.setIfInBounds_toArray, List.set_cons_zero, List.set_cons_succ]
            apply wpAnyH_take (i := 30) (hs := by kernel_rfl) (hf := by kernel_rfl) (hr := by kernel_rfl) (hQ := fun _ _ _ h => h) (hS := by assumption)
            · simp only [List.getElem?_toArray, List.getElem?_cons_succ, List.getElem?_cons_zero]; rfl
            · first | exact Or.inr ⟨by rfl, rfl⟩ | (refine Or.inl ⟨by rfl, ?_⟩; intro w' hSw; (try dsimp only at hSw); go_simp; (try with_reducible rfl))
            try simp only [Act.put, List.setIfInBounds_toArray, List.set_cons_zero, List.set_cons_succ]
            apply wpAnyH_take (i := 31) (hs := by kernel_rfl) (hf := by kernel_rfl) (hr := by kernel_rfl) (hQ := fun _ _ _ h => h) (hS := by assumption)
            · simp only [List.getElem?_toArray, List.getElem?_cons_succ, List.getElem?_cons_zero]; rfl
            · first | exact Or.inr ⟨by rfl, rfl⟩ | (refine Or.inl ⟨by rfl, ?_⟩; intro w' hSw; (try dsimp only at hSw); go_simp; (try with_reducible rfl))
            try simp only [Act.put, List.setIfInBounds_toArray, List.set_cons_zero, List.set_cons_succ]
            try rw [h3]
            apply wpAnyH_take (i := 32) (hs := by kernel_rfl) (hf := by kernel_rfl) (hr := by kernel_rfl) (hQ := fun _ _ _ h => h) (hS := by assumption)
            · simp only [List.getElem?_toArray, List.getElem?_cons_succ, List.getElem?_cons_zero]; rfl
            · first | exact Or.inr ⟨by rfl, rfl⟩ | (refine Or.inl ⟨by rfl, ?_⟩; intro w' hSw; (try dsimp only at hSw); go_simp; (try with_reducible rfl))
            try simp only [Act.put, List.setIfInBounds_toArray, List.set_cons_zero, List.set_cons_succ]
            apply wpAnyH_take (i := 33) (hs := by kernel_rfl) (hf := by kernel_rfl) (hr := by kernel_rfl) (hQ := fun _ _ _ h => h) (hS := by assumption)
            · simp only [List.getElem?_toArray, List.getElem?_cons_succ, List.getElem?_cons_zero]; rfl
            · first | exact Or.inr ⟨by rfl, rfl⟩ | (refine Or.inl ⟨by rfl, ?_⟩; intro w' hSw; (try dsimp only at hSw); go_simp; (try with_reducible rfl))
            try simp only [Act.put, List.setIfInBounds_toArray, List.set_cons_zero, List.set_cons_succ]
            apply wpAnyH_take (i := 34) (hs := by kernel_rfl) (hf := by kernel_rfl) (hr := by kernel_rfl) (hQ := fun _ _ _ h => h) (hS := by assumption)
            · simp only [List.getElem?_toArray, List.getElem?_cons_succ, List.getElem?_cons_zero]; rfl
            · first | exact Or.inr ⟨by rfl, rfl⟩ | (refine Or.inl ⟨by rfl, ?_⟩; intro w' hSw; (try dsimp only at hSw); go_simp; (try with_reducible rfl))
            try simp only [Act.put, List.setIfInBounds_toArray, List.set_cons_zero, List.set_cons_succ]
            apply wpAnyH_take (i := 35) (hs := by kernel_rfl) (hf := by kernel_rfl) (hr := by kernel_rfl) (hQ := fun _ _ _ h => h) (hS := by assumption)
            · simp only [List.getElem?_toArray, List.getElem?_cons_succ, List.getElem?_cons_zero]; rfl
            · first | exact Or.inr ⟨by rfl, rfl⟩ | (refine Or.inl ⟨by rfl, ?_⟩; intro w' hSw; (try dsimp only at hSw); go_simp; (try with_reducible rfl))
            try simp only [Act.put, List.setIfInBounds_toArray, List.set_cons_zero, List.set_cons_succ]
            apply wpAnyH_take (i := 36) (hs := by kernel_rfl) (hf := by kernel_rfl) (hr := by kernel_rfl) (hQ := fun _ _ _ h => h) (hS := by assumption)
            · simp only [List.getElem?_toArray, List.getElem?_cons_succ, List.getElem?_cons_zero]; rfl
            · first | exact Or.inr ⟨by rfl, rfl⟩ | (refine Or.inl ⟨by rfl, ?_⟩; intro w' hSw; (try dsimp only at hSw); go_simp; (try with_reducible rfl))
            try simp only [Act.put, List.setIfInBounds_toArray, List.set_cons_zero, List.set_cons_succ]
            try rw [h4]
            apply wpAnyH_take (i := 37) (hs := by kernel_rfl) (hf := by kernel_rfl) (hr := by kernel_rfl) (hQ := fun _ _ _ h => h) (hS := by assumption)
            · simp only [List.getElem?_toArray, List.getElem?_cons_succ, List.getElem?_cons_zero]; rfl
            · first | exact Or.inr ⟨by rfl, rfl⟩ | (refine Or.inl ⟨by rfl, ?_⟩; intro w' hSw; (try dsimp only at hSw); go_simp; (try with_reducible rfl))
            try simp only [Act.put, List.setIfInBounds_toArray, List.set_cons_zero, List.set_cons_succ]
            apply wpAnyH_take (i := 38) (hs := by kernel_rfl) (hf := by kernel_rfl) (hr := by kernel_rfl) (hQ := fun _ _ _ h => h) (hS := by assumption)
            · simp only [List.getElem?_toArray, List.getElem?_cons_succ, List.getElem?_cons_zero]; rfl
            · first | exact Or.inr ⟨by rfl, rfl⟩ | (refine Or.inl ⟨by rfl, ?_⟩; intro w' hSw; (try dsimp only at hSw); go_simp; (try with_reducible rfl))
            try simp only [Act.put, List.setIfInBounds_toArray, List.set_cons_zero, List.set_cons_succ]
            apply wpAnyH_take (i := 39) (hs := by kernel_rfl) (hf := by kernel_rfl) (hr := by kernel_rfl) (hQ := fun _ _ _ h => h) (hS := by assumption)
            · simp only [List.getElem?_toArray, List.getElem?_cons_succ, List.getElem?_cons_zero]; rfl
            · first | exact Or.inr ⟨by rfl, rfl⟩ | (refine Or.inl ⟨by rfl, ?_⟩; intro w' hSw; (try dsimp only at hSw); go_simp; (try with_reducible rfl))
            try simp only [Act.put, List.setIfInBounds_toArray, List.set_cons_zero, List.set_cons_succ]
            apply wpAnyH_take (i := 40) (hs := by kernel_rfl) (hf := by kernel_rfl) (hr := by kernel_rfl) (hQ := fun _ _ _ h => h) (hS := by assumption)
            · simp only [List.getElem?_toArray, List.getElem?_cons_succ, List.getElem?_cons_zero]; rfl
            · first | exact Or.inr ⟨by rfl, rfl⟩ | (refine Or.inl ⟨by rfl, ?_⟩; intro w' hSw; (try dsimp only at hSw); go_simp; (try with_reducible rfl))
            try simp only [Act.put, List.setIfInBounds_toArray, List.set_cons_zero, List.set_cons_succ]
            first
            | skip
              apply wpAnyH_take (i := 41) (hs := by kernel_rfl) (hf := by kernel_rfl) (hr := by kernel_rfl) (hQ := fun _ _ _ h => h) (hS := by assumption)
              · simp only [List.getElem?_toArray, List.getElem?_cons_succ, List.getElem?_cons_zero]; rfl
              · first | exact Or.inr ⟨by rfl, rfl⟩ | (refine Or.inl ⟨by rfl, ?_⟩; intro w' hSw; (try dsimp only at hSw); go_simp; (try with_reducible rfl))
              try simp only [Act.put, List.setIfInBounds_toArray, List.set_cons_zero, List.set_cons_succ]
            | skip
              refine wpAnyH_ready (rs := [41]) (by kernel_rfl) (by simp) ?_
              apply AllReadyH.cons (hs := AllReadyH.nil)
              · simp only [List.getElem?_toArray, List.getElem?_cons_succ, List.getElem?_cons_zero]; rfl
              intro K hK
              go_simp
              (go_at_call 31; with_reducible refine (HG'.out _).mono ?_; rintro e w2 ⟨rfl, rfl⟩)
              go_wp2_with fail
              refine hK.out _ _ ⟨Bx.keep_cell (Bx.bel_refl _) hHeld.1, Bx.keep_cell (Bx.bel_refl _) hHeld.2.1, Bx.keep_cell (Bx.bel_refl _) hHeld.2.2.1, Bx.keep_cell (Bx.bel_refl _) hHeld.2.2.2.1, Bx.keep_cell (Bx.bel_refl _) hHeld.2.2.2.2.1, Bx.keep_cell (Bx.bel_refl _) hHeld.2.2.2.2.2.1, Bx.keep_cell (Bx.bel_refl _) hHeld.2.2.2.2.2.2⟩ (fun hNew => ?_)
              clear hHeld
              have hHeld := hNew
              clear hNew hK K
              skip
            apply wpAnyH_take (i := 42) (hs := by kernel_rfl) (hf := by kernel_rfl) (hr := by kernel_rfl) (hQ := fun _ _ _ h => h) (hS := by assumption)
            · simp only [List.getElem?_toArray, List.getElem?_cons_succ, List.getElem?_cons_zero]; rfl
            · first | exact Or.inr ⟨by rfl, rfl⟩ | (refine Or.inl ⟨by rfl, ?_⟩; intro w' hSw; (try dsimp only at hSw); go_simp; (try with_reducible rfl))
            try simp only [Act.put, List.setIfInBounds_toArray, List.set_cons_zero, List.set_cons_succ]
            apply wpAnyH_take (i := 43) (hs := by kernel_rfl) (hf := by kernel_rfl) (hr := by kernel_rfl) (hQ := fun _ _ _ h => h) (hS := by assumption)
            · simp only [List.getElem?_toArray, List.getElem?_cons_succ, List.getElem?_cons_zero]; rfl
            · first | exact Or.inr ⟨by rfl, rfl⟩ | (refine Or.inl ⟨by rfl, ?_⟩; intro w' hSw; (try dsimp only at hSw); go_simp; (try with_reducible rfl))
            try simp only [Act.put, List.setIfInBounds_toArray, List.set_cons_zero, List.set_cons_succ]
            apply wpAnyH_take (i := 44) (hs := by kernel_rfl) (hf := by kernel_rfl) (hr := by kernel_rfl) (hQ := fun _ _ _ h => h) (hS := by assumption)
            · simp only [List.getElem?_toArray, List.getElem?_cons_succ, List.getElem?_cons_zero]; rfl
            · first | exact Or.inr ⟨by rfl, rfl⟩ | (refine Or.inl ⟨by rfl, ?_⟩; intro w' hSw; (try dsimp only at hSw); go_simp; (try with_reducible rfl))
            try simp only [Act.put, List.setIfInBounds_toArray, List.set_cons_zero, List.set_cons_succ]
            apply wpAnyH_take (i := 45) (hs := by kernel_rfl) (hf := by kernel_rfl) (hr := by kernel_rfl) (hQ := fun _ _ _ h => h) (hS := by assumption)
            · simp only [List.getElem?_toArray, List.getElem?_cons_succ, List.getElem?_cons_zero]; rfl
            · first | exact Or.inr ⟨by rfl, rfl⟩ | (refine Or.inl ⟨by rfl, ?_⟩; intro w' hSw; (try dsimp only at hSw); go_simp; (try with_reducible rfl))
            try simp only [Act.put, List.setIfInBounds_toArray, List.set_cons_zero, List.set_cons_succ]
            apply wpAnyH_take (i := 46) (hs := by kernel_rfl) (hf := by kernel_rfl) (hr := by kernel_rfl) (hQ := fun _ _ _ h => h) (hS := by assumption)
            · simp only [List.getElem?_toArray, List.getElem?_cons_succ, List.getElem?_cons_zero]; rfl
            · first | exact Or.inr ⟨by rfl, rfl⟩ | (refine Or.inl ⟨by rfl, ?_⟩; intro w' hSw; (try dsimp only at hSw); go_simp; (try with_reducible rfl))
            try simp only [Act.put, List.setIfInBounds_toArray, List.set_cons_zero, List.set_cons_succ]
            try rw [h6]
            apply wpAnyH_take (i := 47) (hs := by kernel_rfl) (hf := by kernel_rfl) (hr := by kernel_rfl) (hQ := fun _ _ _ h => h) (hS := by assumption)
            · simp only [List.getElem?_toArray, List.getElem?_cons_succ, List.getElem?_cons_zero]; rfl
            · first | exact Or.inr ⟨by rfl, rfl⟩ | (refine Or.inl ⟨by rfl, ?_⟩; intro w' hSw; (try dsimp only at hSw); go_simp; (try with_reducible rfl))
            try simp only [Act.put, List.setIfInBounds_toArray, List.set_cons_zero, List.set_cons_succ]
            apply wpAnyH_take (i := 48) (hs := by kernel_rfl) (hf := by kernel_rfl) (hr := by kernel_rfl) (hQ := fun _ _ _ h => h) (hS := by assumption)
            · simp only [List.getElem?_toArray, List.getElem?_cons_succ, List.getElem?_cons_zero]; rfl
            · first | exact Or.inr ⟨by rfl, rfl⟩ | (refine Or.inl ⟨by rfl, ?_⟩; intro w' hSw; (try dsimp only at hSw); go_simp; (try with_reducible rfl))
            try simp only [Act.put, List.setIfInBounds_toArray, List.set_cons_zero, List.set_cons_succ]
            apply wpAnyH_take (i := 49) (hs := by kernel_rfl) (hf := by kernel_rfl) (hr := by kernel_rfl) (hQ := fun _ _ _ h => h) (hS := by assumption)
            · simp only [List.getElem?_toArray, List.getElem?_cons_succ, List.getElem?_cons_zero]; rfl
            · first | exact Or.inr ⟨by rfl, rfl⟩ | (refine Or.inl ⟨by rfl, ?_⟩; intro w' hSw; (try dsimp only at hSw); go_simp; (try with_reducible rfl))
            try simp only [Act.put, List.setIfInBounds_toArray, List.set_cons_zero, List.set_cons_succ]
            apply wpAnyH_take (i := 50) (hs := by kernel_rfl) (hf := by kernel_rfl) (hr := by kernel_rfl) (hQ := fun _ _ _ h => h) (hS := by assumption)
            · simp only [List.getElem?_toArray, List.getElem?_cons_succ, List.getElem?_cons_zero]; rfl
            · first | exact Or.inr ⟨by rfl, rfl⟩ | (refine Or.inl ⟨by rfl, ?_⟩; intro w' hSw; (try dsimp only at hSw); go_simp; (try with_reducible rfl))
            try simp only [Act.put, List.setIfInBounds_toArray, List.set_cons_zero, List.set_cons_succ]
            apply wpAnyH_take (i := 51) (hs := by kernel_rfl) (hf := by kernel_rfl) (hr := by kernel_rfl) (hQ := fun _ _ _ h => h) (hS := by assumption)
            · simp only [List.getElem?_toArray, List.getElem?_cons_succ, List.getElem?_cons_zero]; rfl
            · first | exact Or.inr ⟨by rfl, rfl⟩ | (refine Or.inl ⟨by rfl, ?_⟩; intro w' hSw; (try dsimp only at hSw); go_simp; (try with_reducible rfl))
            try simp only [Act.put, List.setIfInBounds_toArray, List.set_cons_zero, List.set_cons_succ]
            try rw [h7]
            apply wpAnyH_take (i := 52) (hs := by kernel_rfl) (hf := by kernel_rfl) (hr := by kernel_rfl) (hQ := fun _ _ _ h => h) (hS := by assumption)
            · simp only [List.getElem?_toArray, List.getElem?_cons_succ, List.getElem?_cons_zero]; rfl
            · first | exact Or.inr ⟨by rfl, rfl⟩ | (refine Or.inl ⟨by rfl, ?_⟩; intro w' hSw; (try dsimp only at hSw); go_simp; (try with_reducible rfl))
            try simp only [Act.put, List.setIfInBounds_toArray, List.set_cons_zero, List.set_cons_succ]
            refine wpAnyH_done (by kernel_rfl) ?_ _
            refine NoPanic.normal ?_
            clear hHeld
            go_wp2
            go_roundw
            case rel => exact ⟨1, by omega, by go_num, HE2.out, BX.out⟩
            case measure => simp [intOf]; omega
          · have HE2 := Lib.hid (show R = false by rw [HQ.out, hx, Bool.false_and])
            clear hx HQ
            rcases hok with ⟨h1, h2, h3, h4, h5, h6, h7⟩ | ⟨h1, h2, h3, h4, h5, h6, h7⟩ | ⟨h1, h2, h3, h4, h5, h6, h7⟩ | ⟨h1, h2, h3, h4, h5, h6, h7⟩ | ⟨h1, h2, h3, h4, h5, h6, h7⟩ | ⟨h1, h2, h3, h4, h5, h6, h7⟩ | ⟨h1, h2, h3, h4, h5, h6, h7⟩
            all_goals
              try rw [h5] at HG'
              try clear h5
              go_wp2
              refine wp_region_noPanic ?_
              refine wp_region_held_drew (S := fun w' => w'.cell? ⟨wr.heap.size, 0, none⟩ = some (.int .i64 x1) ∧ w'.cell? ⟨wr.heap.size, 1, none⟩ = some (.int .u64 x2) ∧ w'.cell? ⟨wr.heap.size, 2, none⟩ = some (.int .i64 x3) ∧ w'.cell? ⟨wr.heap.size, 3, none⟩ = some (.int .i64 x4) ∧ w'.cell? ⟨w.heap.size, 0, none⟩ = some (.int .i64 most) ∧ w'.cell? ⟨w.heap.size, 1, none⟩ = some (.int .i64 long) ∧ w'.cell? ⟨w.heap.size, 2, none⟩ = some (.slice (some ⟨b, o, none⟩) l.length c)) (by kernel_rfl) (by exact ⟨d0, d1, d2, d3, t0, t1, t2⟩) (fun hHeld => ?_)
              replace BX := Lib.hid (Bx.bel_drewn BX.out)
              apply wpAnyH_take (i := 0) (hs := by kernel_rfl) (hf := by kernel_rfl) (hr := by kernel_rfl) (hQ := fun _ _ _ h => h) (hS := by assumption)
              · simp only [List.getElem?_toArray, List.getElem?_cons_zero]; rfl
              · first | exact Or.inr ⟨by rfl, rfl⟩ | (refine Or.inl ⟨by rfl, ?_⟩; intro w' hSw; (try dsimp only at hSw); go_simp; (try with_reducible rfl))
              try simp only [Act.put, List.setIfInBounds_toArray, List.set_cons_zero, List.set_cons_succ]
              apply wpAnyH_take (i := 1) (hs := by kernel_rfl) (hf := by kernel_rfl) (hr := by kernel_rfl) (hQ := fun _ _ _ h => h) (hS := by assumption)
              · simp only [List.getElem?_toArray, List.getElem?_cons_succ, List.getElem?_cons_zero]; rfl
              · first | exact Or.inr ⟨by rfl, rfl⟩ | (refine Or.inl ⟨by rfl, ?_⟩; intro w' hSw; (try dsimp only at hSw); go_simp; (try with_reducible rfl))
              try simp only [Act.put, List.setIfInBounds_toArray, List.set_cons_zero, List.set_cons_succ]
              try rw [hz0]
              apply wpAnyH_take (i := 2) (hs := by kernel_rfl) (hf := by kernel_rfl) (hr := by kernel_rfl) (hQ := fun _ _ _ h => h) (hS := by assumption)
              · simp only [List.getElem?_toArray, List.getElem?_cons_succ, List.getElem?_cons_zero]; rfl
              · first | exact Or.inr ⟨by rfl, rfl⟩ | (refine Or.inl ⟨by rfl, ?_⟩; intro w' hSw; (try dsimp only at hSw); go_simp; (try with_reducible rfl))
              try simp only [Act.put, List.setIfInBounds_toArray, List.set_cons_zero, List.set_cons_succ]
              apply wpAnyH_take (i := 3) (hs := by kernel_rfl) (hf := by kernel_rfl) (hr := by kernel_rfl) (hQ := fun _ _ _ h => h) (hS := by assumption)
              · simp only [List.getElem?_toArray, List.getElem?_cons_succ, List.getElem?_cons_zero]; rfl
              · first | exact Or.inr ⟨by rfl, rfl⟩ | (refine Or.inl ⟨by rfl, ?_⟩; intro w' hSw; (try dsimp only at hSw); go_simp; (try with_reducible rfl))
              try simp only [Act.put, List.setIfInBounds_toArray, List.set_cons_zero, List.set_cons_succ]
              apply wpAnyH_take (i := 4) (hs := by kernel_rfl) (hf := by kernel_rfl) (hr := by kernel_rfl) (hQ := fun _ _ _ h => h) (hS := by assumption)
              · simp only [List.getElem?_toArray, List.getElem?_cons_succ, List.getElem?_cons_zero]; rfl
              · first | exact Or.inr ⟨by rfl, rfl⟩ | (refine Or.inl ⟨by rfl, ?_⟩; intro w' hSw; (try dsimp only at hSw); go_simp; (try with_reducible rfl))
              try simp only [Act.put, List.setIfInBounds_toArray, List.set_cons_zero, List.set_cons_succ]
              apply wpAnyH_take (i := 5) (hs := by kernel_rfl) (hf := by kernel_rfl) (hr := by kernel_rfl) (hQ := fun _ _ _ h => h) (hS := by assumption)
              · simp only [List.getElem?_toArray, List.getElem?_cons_succ, List.getElem?_cons_zero]; rfl
              · first | exact Or.inr ⟨by rfl, rfl⟩ | (refine Or.inl ⟨by rfl, ?_⟩; intro w' hSw; (try dsimp only at hSw); go_simp; (try with_reducible rfl))
              try simp only [Act.put, List.setIfInBounds_toArray, List.set_cons_zero, List.set_cons_succ]
              apply wpAnyH_take (i := 6) (hs := by kernel_rfl) (hf := by kernel_rfl) (hr := by kernel_rfl) (hQ := fun _ _ _ h => h) (hS := by assumption)
              · simp only [List.getElem?_toArray, List.getElem?_cons_succ, List.getElem?_cons_zero]; rfl
              · first | exact Or.inr ⟨by rfl, rfl⟩ | (refine Or.inl ⟨by rfl, ?_⟩; intro w' hSw; (try dsimp only at hSw); go_simp; (try with_reducible rfl))
              try simp only [Act.put, List.setIfInBounds_toArray, List.set_cons_zero, List.set_cons_succ]
              apply wpAnyH_take (i := 7) (hs := by kernel_rfl) (hf := by kernel_rfl) (hr := by kernel_rfl) (hQ := fun _ _ _ h => h) (hS := by assumption)
              · simp only [List.getElem?_toArray, List.getElem?_cons_succ, List.getElem?_cons_zero]; rfl
              · first | exact Or.inr ⟨by rfl, rfl⟩ | (refine Or.inl ⟨by rfl, ?_⟩; intro w' hSw; (try dsimp only at hSw); go_simp; (try with_reducible rfl))
              try simp only [Act.put, List.setIfInBounds_toArray, List.set_cons_zero, List.set_cons_succ]
              apply wpAnyH_take (i := 8) (hs := by kernel_rfl) (hf := by kernel_rfl) (hr := by kernel_rfl) (hQ := fun _ _ _ h => h) (hS := by assumption)
              · simp only [List.getElem?_toArray, List.getElem?_cons_succ, List.getElem?_cons_zero]; rfl
              · first | exact Or.inr ⟨by rfl, rfl⟩ | (refine Or.inl ⟨by rfl, ?_⟩; intro w' hSw; (try dsimp only at hSw); go_simp; (try with_reducible rfl))
              try simp only [Act.put, List.setIfInBounds_toArray, List.set_cons_zero, List.set_cons_succ]
              apply wpAnyH_take (i := 9) (hs := by kernel_rfl) (hf := by kernel_rfl) (hr := by kernel_rfl) (hQ := fun _ _ _ h => h) (hS := by assumption)
              · simp only [List.getElem?_toArray, List.getElem?_cons_succ, List.getElem?_cons_zero]; rfl
              · first | exact Or.inr ⟨by rfl, rfl⟩ | (refine Or.inl ⟨by rfl, ?_⟩; intro w' hSw; (try dsimp only at hSw); go_simp; (try with_reducible rfl))
              try simp only [Act.put, List.setIfInBounds_toArray, List.set_cons_zero, List.set_cons_succ]
              apply wpAnyH_take (i := 10) (hs := by kernel_rfl) (hf := by kernel_rfl) (hr := by kernel_rfl) (hQ := fun _ _ _ h => h) (hS := by assumption)
              · simp only [List.getElem?_toArray, List.getElem?_cons_succ, List.getElem?_cons_zero]; rfl
              · first | exact Or.inr ⟨by rfl, rfl⟩ | (refine Or.inl ⟨by rfl, ?_⟩; intro w' hSw; (try dsimp only at hSw); go_simp; (try with_reducible rfl))
              try simp only [Act.put, List.setIfInBounds_toArray, List.set_cons_zero, List.set_cons_succ]
              apply wpAnyH_take (i := 11) (hs := by kernel_rfl) (hf := by kernel_rfl) (hr := by kernel_rfl) (hQ := fun _ _ _ h => h) (hS := by assumption)
              · simp only [List.getElem?_toArray, List.getElem?_cons_succ, List.getElem?_cons_zero]; rfl
              · first | exact Or.inr ⟨by rfl, rfl⟩ | (refine Or.inl ⟨by rfl, ?_⟩; intro w' hSw; (try dsimp only at hSw); go_simp; (try with_reducible rfl))
              try simp only [Act.put, List.setIfInBounds_toArray, List.set_cons_zero, List.set_cons_succ]
              apply wpAnyH_take (i := 12) (hs := by kernel_rfl) (hf := by kernel_rfl) (hr := by kernel_rfl) (hQ := fun _ _ _ h => h) (hS := by assumption)
              · simp only [List.getElem?_toArray, List.getElem?_cons_succ, List.getElem?_cons_zero]; rfl
              · first | exact Or.inr ⟨by rfl, rfl⟩ | (refine Or.inl ⟨by rfl, ?_⟩; intro w' hSw; (try dsimp only at hSw); go_simp; (try with_reducible rfl))
              try simp only [Act.put, List.setIfInBounds_toArray, List.set_cons_zero, List.set_cons_succ]
              apply wpAnyH_take (i := 13) (hs := by kernel_rfl) (hf := by kernel_rfl) (hr := by kernel_rfl) (hQ := fun _ _ _ h => h) (hS := by assumption)
              · simp only [List.getElem?_toArray, List.getElem?_cons_succ, List.getElem?_cons_zero]; rfl
              · first | exact Or.inr ⟨by rfl, rfl⟩ | (refine Or.inl ⟨by rfl, ?_⟩; intro w' hSw; (try dsimp only at hSw); go_simp; (try with_reducible rfl))
              try simp only [Act.put, List.setIfInBounds_toArray, List.set_cons_zero, List.set_cons_succ]
              apply wpAnyH_take (i := 14) (hs := by kernel_rfl) (hf := by kernel_rfl) (hr := by kernel_rfl) (hQ := fun _ _ _ h => h) (hS := by assumption)
              · simp only [List.getElem?_toArray, List.getElem?_cons_succ, List.getElem?_cons_zero]; rfl
              · first | exact Or.inr ⟨by rfl, rfl⟩ | (refine Or.inl ⟨by rfl, ?_⟩; intro w' hSw; (try dsimp only at hSw); go_simp; (try with_reducible rfl))
              try simp only [Act.put, List.setIfInBounds_toArray, List.set_cons_zero, List.set_cons_succ]
              apply wpAnyH_take (i := 15) (hs := by kernel_rfl) (hf := by kernel_rfl) (hr := by kernel_rfl) (hQ := fun _ _ _ h => h) (hS := by assumption)
              · simp only [List.getElem?_toArray, List.getElem?_cons_succ, List.getElem?_cons_zero]; rfl
              · first | exact Or.inr ⟨by rfl, rfl⟩ | (refine Or.inl ⟨by rfl, ?_⟩; intro w' hSw; (try dsimp only at hSw); go_simp; (try with_reducible rfl))
              try simp only [Act.put, List.setIfInBounds_toArray, List.set_cons_zero, List.set_cons_succ]
              apply wpAnyH_take (i := 16) (hs := by kernel_rfl) (hf := by kernel_rfl) (hr := by kernel_rfl) (hQ := fun _ _ _ h => h) (hS := by assumption)
              · simp only [List.getElem?_toArray, List.getElem?_cons_succ, List.getElem?_cons_zero]; rfl
              · first | exact Or.inr ⟨by rfl, rfl⟩ | (refine Or.inl ⟨by rfl, ?_⟩; intro w' hSw; (try dsimp only at hSw); go_simp; (try with_reducible rfl))
              try simp only [Act.put, List.setIfInBounds_toArray, List.set_cons_zero, List.set_cons_succ]
              apply wpAnyH_take (i := 17) (hs := by kernel_rfl) (hf := by kernel_rfl) (hr := by kernel_rfl) (hQ := fun _ _ _ h => h) (hS := by assumption)
              · simp only [List.getElem?_toArray, List.getElem?_cons_succ, List.getElem?_cons_zero]; rfl
              · first | exact Or.inr ⟨by rfl, rfl⟩ | (refine Or.inl ⟨by rfl, ?_⟩; intro w' hSw; (try dsimp only at hSw); go_simp; (try with_reducible rfl))
              try simp only [Act.put, List.setIfInBounds_toArray, List.set_cons_zero, List.set_cons_succ]
              apply wpAnyH_take (i := 18) (hs := by kernel_rfl) (hf := by kernel_rfl) (hr := by kernel_rfl) (hQ := fun _ _ _ h => h) (hS := by assumption)
              · simp only [List.getElem?_toArray, List.getElem?_cons_succ, List.getElem?_cons_zero]; rfl
              · first | exact Or.inr ⟨by rfl, rfl⟩ | (refine Or.inl ⟨by rfl, ?_⟩; intro w' hSw; (try dsimp only at hSw); go_simp; (try with_reducible rfl))
              try simp only [Act.put, List.setIfInBounds_toArray, List.set_cons_zero, List.set_cons_succ]
              apply wpAnyH_take (i := 19) (hs := by kernel_rfl) (hf := by kernel_rfl) (hr := by kernel_rfl) (hQ := fun _ _ _ h => h) (hS := by assumption)
              · simp only [List.getElem?_toArray, List.getElem?_cons_succ, List.getElem?_cons_zero]; rfl
              · first | exact Or.inr ⟨by rfl, rfl⟩ | (refine Or.inl ⟨by rfl, ?_⟩; intro w' hSw; (try dsimp only at hSw); go_simp; (try with_reducible rfl))
              try simp only [Act.put, List.setIfInBounds_toArray, List.set_cons_zero, List.set_cons_succ]
              try rw [h1]
              apply wpAnyH_take (i := 20) (hs := by kernel_rfl) (hf := by kernel_rfl) (hr := by kernel_rfl) (hQ := fun _ _ _ h => h) (hS := by assumption)
              · simp only [List.getElem?_toArray, List.getElem?_cons_succ, List.getElem?_cons_zero]; rfl
              · first | exact Or.inr ⟨by rfl, rfl⟩ | (refine Or.inl ⟨by rfl, ?_⟩; intro w' hSw; (try dsimp only at hSw); go_simp; (try with_reducible rfl))
              try simp only [Act.put, List.setIfInBounds_toArray, List.set_cons_zero, List.set_cons_succ]
              apply wpAnyH_take (i := 21) (hs := by kernel_rfl) (hf := by kernel_rfl) (hr := by kernel_rfl) (hQ := fun _ _ _ h => h) (hS := by assumption)
              · simp only [List.getElem?_toArray, List.getElem?_cons_succ, List.getElem?_cons_zero]; rfl
              · first | exact Or.inr ⟨by rfl, rfl⟩ | (refine Or.inl ⟨by rfl, ?_⟩; intro w' hSw; (try dsimp only at hSw); go_simp; (try with_reducible rfl))
              try simp only [Act.put, List.setIfInBounds_toArray, List.set_cons_zero, List.set_cons_succ]
              apply wpAnyH_take (i := 22) (hs := by kernel_rfl) (hf := by kernel_rfl) (hr := by kernel_rfl) (hQ := fun _ _ _ h => h) (hS := by assumption)
              · simp only [List.getElem?_toArray, List.getElem?_cons_succ, List.getElem?_cons_zero]; rfl
              · first | exact Or.inr ⟨by rfl, rfl⟩ | (refine Or.inl ⟨by rfl, ?_⟩; intro w' hSw; (try dsimp only at hSw); go_simp; (try with_reducible rfl))
              try simp only [Act.put, List.setIfInBounds_toArray, List.set_cons_zero, List.set_cons_succ]
              apply wpAnyH_take (i := 23) (hs := by kernel_rfl) (hf := by kernel_rfl) (hr := by kernel_rfl) (hQ := fun _ _ _ h => h) (hS := by assumption)
              · simp only [List.getElem?_toArray, List.getElem?_cons_succ, List.getElem?_cons_zero]; rfl
              · first | exact Or.inr ⟨by rfl, rfl⟩ | (refine Or.inl ⟨by rfl, ?_⟩; intro w' hSw; (try dsimp only at hSw); go_simp; (try with_reducible rfl))
              try simp only [Act.put, List.setIfInBounds_toArray, List.set_cons_zero, List.set_cons_succ]
              apply wpAnyH_take (i := 24) (hs := by kernel_rfl) (hf := by kernel_rfl) (hr := by kernel_rfl) (hQ := fun _ _ _ h => h) (hS := by assumption)
              · simp only [List.getElem?_toArray, List.getElem?_cons_succ, List.getElem?_cons_zero]; rfl
              · first | exact Or.inr ⟨by rfl, rfl⟩ | (refine Or.inl ⟨by rfl, ?_⟩; intro w' hSw; (try dsimp only at hSw); go_simp; (try with_reducible rfl))
              try simp only [Act.put, List.setIfInBounds_toArray, List.set_cons_zero, List.set_cons_succ]
              apply wpAnyH_take (i := 25) (hs := by kernel_rfl) (hf := by kernel_rfl) (hr := by kernel_rfl) (hQ := fun _ _ _ h => h) (hS := by assumption)
              · simp only [List.getElem?_toArray, List.getElem?_cons_succ, List.getElem?_cons_zero]; rfl
              · first | exact Or.inr ⟨by rfl, rfl⟩ | (refine Or.inl ⟨by rfl, ?_⟩; intro w' hSw; (try dsimp only at hSw); go_simp; (try with_reducible rfl))
              try simp only [Act.put, List.setIfInBounds_toArray, List.set_cons_zero, List.set_cons_succ]
              apply wpAnyH_take (i := 26) (hs := by kernel_rfl) (hf := by kernel_rfl) (hr := by kernel_rfl) (hQ := fun _ _ _ h => h) (hS := by assumption)
              · simp only [List.getElem?_toArray, List.getElem?_cons_succ, List.getElem?_cons_zero]; rfl
              · first | exact Or.inr ⟨by rfl, rfl⟩ | (refine Or.inl ⟨by rfl, ?_⟩; intro w' hSw; (try dsimp only at hSw); go_simp; (try with_reducible rfl))
              try simp only [Act.put, List.setIfInBounds_toArray, List.set_cons_zero, List.set_cons_succ]
              try rw [h2]
              apply wpAnyH_take (i := 27) (hs := by kernel_rfl) (hf := by kernel_rfl) (hr := by kernel_rfl) (hQ := fun _ _ _ h => h) (hS := by assumption)
              · simp only [List.getElem?_toArray, List.getElem?_cons_succ, List.getElem?_cons_zero]; rfl
              · first | exact Or.inr ⟨by rfl, rfl⟩ | (refine Or.inl ⟨by rfl, ?_⟩; intro w' hSw; (try dsimp only at hSw); go_simp; (try with_reducible rfl))
              try simp only [Act.put, List.setIfInBounds_toArray, List.set_cons_zero, List.set_cons_succ]
              apply wpAnyH_take (i := 28) (hs := by kernel_rfl) (hf := by kernel_rfl) (hr := by kernel_rfl) (hQ := fun _ _ _ h => h) (hS := by assumption)
              · simp only [List.getElem?_toArray, List.getElem?_cons_succ, List.getElem?_cons_zero]; rfl
              · first | exact Or.inr ⟨by rfl, rfl⟩ | (refine Or.inl ⟨by rfl, ?_⟩; intro w' hSw; (try dsimp only at hSw); go_simp; (try with_reducible rfl))
              try simp only [Act.put, List.setIfInBounds_toArray, List.set_cons_zero, List.set_cons_succ]
              apply wpAnyH_take (i := 29) (hs := by kernel_rfl) (hf := by kernel_rfl) (hr := by kernel_rfl) (hQ := fun _ _ _ h => h) (hS := by assumption)
              · simp only [List.getElem?_toArray, List.getElem?_cons_succ, List.getElem?_cons_zero]; rfl
              · first | exact Or.inr ⟨by rfl, rfl⟩ | (refine Or.inl ⟨by rfl, ?_⟩; intro w' hSw; (try dsimp only at hSw); go_simp; (try with_reducible rfl))
              try simp only [Act.put, List.setIfInBounds_toArray, List.set_cons_zero, List.set_cons_succ]
              apply wpAnyH_take (i := 30) (hs := by kernel_rfl) (hf := by kernel_rfl) (hr := by kernel_rfl) (hQ := fun _ _ _ h => h) (hS := by assumption)
              · simp only [List.getElem?_toArray, List.getElem?_cons_succ, List.getElem?_cons_zero]; rfl
              · first | exact Or.inr ⟨by rfl, rfl⟩ | (refine Or.inl ⟨by rfl, ?_⟩; intro w' hSw; (try dsimp only at hSw); go_simp; (try with_reducible rfl))
              try simp only [Act.put, List.setIfInBounds_toArray, List.set_cons_zero, List.set_cons_succ]
              apply wpAnyH_take (i := 31) (hs := by kernel_rfl) (hf := by kernel_rfl) (hr := by kernel_rfl) (hQ := fun _ _ _ h => h) (hS := by assumption)
              · simp only [List.getElem?_toArray, List.getElem?_cons_succ, List.getElem?_cons_zero]; rfl
              · first | exact Or.inr ⟨by rfl, rfl⟩ | (refine Or.inl ⟨by rfl, ?_⟩; intro w' hSw; (try dsimp only at hSw); go_simp; (try with_reducible rfl))
              try simp only [Act.put, List.setIfInBounds_toArray, List.set_cons_zero, List.set_cons_succ]
              try rw [h3]
              apply wpAnyH_take (i := 32) (hs := by kernel_rfl) (hf := by kernel_rfl) (hr := by kernel_rfl) (hQ := fun _ _ _ h => h) (hS := by assumption)
              · simp only [List.getElem?_toArray, List.getElem?_cons_succ, List.getElem?_cons_zero]; rfl
              · first | exact Or.inr ⟨by rfl, rfl⟩ | (refine Or.inl ⟨by rfl, ?_⟩; intro w' hSw; (try dsimp only at hSw); go_simp; (try with_reducible rfl))
              try simp only [Act.put, List.setIfInBounds_toArray, List.set_cons_zero, List.set_cons_succ]
              apply wpAnyH_take (i := 33) (hs := by kernel_rfl) (hf := by kernel_rfl) (hr := by kernel_rfl) (hQ := fun _ _ _ h => h) (hS := by assumption)
              · simp only [List.getElem?_toArray, List.getElem?_cons_succ, List.getElem?_cons_zero]; rfl
              · first | exact Or.inr ⟨by rfl, rfl⟩ | (refine Or.inl ⟨by rfl, ?_⟩; intro w' hSw; (try dsimp only at hSw); go_simp; (try with_reducible rfl))
              try simp only [Act.put, List.setIfInBounds_toArray, List.set_cons_zero, List.set_cons_succ]
              apply wpAnyH_take (i := 34) (hs := by kernel_rfl) (hf := by kernel_rfl) (hr := by kernel_rfl) (hQ := fun _ _ _ h => h) (hS := by assumption)
              · simp only [List.getElem?_toArray, List.getElem?_cons_succ, List.getElem?_cons_zero]; rfl
              · first | exact Or.inr ⟨by rfl, rfl⟩ | (refine Or.inl ⟨by rfl, ?_⟩; intro w' hSw; (try dsimp only at hSw); go_simp; (try with_reducible rfl))
              try simp only [Act.put, List.setIfInBounds_toArray, List.set_cons_zero, List.set_cons_succ]
              apply wpAnyH_take (i := 35) (hs := by kernel_rfl) (hf := by kernel_rfl) (hr := by kernel_rfl) (hQ := fun _ _ _ h => h) (hS := by assumption)
              · simp only [List.getElem?_toArray, List.getElem?_cons_succ, List.getElem?_cons_zero]; rfl
              · first | exact Or.inr ⟨by rfl, rfl⟩ | (refine Or.inl ⟨by rfl, ?_⟩; intro w' hSw; (try dsimp only at hSw); go_simp; (try with_reducible rfl))
              try simp only [Act.put, List.setIfInBounds_toArray, List.set_cons_zero, List.set_cons_succ]
              apply wpAnyH_take (i := 36) (hs := by kernel_rfl) (hf := by kernel_rfl) (hr := by kernel_rfl) (hQ := fun _ _ _ h => h) (hS := by assumption)
              · simp only [List.getElem?_toArray, List.getElem?_cons_succ, List.getElem?_cons_zero]; rfl
              · first | exact Or.inr ⟨by rfl, rfl⟩ | (refine Or.inl ⟨by rfl, ?_⟩; intro w' hSw; (try dsimp only at hSw); go_simp; (try with_reducible rfl))
              try simp only [Act.put, List.setIfInBounds_toArray, List.set_cons_zero, List.set_cons_succ]
              try rw [h4]
              apply wpAnyH_take (i := 37) (hs := by kernel_rfl) (hf := by kernel_rfl) (hr := by kernel_rfl) (hQ := fun _ _ _ h => h) (hS := by assumption)
              · simp only [List.getElem?_toArray, List.getElem?_cons_succ, List.getElem?_cons_zero]; rfl
              · first | exact Or.inr ⟨by rfl, rfl⟩ | (refine Or.inl ⟨by rfl, ?_⟩; intro w' hSw; (try dsimp only at hSw); go_simp; (try with_reducible rfl))
              try simp only [Act.put, List.setIfInBounds_toArray, List.set_cons_zero, List.set_cons_succ]
              apply wpAnyH_take (i := 38) (hs := by kernel_rfl) (hf := by kernel_rfl) (hr := by kernel_rfl) (hQ := fun _ _ _ h => h) (hS := by assumption)
              · simp only [List.getElem?_toArray, List.getElem?_cons_succ, List.getElem?_cons_zero]; rfl
              · first | exact Or.inr ⟨by rfl, rfl⟩ | (refine Or.inl ⟨by rfl, ?_⟩; intro w' hSw; (try dsimp only at hSw); go_simp; (try with_reducible rfl))
              try simp only [Act.put, List.setIfInBounds_toArray, List.set_cons_zero, List.set_cons_succ]
              apply wpAnyH_take (i := 39) (hs := by kernel_rfl) (hf := by kernel_rfl) (hr := by kernel_rfl) (hQ := fun _ _ _ h => h) (hS := by assumption)
              · simp only [List.getElem?_toArray, List.getElem?_cons_succ, List.getElem?_cons_zero]; rfl
              · first | exact Or.inr ⟨by rfl, rfl⟩ | (refine Or.inl ⟨by rfl, ?_⟩; intro w' hSw; (try dsimp only at hSw); go_simp; (try with_reducible rfl))
              try simp only [Act.put, List.setIfInBounds_toArray, List.set_cons_zero, List.set_cons_succ]
              apply wpAnyH_take (i := 40) (hs := by kernel_rfl) (hf := by kernel_rfl) (hr := by kernel_rfl) (hQ := fun _ _ _ h => h) (hS := by assumption)
              · simp only [List.getElem?_toArray, List.getElem?_cons_succ, List.getElem?_cons_zero]; rfl
              · first | exact Or.inr ⟨by rfl, rfl⟩ | (refine Or.inl ⟨by rfl, ?_⟩; intro w' hSw; (try dsimp only at hSw); go_simp; (try with_reducible rfl))
              try simp only [Act.put, List.setIfInBounds_toArray, List.set_cons_zero, List.set_cons_succ]
              first
              | skip
                apply wpAnyH_take (i := 41) (hs := by kernel_rfl) (hf := by kernel_rfl) (hr := by kernel_rfl) (hQ := fun _ _ _ h => h) (hS := by assumption)
                · simp only [List.getElem?_toArray, List.getElem?_cons_succ, List.getElem?_cons_zero]; rfl
                · first | exact Or.inr ⟨by rfl, rfl⟩ | (refine Or.inl ⟨by rfl, ?_⟩; intro w' hSw; (try dsimp only at hSw); go_simp; (try with_reducible rfl))
                try simp only [Act.put, List.setIfInBounds_toArray, List.set_cons_zero, List.set_cons_succ]
              | skip
                refine wpAnyH_ready (rs := [41]) (by kernel_rfl) (by simp) ?_
                apply AllReadyH.cons (hs := AllReadyH.nil)
                · simp only [List.getElem?_toArray, List.getElem?_cons_succ, List.getElem?_cons_zero]; rfl
                intro K hK
                go_simp
                (go_at_call 31; with_reducible refine (HG'.out _).mono ?_; rintro e w2 ⟨rfl, rfl⟩)
                go_wp2_with fail
                refine hK.out _ _ ⟨Bx.keep_cell (Bx.bel_refl _) hHeld.1, Bx.keep_cell (Bx.bel_refl _) hHeld.2.1, Bx.keep_cell (Bx.bel_refl _) hHeld.2.2.1, Bx.keep_cell (Bx.bel_refl _) hHeld.2.2.2.1, Bx.keep_cell (Bx.bel_refl _) hHeld.2.2.2.2.1, Bx.keep_cell (Bx.bel_refl _) hHeld.2.2.2.2.2.1, Bx.keep_cell (Bx.bel_refl _) hHeld.2.2.2.2.2.2⟩ (fun hNew => ?_)
                clear hHeld
                have hHeld := hNew
                clear hNew hK K
                skip
              apply wpAnyH_take (i := 42) (hs := by kernel_rfl) (hf := by kernel_rfl) (hr := by kernel_rfl) (hQ := fun _ _ _ h => h) (hS := by assumption)
              · simp only [List.getElem?_toArray, List.getElem?_cons_succ, List.getElem?_cons_zero]; rfl
              · first | exact Or.inr ⟨by rfl, rfl⟩ | (refine Or.inl ⟨by rfl, ?_⟩; intro w' hSw; (try dsimp only at hSw); go_simp; (try with_reducible rfl))
              try simp only [Act.put, List.setIfInBounds_toArray, List.set_cons_zero, List.set_cons_succ]
              apply wpAnyH_take (i := 43) (hs := by kernel_rfl) (hf := by kernel_rfl) (hr := by kernel_rfl) (hQ := fun _ _ _ h => h) (hS := by assumption)
              · simp only [List.getElem?_toArray, List.getElem?_cons_succ, List.getElem?_cons_zero]; rfl
              · first | exact Or.inr ⟨by rfl, rfl⟩ | (refine Or.inl ⟨by rfl, ?_⟩; intro w' hSw; (try dsimp only at hSw); go_simp; (try with_reducible rfl))
              try simp only [Act.put, List.setIfInBounds_toArray, List.set_cons_zero, List.set_cons_succ]
              apply wpAnyH_take (i := 44) (hs := by kernel_rfl) (hf := by kernel_rfl) (hr := by kernel_rfl) (hQ := fun _ _ _ h => h) (hS := by assumption)
              · simp only [List.getElem?_toArray, List.getElem?_cons_succ, List.getElem?_cons_zero]; rfl
              · first | exact Or.inr ⟨by rfl, rfl⟩ | (refine Or.inl ⟨by rfl, ?_⟩; intro w' hSw; (try dsimp only at hSw); go_simp; (try with_reducible rfl))
              try simp only [Act.put, List.setIfInBounds_toArray, List.set_cons_zero, List.set_cons_succ]
              apply wpAnyH_take (i := 45) (hs := by kernel_rfl) (hf := by kernel_rfl) (hr := by kernel_rfl) (hQ := fun _ _ _ h => h) (hS := by assumption)
              · simp only [List.getElem?_toArray, List.getElem?_cons_succ, List.getElem?_cons_zero]; rfl
              · first | exact Or.inr ⟨by rfl, rfl⟩ | (refine Or.inl ⟨by rfl, ?_⟩; intro w' hSw; (try dsimp only at hSw); go_simp; (try with_reducible rfl))
              try simp only [Act.put, List.setIfInBounds_toArray, List.set_cons_zero, List.set_cons_succ]
              apply wpAnyH_take (i := 46) (hs := by kernel_rfl) (hf := by kernel_rfl) (hr := by kernel_rfl) (hQ := fun _ _ _ h => h) (hS := by assumption)
              · simp only [List.getElem?_toArray, List.getElem?_cons_succ, List.getElem?_cons_zero]; rfl
              · first | exact Or.inr ⟨by rfl, rfl⟩ | (refine Or.inl ⟨by rfl, ?_⟩; intro w' hSw; (try dsimp only at hSw); go_simp; (try with_reducible rfl))
              try simp only [Act.put, List.setIfInBounds_toArray, List.set_cons_zero, List.set_cons_succ]
              try rw [h6]
              apply wpAnyH_take (i := 47) (hs := by kernel_rfl) (hf := by kernel_rfl) (hr := by kernel_rfl) (hQ := fun _ _ _ h => h) (hS := by assumption)
              · simp only [List.getElem?_toArray, List.getElem?_cons_succ, List.getElem?_cons_zero]; rfl
              · first | exact Or.inr ⟨by rfl, rfl⟩ | (refine Or.inl ⟨by rfl, ?_⟩; intro w' hSw; (try dsimp only at hSw); go_simp; (try with_reducible rfl))
              try simp only [Act.put, List.setIfInBounds_toArray, List.set_cons_zero, List.set_cons_succ]
              apply wpAnyH_take (i := 48) (hs := by kernel_rfl) (hf := by kernel_rfl) (hr := by kernel_rfl) (hQ := fun _ _ _ h => h) (hS := by assumption)
              · simp only [List.getElem?_toArray, List.getElem?_cons_succ, List.getElem?_cons_zero]; rfl
              · first | exact Or.inr ⟨by rfl, rfl⟩ | (refine Or.inl ⟨by rfl, ?_⟩; intro w' hSw; (try dsimp only at hSw); go_simp; (try with_reducible rfl))
              try simp only [Act.put, List.setIfInBounds_toArray, List.set_cons_zero, List.set_cons_succ]
              apply wpAnyH_take (i := 49) (hs := by kernel_rfl) (hf := by kernel_rfl) (hr := by kernel_rfl) (hQ := fun _ _ _ h => h) (hS := by assumption)
              · simp only [List.getElem?_toArray, List.getElem?_cons_succ, List.getElem?_cons_zero]; rfl
              · first | exact Or.inr ⟨by rfl, rfl⟩ | (refine Or.inl ⟨by rfl, ?_⟩; intro w' hSw; (try dsimp only at hSw); go_simp; (try with_reducible rfl))
              try simp only [Act.put, List.setIfInBounds_toArray, List.set_cons_zero, List.set_cons_succ]
              apply wpAnyH_take (i := 50) (hs := by kernel_rfl) (hf := by kernel_rfl) (hr := by kernel_rfl) (hQ := fun _ _ _ h => h) (hS := by assumption)
              · simp only [List.getElem?_toArray, List.getElem?_cons_succ, List.getElem?_cons_zero]; rfl
              · first | exact Or.inr ⟨by rfl, rfl⟩ | (refine Or.inl ⟨by rfl, ?_⟩; intro w' hSw; (try dsimp only at hSw); go_simp; (try with_reducible rfl))
              try simp only [Act.put, List.setIfInBounds_toArray, List.set_cons_zero, List.set_cons_succ]
              apply wpAnyH_take (i := 51) (hs := by kernel_rfl) (hf := by kernel_rfl) (hr := by kernel_rfl) (hQ := fun _ _ _ h => h) (hS := by assumption)
              · simp only [List.getElem?_toArray, List.getElem?_cons_succ, List.getElem?_cons_zero]; rfl
              · first | exact Or.inr ⟨by rfl, rfl⟩ | (refine Or.inl ⟨by rfl, ?_⟩; intro w' hSw; (try dsimp only at hSw); go_simp; (try with_reducible rfl))
              try simp only [Act.put, List.setIfInBounds_toArray, List.set_cons_zero, List.set_cons_succ]
              try rw [h7]
              apply wpAnyH_take (i := 52) (hs := by kernel_rfl) (hf := by kernel_rfl) (hr := by kernel_rfl) (hQ := fun _ _ _ h => h) (hS := by assumption)
              · simp only [List.getElem?_toArray, List.getElem?_cons_succ, List.getElem?_cons_zero]; rfl
              · first | exact Or.inr ⟨by rfl, rfl⟩ | (refine Or.inl ⟨by rfl, ?_⟩; intro w' hSw; (try dsimp only at hSw); go_simp; (try with_reducible rfl))
              try simp only [Act.put, List.setIfInBounds_toArray, List.set_cons_zero, List.set_cons_succ]
              refine wpAnyH_done (by kernel_rfl) ?_ _
              refine NoPanic.normal ?_
              clear hHeld
              have B3 := Lib.hid (Bx.then_below bel.out BX.out)
              go_wp2
              go_ret
              exact ⟨by rw [HE2.out]; rfl, B3.out⟩
        · obtain ⟨j, hj⟩ : ∃ j, k = j + 1 := ⟨k - 1, by omega⟩
          have hjl : j < l.length := by omega
          have HQ := Lib.hid (show R = (okE long l[k] && ahd l[j] l[k] && chB long (prevE l (k + 1)) (l.drop (k + 1))) by
            subst hj
            rw [HE.out, HN.out j hlt])
          obtain ⟨b, o, rfl, _, c0, c1, c2, c3⟩ := (HA.out.below HB.out).at hlt
          obtain ⟨t0, t1, t2⟩ := ((K.out.keep HB.out).keep (Bx.box_below wr (eo l[k]))).all3
          obtain ⟨d0, d1, d2, d3⟩ := (Bx.Blk.new wr (enc l[k]) 62).all4
          have BX := Lib.hid (Bx.bel_box HB.out (eo l[k]))
          have HG' := Lib.hid (HG.out l[k] (List.getElem_mem hlt))
          have hok := ok_cases long l[k]
          obtain ⟨b', o', eb, _, e0, e1, e2, e3⟩ := ((HA.out.below HB.out).below (Bx.box_below wr (eo l[k]))).at hjl
          injection eb with eb
          injection eb with eb1 eb2
          subst eb1 eb2
          have HAH := Lib.hid (fun w => rahead_any l[j] l[k] w)
          have hj1 : IntKind.i64.wrap ((k : Int) - 1) = (j : Int) := by rw [IntKind.wrap_i64]; omega
          have hj4 : wrap64 ((k : Int) - 1) = (j : Int) := by unfold wrap64; omega
          have hj2 : (j : Int) < (l.length : Int) := by omega
          have hz0 : decide (0 < k) = true := decide_eq_true (by omega)
          generalize l[k] = x at *
          obtain ⟨x1, x2, x3, x4⟩ := x
          generalize l[j] = y at *
          obtain ⟨y1, y2, y3, y4⟩ := y
          simp only at c0 c1 c2 c3 d0 d1 d2 d3 e0 e1 e2 e3 hok HG' HAH
          clear hj h0
          cases ha : ahd ⟨y1, y2, y3, y4⟩ ⟨x1, x2, x3, x4⟩ with
          | false =>
            rw [ha] at HAH
            have HE2 := Lib.hid (show R = false by rw [HQ.out, ha, Bool.and_false, Bool.false_and])
            clear hok HQ ha
            go_wp2
            refine wp_region_noPanic ?_
            refine wp_region_held_drew (S := fun w' => w'.cell? ⟨wr.heap.size, 0, none⟩ = some (.int .i64 x1) ∧ w'.cell? ⟨wr.heap.size, 1, none⟩ = some (.int .u64 x2) ∧ w'.cell? ⟨wr.heap.size, 2, none⟩ = some (.int .i64 x3) ∧ w'.cell? ⟨wr.heap.size, 3, none⟩ = some (.int .i64 x4) ∧ w'.cell? ⟨w.heap.size, 0, none⟩ = some (.int .i64 most) ∧ w'.cell? ⟨w.heap.size, 1, none⟩ = some (.int .i64 long) ∧ w'.cell? ⟨w.heap.size, 2, none⟩ = some (.slice (some ⟨b, o, none⟩) l.length c) ∧ w'.cell? ⟨b, o + j * 4, none⟩ = some (.int .i64 y1) ∧ w'.cell? ⟨b, o + j * 4 + 1, none⟩ = some (.int .u64 y2) ∧ w'.cell? ⟨b, o + j * 4 + 2, none⟩ = some (.int .i64 y3) ∧ w'.cell? ⟨b, o + j * 4 + 3, none⟩ = some (.int .i64 y4)) (by kernel_rfl) (by exact ⟨d0, d1, d2, d3, t0, t1, t2, e0, e1, e2, e3⟩) (fun hHeld => ?_)
            replace BX := Lib.hid (Bx.bel_drewn BX.out)
            apply wpAnyH_take (i := 0) (hs := by kernel_rfl) (hf := by kernel_rfl) (hr := by kernel_rfl) (hQ := fun _ _ _ h => h) (hS := by assumption)
            · simp only [List.getElem?_toArray, List.getElem?_cons_zero]; rfl
            · first | exact Or.inr ⟨by rfl, rfl⟩ | (refine Or.inl ⟨by rfl, ?_⟩; intro w' hSw; (try dsimp only at hSw); go_simp; (try with_reducible rfl))
            try simp only [Act.put, List.setIfInBounds_toArray, List.set_cons_zero, List.set_cons_succ]
            apply wpAnyH_take (i := 1) (hs := by kernel_rfl) (hf := by kernel_rfl) (hr := by kernel_rfl) (hQ := fun _ _ _ h => h) (hS := by assumption)
            · simp only [List.getElem?_toArray, List.getElem?_cons_succ, List.getElem?_cons_zero]; rfl
            · first | exact Or.inr ⟨by rfl, rfl⟩ | (refine Or.inl ⟨by rfl, ?_⟩; intro w' hSw; (try dsimp only at hSw); go_simp; (try with_reducible rfl))
            try simp only [Act.put, List.setIfInBounds_toArray, List.set_cons_zero, List.set_cons_succ]
            try rw [hz0]
            apply wpAnyH_take (i := 2) (hs := by kernel_rfl) (hf := by kernel_rfl) (hr := by kernel_rfl) (hQ := fun _ _ _ h => h) (hS := by assumption)
            · simp only [List.getElem?_toArray, List.getElem?_cons_succ, List.getElem?_cons_zero]; rfl
            · first | exact Or.inr ⟨by rfl, rfl⟩ | (refine Or.inl ⟨by rfl, ?_⟩; intro w' hSw; (try dsimp only at hSw); go_simp; (try with_reducible rfl))
            try simp only [Act.put, List.setIfInBounds_toArray, List.set_cons_zero, List.set_cons_succ]
            apply wpAnyH_take (i := 3) (hs := by kernel_rfl) (hf := by kernel_rfl) (hr := by kernel_rfl) (hQ := fun _ _ _ h => h) (hS := by assumption)
            · simp only [List.getElem?_toArray, List.getElem?_cons_succ, List.getElem?_cons_zero]; rfl
            · first | exact Or.inr ⟨by rfl, rfl⟩ | (refine Or.inl ⟨by rfl, ?_⟩; intro w' hSw; (try dsimp only at hSw); go_simp; (try with_reducible rfl))
            try simp only [Act.put, List.setIfInBounds_toArray, List.set_cons_zero, List.set_cons_succ]
            apply wpAnyH_take (i := 4) (hs := by kernel_rfl) (hf := by kernel_rfl) (hr := by kernel_rfl) (hQ := fun _ _ _ h => h) (hS := by assumption)
            · simp only [List.getElem?_toArray, List.getElem?_cons_succ, List.getElem?_cons_zero]; rfl
            · first | exact Or.inr ⟨by rfl, rfl⟩ | (refine Or.inl ⟨by rfl, ?_⟩; intro w' hSw; (try dsimp only at hSw); go_simp; (try with_reducible rfl))
            try simp only [Act.put, List.setIfInBounds_toArray, List.set_cons_zero, List.set_cons_succ]
            apply wpAnyH_take (i := 5) (hs := by kernel_rfl) (hf := by kernel_rfl) (hr := by kernel_rfl) (hQ := fun _ _ _ h => h) (hS := by assumption)
            · simp only [List.getElem?_toArray, List.getElem?_cons_succ, List.getElem?_cons_zero]; rfl
            · first | exact Or.inr ⟨by rfl, rfl⟩ | (refine Or.inl ⟨by rfl, ?_⟩; intro w' hSw; (try dsimp only at hSw); go_simp; (try with_reducible rfl))
            try simp only [Act.put, List.setIfInBounds_toArray, List.set_cons_zero, List.set_cons_succ]
            apply wpAnyH_take (i := 6) (hs := by kernel_rfl) (hf := by kernel_rfl) (hr := by kernel_rfl) (hQ := fun _ _ _ h => h) (hS := by assumption)
            · simp only [List.getElem?_toArray, List.getElem?_cons_succ, List.getElem?_cons_zero]; rfl
            · first | exact Or.inr ⟨by rfl, rfl⟩ | (refine Or.inl ⟨by rfl, ?_⟩; intro w' hSw; (try dsimp only at hSw); go_simp; (try with_reducible rfl))
            try simp only [Act.put, List.setIfInBounds_toArray, List.set_cons_zero, List.set_cons_succ]
            apply wpAnyH_take (i := 7) (hs := by kernel_rfl) (hf := by kernel_rfl) (hr := by kernel_rfl) (hQ := fun _ _ _ h => h) (hS := by assumption)
            · simp only [List.getElem?_toArray, List.getElem?_cons_succ, List.getElem?_cons_zero]; rfl
            · first | exact Or.inr ⟨by rfl, rfl⟩ | (refine Or.inl ⟨by rfl, ?_⟩; intro w' hSw; (try dsimp only at hSw); go_simp; (try with_reducible rfl))
            try simp only [Act.put, List.setIfInBounds_toArray, List.set_cons_zero, List.set_cons_succ]
            apply wpAnyH_take (i := 8) (hs := by kernel_rfl) (hf := by kernel_rfl) (hr := by kernel_rfl) (hQ := fun _ _ _ h => h) (hS := by assumption)
            · simp only [List.getElem?_toArray, List.getElem?_cons_succ, List.getElem?_cons_zero]; rfl
            · first | exact Or.inr ⟨by rfl, rfl⟩ | (refine Or.inl ⟨by rfl, ?_⟩; intro w' hSw; (try dsimp only at hSw); go_simp; (try with_reducible rfl))
            try simp only [Act.put, List.setIfInBounds_toArray, List.set_cons_zero, List.set_cons_succ]
            apply wpAnyH_take (i := 9) (hs := by kernel_rfl) (hf := by kernel_rfl) (hr := by kernel_rfl) (hQ := fun _ _ _ h => h) (hS := by assumption)
            · simp only [List.getElem?_toArray, List.getElem?_cons_succ, List.getElem?_cons_zero]; rfl
            · first | exact Or.inr ⟨by rfl, rfl⟩ | (refine Or.inl ⟨by rfl, ?_⟩; intro w' hSw; (try dsimp only at hSw); go_simp; (try with_reducible rfl))
            try simp only [Act.put, List.setIfInBounds_toArray, List.set_cons_zero, List.set_cons_succ]
            apply wpAnyH_take (i := 10) (hs := by kernel_rfl) (hf := by kernel_rfl) (hr := by kernel_rfl) (hQ := fun _ _ _ h => h) (hS := by assumption)
            · simp only [List.getElem?_toArray, List.getElem?_cons_succ, List.getElem?_cons_zero]; rfl
            · first | exact Or.inr ⟨by rfl, rfl⟩ | (refine Or.inl ⟨by rfl, ?_⟩; intro w' hSw; (try dsimp only at hSw); go_simp; (try with_reducible rfl))
            try simp only [Act.put, List.setIfInBounds_toArray, List.set_cons_zero, List.set_cons_succ]
            apply wpAnyH_take (i := 11) (hs := by kernel_rfl) (hf := by kernel_rfl) (hr := by kernel_rfl) (hQ := fun _ _ _ h => h) (hS := by assumption)
            · simp only [List.getElem?_toArray, List.getElem?_cons_succ, List.getElem?_cons_zero]; rfl
            · first | exact Or.inr ⟨by rfl, rfl⟩ | (refine Or.inl ⟨by rfl, ?_⟩; intro w' hSw; (try dsimp only at hSw); go_simp; (try with_reducible rfl))
            try simp only [Act.put, List.setIfInBounds_toArray, List.set_cons_zero, List.set_cons_succ]
            apply wpAnyH_take (i := 12) (hs := by kernel_rfl) (hf := by kernel_rfl) (hr := by kernel_rfl) (hQ := fun _ _ _ h => h) (hS := by assumption)
            · simp only [List.getElem?_toArray, List.getElem?_cons_succ, List.getElem?_cons_zero]; rfl
            · first | exact Or.inr ⟨by rfl, rfl⟩ | (refine Or.inl ⟨by rfl, ?_⟩; intro w' hSw; (try dsimp only at hSw); go_simp; (try with_reducible rfl))
            try simp only [Act.put, List.setIfInBounds_toArray, List.set_cons_zero, List.set_cons_succ]
            refine wpAnyH_ready (rs := [13]) (by kernel_rfl) (by simp) ?_
            apply AllReadyH.cons (hs := AllReadyH.nil)
            · simp only [List.getElem?_toArray, List.getElem?_cons_succ, List.getElem?_cons_zero]; rfl
            intro K hK
            go_simp
            (go_at_call 30; with_reducible refine (HAH.out _).mono ?_; rintro e w1 ⟨rfl, hb1⟩)
            go_wp2_with fail
            refine hK.out _ _ ⟨Bx.keep_cell hb1 hHeld.1, Bx.keep_cell hb1 hHeld.2.1, Bx.keep_cell hb1 hHeld.2.2.1, Bx.keep_cell hb1 hHeld.2.2.2.1, Bx.keep_cell hb1 hHeld.2.2.2.2.1, Bx.keep_cell hb1 hHeld.2.2.2.2.2.1, Bx.keep_cell hb1 hHeld.2.2.2.2.2.2.1, Bx.keep_cell hb1 hHeld.2.2.2.2.2.2.2.1, Bx.keep_cell hb1 hHeld.2.2.2.2.2.2.2.2.1, Bx.keep_cell hb1 hHeld.2.2.2.2.2.2.2.2.2.1, Bx.keep_cell hb1 hHeld.2.2.2.2.2.2.2.2.2.2⟩ (fun hNew => ?_)
            clear hHeld
            have hHeld := hNew
            clear hNew hK K
            replace BX := Lib.hid (Bx.then_below BX.out hb1); clear hb1
            apply wpAnyH_take (i := 14) (hs := by kernel_rfl) (hf := by kernel_rfl) (hr := by kernel_rfl) (hQ := fun _ _ _ h => h) (hS := by assumption)
            · simp only [List.getElem?_toArray, List.getElem?_cons_succ, List.getElem?_cons_zero]; rfl
            · first | exact Or.inr ⟨by rfl, rfl⟩ | (refine Or.inl ⟨by rfl, ?_⟩; intro w' hSw; (try dsimp only at hSw); go_simp; (try with_reducible rfl))
            try simp only [Act.put, List.setIfInBounds_toArray, List.set_cons_zero, List.set_cons_succ]
            apply wpAnyH_take (i := 15) (hs := by kernel_rfl) (hf := by kernel_rfl) (hr := by kernel_rfl) (hQ := fun _ _ _ h => h) (hS := by assumption)
            · simp only [List.getElem?_toArray, List.getElem?_cons_succ, List.getElem?_cons_zero]; rfl
            · first | exact Or.inr ⟨by rfl, rfl⟩ | (refine Or.inl ⟨by rfl, ?_⟩; intro w' hSw; (try dsimp only at hSw); go_simp; (try with_reducible rfl))
            try simp only [Act.put, List.setIfInBounds_toArray, List.set_cons_zero, List.set_cons_succ]
            apply wpAnyH_take (i := 16) (hs := by kernel_rfl) (hf := by kernel_rfl) (hr := by kernel_rfl) (hQ := fun _ _ _ h => h) (hS := by assumption)
            · simp only [List.getElem?_toArray, List.getElem?_cons_succ, List.getElem?_cons_zero]; rfl
            · first | exact Or.inr ⟨by rfl, rfl⟩ | (refine Or.inl ⟨by rfl, ?_⟩; intro w' hSw; (try dsimp only at hSw); go_simp; (try with_reducible rfl))
            try simp only [Act.put, List.setIfInBounds_toArray, List.set_cons_zero, List.set_cons_succ]
            apply wpAnyH_take (i := 17) (hs := by kernel_rfl) (hf := by kernel_rfl) (hr := by kernel_rfl) (hQ := fun _ _ _ h => h) (hS := by assumption)
            · simp only [List.getElem?_toArray, List.getElem?_cons_succ, List.getElem?_cons_zero]; rfl
            · first | exact Or.inr ⟨by rfl, rfl⟩ | (refine Or.inl ⟨by rfl, ?_⟩; intro w' hSw; (try dsimp only at hSw); go_simp; (try with_reducible rfl))
            try simp only [Act.put, List.setIfInBounds_toArray, List.set_cons_zero, List.set_cons_succ]
            apply wpAnyH_take (i := 18) (hs := by kernel_rfl) (hf := by kernel_rfl) (hr := by kernel_rfl) (hQ := fun _ _ _ h => h) (hS := by assumption)
            · simp only [List.getElem?_toArray, List.getElem?_cons_succ, List.getElem?_cons_zero]; rfl
            · first | exact Or.inr ⟨by rfl, rfl⟩ | (refine Or.inl ⟨by rfl, ?_⟩; intro w' hSw; (try dsimp only at hSw); go_simp; (try with_reducible rfl))
            try simp only [Act.put, List.setIfInBounds_toArray, List.set_cons_zero, List.set_cons_succ]
            apply wpAnyH_take (i := 19) (hs := by kernel_rfl) (hf := by kernel_rfl) (hr := by kernel_rfl) (hQ := fun _ _ _ h => h) (hS := by assumption)
            · simp only [List.getElem?_toArray, List.getElem?_cons_succ, List.getElem?_cons_zero]; rfl
            · first | exact Or.inr ⟨by rfl, rfl⟩ | (refine Or.inl ⟨by rfl, ?_⟩; intro w' hSw; (try dsimp only at hSw); go_simp; (try with_reducible rfl))
            try simp only [Act.put, List.setIfInBounds_toArray, List.set_cons_zero, List.set_cons_succ]
            try rw [h1]
            apply wpAnyH_take (i := 20) (hs := by kernel_rfl) (hf := by kernel_rfl) (hr := by kernel_rfl) (hQ := fun _ _ _ h => h) (hS := by assumption)
            · simp only [List.getElem?_toArray, List.getElem?_cons_succ, List.getElem?_cons_zero]; rfl
            · first | exact Or.inr ⟨by rfl, rfl⟩ | (refine Or.inl ⟨by rfl, ?_⟩; intro w' hSw; (try dsimp only at hSw); go_simp; (try with_reducible rfl))
            try simp only [Act.put, List.setIfInBounds_toArray, List.set_cons_zero, List.set_cons_succ]
            apply wpAnyH_take (i := 21) (hs := by kernel_rfl) (hf := by kernel_rfl) (hr := by kernel_rfl) (hQ := fun _ _ _ h => h) (hS := by assumption)
            · simp only [List.getElem?_toArray, List.getElem?_cons_succ, List.getElem?_cons_zero]; rfl
            · first | exact Or.inr ⟨by rfl, rfl⟩ | (refine Or.inl ⟨by rfl, ?_⟩; intro w' hSw; (try dsimp only at hSw); go_simp; (try with_reducible rfl))
            try simp only [Act.put, List.setIfInBounds_toArray, List.set_cons_zero, List.set_cons_succ]
            apply wpAnyH_take (i := 22) (hs := by kernel_rfl) (hf := by kernel_rfl) (hr := by kernel_rfl) (hQ := fun _ _ _ h => h) (hS := by assumption)
            · simp only [List.getElem?_toArray, List.getElem?_cons_succ, List.getElem?_cons_zero]; rfl
            · first | exact Or.inr ⟨by rfl, rfl⟩ | (refine Or.inl ⟨by rfl, ?_⟩; intro w' hSw; (try dsimp only at hSw); go_simp; (try with_reducible rfl))
            try simp only [Act.put, List.setIfInBounds_toArray, List.set_cons_zero, List.set_cons_succ]
            apply wpAnyH_take (i := 23) (hs := by kernel_rfl) (hf := by kernel_rfl) (hr := by kernel_rfl) (hQ := fun _ _ _ h => h) (hS := by assumption)
            · simp only [List.getElem?_toArray, List.getElem?_cons_succ, List.getElem?_cons_zero]; rfl
            · first | exact Or.inr ⟨by rfl, rfl⟩ | (refine Or.inl ⟨by rfl, ?_⟩; intro w' hSw; (try dsimp only at hSw); go_simp; (try with_reducible rfl))
            try simp only [Act.put, List.setIfInBounds_toArray, List.set_cons_zero, List.set_cons_succ]
            apply wpAnyH_take (i := 24) (hs := by kernel_rfl) (hf := by kernel_rfl) (hr := by kernel_rfl) (hQ := fun _ _ _ h => h) (hS := by assumption)
            · simp only [List.getElem?_toArray, List.getElem?_cons_succ, List.getElem?_cons_zero]; rfl
            · first | exact Or.inr ⟨by rfl, rfl⟩ | (refine Or.inl ⟨by rfl, ?_⟩; intro w' hSw; (try dsimp only at hSw); go_simp; (try with_reducible rfl))
            try simp only [Act.put, List.setIfInBounds_toArray, List.set_cons_zero, List.set_cons_succ]
            apply wpAnyH_take (i := 25) (hs := by kernel_rfl) (hf := by kernel_rfl) (hr := by kernel_rfl) (hQ := fun _ _ _ h => h) (hS := by assumption)
            · simp only [List.getElem?_toArray, List.getElem?_cons_succ, List.getElem?_cons_zero]; rfl
            · first | exact Or.inr ⟨by rfl, rfl⟩ | (refine Or.inl ⟨by rfl, ?_⟩; intro w' hSw; (try dsimp only at hSw); go_simp; (try with_reducible rfl))
            try simp only [Act.put, List.setIfInBounds_toArray, List.set_cons_zero, List.set_cons_succ]
            apply wpAnyH_take (i := 26) (hs := by kernel_rfl) (hf := by kernel_rfl) (hr := by kernel_rfl) (hQ := fun _ _ _ h => h) (hS := by assumption)
            · simp only [List.getElem?_toArray, List.getElem?_cons_succ, List.getElem?_cons_zero]; rfl
            · first | exact Or.inr ⟨by rfl, rfl⟩ | (refine Or.inl ⟨by rfl, ?_⟩; intro w' hSw; (try dsimp only at hSw); go_simp; (try with_reducible rfl))
            try simp only [Act.put, List.setIfInBounds_toArray, List.set_cons_zero, List.set_cons_succ]
            try rw [h2]
            apply wpAnyH_take (i := 27) (hs := by kernel_rfl) (hf := by kernel_rfl) (hr := by kernel_rfl) (hQ := fun _ _ _ h => h) (hS := by assumption)
            · simp only [List.getElem?_toArray, List.getElem?_cons_succ, List.getElem?_cons_zero]; rfl
            · first | exact Or.inr ⟨by rfl, rfl⟩ | (refine Or.inl ⟨by rfl, ?_⟩; intro w' hSw; (try dsimp only at hSw); go_simp; (try with_reducible rfl))
            try simp only [Act.put, List.setIfInBounds_toArray, List.set_cons_zero, List.set_cons_succ]
            apply wpAnyH_take (i := 28) (hs := by kernel_rfl) (hf := by kernel_rfl) (hr := by kernel_rfl) (hQ := fun _ _ _ h => h) (hS := by assumption)
            · simp only [List.getElem?_toArray, List.getElem?_cons_succ, List.getElem?_cons_zero]; rfl
            · first | exact Or.inr ⟨by rfl, rfl⟩ | (refine Or.inl ⟨by rfl, ?_⟩; intro w' hSw; (try dsimp only at hSw); go_simp; (try with_reducible rfl))
            try simp only [Act.put, List.setIfInBounds_toArray, List.set_cons_zero, List.set_cons_succ]
            apply wpAnyH_take (i := 29) (hs := by kernel_rfl) (hf := by kernel_rfl) (hr := by kernel_rfl) (hQ := fun _ _ _ h => h) (hS := by assumption)
            · simp only [List.getElem?_toArray, List.getElem?_cons_succ, List.getElem?_cons_zero]; rfl
            · first | exact Or.inr ⟨by rfl, rfl⟩ | (refine Or.inl ⟨by rfl, ?_⟩; intro w' hSw; (try dsimp only at hSw); go_simp; (try with_reducible rfl))
            try simp only [Act.put, List.setIfInBounds_toArray, List.set_cons_zero, List.set_cons_succ]
            apply wpAnyH_take (i := 30) (hs := by kernel_rfl) (hf := by kernel_rfl) (hr := by kernel_rfl) (hQ := fun _ _ _ h => h) (hS := by assumption)
            · simp only [List.getElem?_toArray, List.getElem?_cons_succ, List.getElem?_cons_zero]; rfl
            · first | exact Or.inr ⟨by rfl, rfl⟩ | (refine Or.inl ⟨by rfl, ?_⟩; intro w' hSw; (try dsimp only at hSw); go_simp; (try with_reducible rfl))
            try simp only [Act.put, List.setIfInBounds_toArray, List.set_cons_zero, List.set_cons_succ]
            apply wpAnyH_take (i := 31) (hs := by kernel_rfl) (hf := by kernel_rfl) (hr := by kernel_rfl) (hQ := fun _ _ _ h => h) (hS := by assumption)
            · simp only [List.getElem?_toArray, List.getElem?_cons_succ, List.getElem?_cons_zero]; rfl
            · first | exact Or.inr ⟨by rfl, rfl⟩ | (refine Or.inl ⟨by rfl, ?_⟩; intro w' hSw; (try dsimp only at hSw); go_simp; (try with_reducible rfl))
            try simp only [Act.put, List.setIfInBounds_toArray, List.set_cons_zero, List.set_cons_succ]
            try rw [h3]
            apply wpAnyH_take (i := 32) (hs := by kernel_rfl) (hf := by kernel_rfl) (hr := by kernel_rfl) (hQ := fun _ _ _ h => h) (hS := by assumption)
            · simp only [List.getElem?_toArray, List.getElem?_cons_succ, List.getElem?_cons_zero]; rfl
            · first | exact Or.inr ⟨by rfl, rfl⟩ | (refine Or.inl ⟨by rfl, ?_⟩; intro w' hSw; (try dsimp only at hSw); go_simp; (try with_reducible rfl))
            try simp only [Act.put, List.setIfInBounds_toArray, List.set_cons_zero, List.set_cons_succ]
            apply wpAnyH_take (i := 33) (hs := by kernel_rfl) (hf := by kernel_rfl) (hr := by kernel_rfl) (hQ := fun _ _ _ h => h) (hS := by assumption)
            · simp only [List.getElem?_toArray, List.getElem?_cons_succ, List.getElem?_cons_zero]; rfl
            · first | exact Or.inr ⟨by rfl, rfl⟩ | (refine Or.inl ⟨by rfl, ?_⟩; intro w' hSw; (try dsimp only at hSw); go_simp; (try with_reducible rfl))
            try simp only [Act.put, List.setIfInBounds_toArray, List.set_cons_zero, List.set_cons_succ]
            apply wpAnyH_take (i := 34) (hs := by kernel_rfl) (hf := by kernel_rfl) (hr := by kernel_rfl) (hQ := fun _ _ _ h => h) (hS := by assumption)
            · simp only [List.getElem?_toArray, List.getElem?_cons_succ, List.getElem?_cons_zero]; rfl
            · first | exact Or.inr ⟨by rfl, rfl⟩ | (refine Or.inl ⟨by rfl, ?_⟩; intro w' hSw; (try dsimp only at hSw); go_simp; (try with_reducible rfl))
            try simp only [Act.put, List.setIfInBounds_toArray, List.set_cons_zero, List.set_cons_succ]
            apply wpAnyH_take (i := 35) (hs := by kernel_rfl) (hf := by kernel_rfl) (hr := by kernel_rfl) (hQ := fun _ _ _ h => h) (hS := by assumption)
            · simp only [List.getElem?_toArray, List.getElem?_cons_succ, List.getElem?_cons_zero]; rfl
            · first | exact Or.inr ⟨by rfl, rfl⟩ | (refine Or.inl ⟨by rfl, ?_⟩; intro w' hSw; (try dsimp only at hSw); go_simp; (try with_reducible rfl))
            try simp only [Act.put, List.setIfInBounds_toArray, List.set_cons_zero, List.set_cons_succ]
            apply wpAnyH_take (i := 36) (hs := by kernel_rfl) (hf := by kernel_rfl) (hr := by kernel_rfl) (hQ := fun _ _ _ h => h) (hS := by assumption)
            · simp only [List.getElem?_toArray, List.getElem?_cons_succ, List.getElem?_cons_zero]; rfl
            · first | exact Or.inr ⟨by rfl, rfl⟩ | (refine Or.inl ⟨by rfl, ?_⟩; intro w' hSw; (try dsimp only at hSw); go_simp; (try with_reducible rfl))
            try simp only [Act.put, List.setIfInBounds_toArray, List.set_cons_zero, List.set_cons_succ]
            try rw [h4]
            apply wpAnyH_take (i := 37) (hs := by kernel_rfl) (hf := by kernel_rfl) (hr := by kernel_rfl) (hQ := fun _ _ _ h => h) (hS := by assumption)
            · simp only [List.getElem?_toArray, List.getElem?_cons_succ, List.getElem?_cons_zero]; rfl
            · first | exact Or.inr ⟨by rfl, rfl⟩ | (refine Or.inl ⟨by rfl, ?_⟩; intro w' hSw; (try dsimp only at hSw); go_simp; (try with_reducible rfl))
            try simp only [Act.put, List.setIfInBounds_toArray, List.set_cons_zero, List.set_cons_succ]
            apply wpAnyH_take (i := 38) (hs := by kernel_rfl) (hf := by kernel_rfl) (hr := by kernel_rfl) (hQ := fun _ _ _ h => h) (hS := by assumption)
            · simp only [List.getElem?_toArray, List.getElem?_cons_succ, List.getElem?_cons_zero]; rfl
            · first | exact Or.inr ⟨by rfl, rfl⟩ | (refine Or.inl ⟨by rfl, ?_⟩; intro w' hSw; (try dsimp only at hSw); go_simp; (try with_reducible rfl))
            try simp only [Act.put, List.setIfInBounds_toArray, List.set_cons_zero, List.set_cons_succ]
            apply wpAnyH_take (i := 39) (hs := by kernel_rfl) (hf := by kernel_rfl) (hr := by kernel_rfl) (hQ := fun _ _ _ h => h) (hS := by assumption)
            · simp only [List.getElem?_toArray, List.getElem?_cons_succ, List.getElem?_cons_zero]; rfl
            · first | exact Or.inr ⟨by rfl, rfl⟩ | (refine Or.inl ⟨by rfl, ?_⟩; intro w' hSw; (try dsimp only at hSw); go_simp; (try with_reducible rfl))
            try simp only [Act.put, List.setIfInBounds_toArray, List.set_cons_zero, List.set_cons_succ]
            apply wpAnyH_take (i := 40) (hs := by kernel_rfl) (hf := by kernel_rfl) (hr := by kernel_rfl) (hQ := fun _ _ _ h => h) (hS := by assumption)
            · simp only [List.getElem?_toArray, List.getElem?_cons_succ, List.getElem?_cons_zero]; rfl
            · first | exact Or.inr ⟨by rfl, rfl⟩ | (refine Or.inl ⟨by rfl, ?_⟩; intro w' hSw; (try dsimp only at hSw); go_simp; (try with_reducible rfl))
            try simp only [Act.put, List.setIfInBounds_toArray, List.set_cons_zero, List.set_cons_succ]
            first
            | skip
              apply wpAnyH_take (i := 41) (hs := by kernel_rfl) (hf := by kernel_rfl) (hr := by kernel_rfl) (hQ := fun _ _ _ h => h) (hS := by assumption)
              · simp only [List.getElem?_toArray, List.getElem?_cons_succ, List.getElem?_cons_zero]; rfl
              · first | exact Or.inr ⟨by rfl, rfl⟩ | (refine Or.inl ⟨by rfl, ?_⟩; intro w' hSw; (try dsimp only at hSw); go_simp; (try with_reducible rfl))
              try simp only [Act.put, List.setIfInBounds_toArray, List.set_cons_zero, List.set_cons_succ]
            | skip
              refine wpAnyH_ready (rs := [41]) (by kernel_rfl) (by simp) ?_
              apply AllReadyH.cons (hs := AllReadyH.nil)
              · simp only [List.getElem?_toArray, List.getElem?_cons_succ, List.getElem?_cons_zero]; rfl
              intro K hK
              go_simp
              (go_at_call 31; with_reducible refine (HG'.out _).mono ?_; rintro e w2 ⟨rfl, rfl⟩)
              go_wp2_with fail
              refine hK.out _ _ ⟨Bx.keep_cell (Bx.bel_refl _) hHeld.1, Bx.keep_cell (Bx.bel_refl _) hHeld.2.1, Bx.keep_cell (Bx.bel_refl _) hHeld.2.2.1, Bx.keep_cell (Bx.bel_refl _) hHeld.2.2.2.1, Bx.keep_cell (Bx.bel_refl _) hHeld.2.2.2.2.1, Bx.keep_cell (Bx.bel_refl _) hHeld.2.2.2.2.2.1, Bx.keep_cell (Bx.bel_refl _) hHeld.2.2.2.2.2.2.1, Bx.keep_cell (Bx.bel_refl _) hHeld.2.2.2.2.2.2.2.1, Bx.keep_cell (Bx.bel_refl _) hHeld.2.2.2.2.2.2.2.2.1, Bx.keep_cell (Bx.bel_refl _) hHeld.2.2.2.2.2.2.2.2.2.1, Bx.keep_cell (Bx.bel_refl _) hHeld.2.2.2.2.2.2.2.2.2.2⟩ (fun hNew => ?_)
              clear hHeld
              have hHeld := hNew
              clear hNew hK K
              skip
            apply wpAnyH_take (i := 42) (hs := by kernel_rfl) (hf := by kernel_rfl) (hr := by kernel_rfl) (hQ := fun _ _ _ h => h) (hS := by assumption)
            · simp only [List.getElem?_toArray, List.getElem?_cons_succ, List.getElem?_cons_zero]; rfl
            · first | exact Or.inr ⟨by rfl, rfl⟩ | (refine Or.inl ⟨by rfl, ?_⟩; intro w' hSw; (try dsimp only at hSw); go_simp; (try with_reducible rfl))
            try simp only [Act.put, List.setIfInBounds_toArray, List.set_cons_zero, List.set_cons_succ]
            apply wpAnyH_take (i := 43) (hs := by kernel_rfl) (hf := by kernel_rfl) (hr := by kernel_rfl) (hQ := fun _ _ _ h => h) (hS := by assumption)
            · simp only [List.getElem?_toArray, List.getElem?_cons_succ, List.getElem?_cons_zero]; rfl
            · first | exact Or.inr ⟨by rfl, rfl⟩ | (refine Or.inl ⟨by rfl, ?_⟩; intro w' hSw; (try dsimp only at hSw); go_simp; (try with_reducible rfl))
            try simp only [Act.put, List.setIfInBounds_toArray, List.set_cons_zero, List.set_cons_succ]
            apply wpAnyH_take (i := 44) (hs := by kernel_rfl) (hf := by kernel_rfl) (hr := by kernel_rfl) (hQ := fun _ _ _ h => h) (hS := by assumption)
            · simp only [List.getElem?_toArray, List.getElem?_cons_succ, List.getElem?_cons_zero]; rfl
            · first | exact Or.inr ⟨by rfl, rfl⟩ | (refine Or.inl ⟨by rfl, ?_⟩; intro w' hSw; (try dsimp only at hSw); go_simp; (try with_reducible rfl))
            try simp only [Act.put, List.setIfInBounds_toArray, List.set_cons_zero, List.set_cons_succ]
            apply wpAnyH_take (i := 45) (hs := by kernel_rfl) (hf := by kernel_rfl) (hr := by kernel_rfl) (hQ := fun _ _ _ h => h) (hS := by assumption)
            · simp only [List.getElem?_toArray, List.getElem?_cons_succ, List.getElem?_cons_zero]; rfl
            · first | exact Or.inr ⟨by rfl, rfl⟩ | (refine Or.inl ⟨by rfl, ?_⟩; intro w' hSw; (try dsimp only at hSw); go_simp; (try with_reducible rfl))
            try simp only [Act.put, List.setIfInBounds_toArray, List.set_cons_zero, List.set_cons_succ]
            apply wpAnyH_take (i := 46) (hs := by kernel_rfl) (hf := by kernel_rfl) (hr := by kernel_rfl) (hQ := fun _ _ _ h => h) (hS := by assumption)
            · simp only [List.getElem?_toArray, List.getElem?_cons_succ, List.getElem?_cons_zero]; rfl
            · first | exact Or.inr ⟨by rfl, rfl⟩ | (refine Or.inl ⟨by rfl, ?_⟩; intro w' hSw; (try dsimp only at hSw); go_simp; (try with_reducible rfl))
            try simp only [Act.put, List.setIfInBounds_toArray, List.set_cons_zero, List.set_cons_succ]
            try rw [h6]
            apply wpAnyH_take (i := 47) (hs := by kernel_rfl) (hf := by kernel_rfl) (hr := by kernel_rfl) (hQ := fun _ _ _ h => h) (hS := by assumption)
            · simp only [List.getElem?_toArray, List.getElem?_cons_succ, List.getElem?_cons_zero]; rfl
            · first | exact Or.inr ⟨by rfl, rfl⟩ | (refine Or.inl ⟨by rfl, ?_⟩; intro w' hSw; (try dsimp only at hSw); go_simp; (try with_reducible rfl))
            try simp only [Act.put, List.setIfInBounds_toArray, List.set_cons_zero, List.set_cons_succ]
            apply wpAnyH_take (i := 48) (hs := by kernel_rfl) (hf := by kernel_rfl) (hr := by kernel_rfl) (hQ := fun _ _ _ h => h) (hS := by assumption)
            · simp only [List.getElem?_toArray, List.getElem?_cons_succ, List.getElem?_cons_zero]; rfl
            · first | exact Or.inr ⟨by rfl, rfl⟩ | (refine Or.inl ⟨by rfl, ?_⟩; intro w' hSw; (try dsimp only at hSw); go_simp; (try with_reducible rfl))
            try simp only [Act.put, List.setIfInBounds_toArray, List.set_cons_zero, List.set_cons_succ]
            apply wpAnyH_take (i := 49) (hs := by kernel_rfl) (hf := by kernel_rfl) (hr := by kernel_rfl) (hQ := fun _ _ _ h => h) (hS := by assumption)
            · simp only [List.getElem?_toArray, List.getElem?_cons_succ, List.getElem?_cons_zero]; rfl
            · first | exact Or.inr ⟨by rfl, rfl⟩ | (refine Or.inl ⟨by rfl, ?_⟩; intro w' hSw; (try dsimp only at hSw); go_simp; (try with_reducible rfl))
            try simp only [Act.put, List.setIfInBounds_toArray, List.set_cons_zero, List.set_cons_succ]
            apply wpAnyH_take (i := 50) (hs := by kernel_rfl) (hf := by kernel_rfl) (hr := by kernel_rfl) (hQ := fun _ _ _ h => h) (hS := by assumption)
            · simp only [List.getElem?_toArray, List.getElem?_cons_succ, List.getElem?_cons_zero]; rfl
            · first | exact Or.inr ⟨by rfl, rfl⟩ | (refine Or.inl ⟨by rfl, ?_⟩; intro w' hSw; (try dsimp only at hSw); go_simp; (try with_reducible rfl))
            try simp only [Act.put, List.setIfInBounds_toArray, List.set_cons_zero, List.set_cons_succ]
            apply wpAnyH_take (i := 51) (hs := by kernel_rfl) (hf := by kernel_rfl) (hr := by kernel_rfl) (hQ := fun _ _ _ h => h) (hS := by assumption)
            · simp only [List.getElem?_toArray, List.getElem?_cons_succ, List.getElem?_cons_zero]; rfl
            · first | exact Or.inr ⟨by rfl, rfl⟩ | (refine Or.inl ⟨by rfl, ?_⟩; intro w' hSw; (try dsimp only at hSw); go_simp; (try with_reducible rfl))
            try simp only [Act.put, List.setIfInBounds_toArray, List.set_cons_zero, List.set_cons_succ]
            try rw [h7]
            apply wpAnyH_take (i := 52) (hs := by kernel_rfl) (hf := by kernel_rfl) (hr := by kernel_rfl) (hQ := fun _ _ _ h => h) (hS := by assumption)
            · simp only [List.getElem?_toArray, List.getElem?_cons_succ, List.getElem?_cons_zero]; rfl
            · first | exact Or.inr ⟨by rfl, rfl⟩ | (refine Or.inl ⟨by rfl, ?_⟩; intro w' hSw; (try dsimp only at hSw); go_simp; (try with_reducible rfl))
            try simp only [Act.put, List.setIfInBounds_toArray, List.set_cons_zero, List.set_cons_succ]
            refine wpAnyH_done (by kernel_rfl) ?_ _
            refine NoPanic.normal ?_
            clear hHeld
            have B3 := Lib.hid (Bx.then_below bel.out BX.out)
            go_wp2
            go_ret
            exact ⟨by rw [HE2.out]; rfl, B3.out⟩
          | true =>
            rw [ha] at HAH
            rcases hok with ⟨hx, h1, h2, h3, h4, h5, h6, h7⟩ | ⟨hx, hok⟩
            · have HE2 := Lib.hid (show R = chB long (prevE l (k + 1)) (l.drop (k + 1)) by rw [HQ.out, hx, ha, Bool.true_and, Bool.true_and])
              rw [h5] at HG'
              clear hx HQ h5 ha
              go_wp2
              refine wp_region_noPanic ?_
              refine wp_region_held_drew (S := fun w' => w'.cell? ⟨wr.heap.size, 0, none⟩ = some (.int .i64 x1) ∧ w'.cell? ⟨wr.heap.size, 1, none⟩ = some (.int .u64 x2) ∧ w'.cell? ⟨wr.heap.size, 2, none⟩ = some (.int .i64 x3) ∧ w'.cell? ⟨wr.heap.size, 3, none⟩ = some (.int .i64 x4) ∧ w'.cell? ⟨w.heap.size, 0, none⟩ = some (.int .i64 most) ∧ w'.cell? ⟨w.heap.size, 1, none⟩ = some (.int .i64 long) ∧ w'.cell? ⟨w.heap.size, 2, none⟩ = some (.slice (some ⟨b, o, none⟩) l.length c) ∧ w'.cell? ⟨b, o + j * 4, none⟩ = some (.int .i64 y1) ∧ w'.cell? ⟨b, o + j * 4 + 1, none⟩ = some (.int .u64 y2) ∧ w'.cell? ⟨b, o + j * 4 + 2, none⟩ = some (.int .i64 y3) ∧ w'.cell? ⟨b, o + j * 4 + 3, none⟩ = some (.int .i64 y4)) (by kernel_rfl) (by exact ⟨d0, d1, d2, d3, t0, t1, t2, e0, e1, e2, e3⟩) (fun hHeld => ?_)
              replace BX := Lib.hid (Bx.bel_drewn BX.out)
              apply wpAnyH_take (i := 0) (hs := by kernel_rfl) (hf := by kernel_rfl) (hr := by kernel_rfl) (hQ := fun _ _ _ h => h) (hS := by assumption)
              · simp only [List.getElem?_toArray, List.getElem?_cons_zero]; rfl
              · first | exact Or.inr ⟨by rfl, rfl⟩ | (refine Or.inl ⟨by rfl, ?_⟩; intro w' hSw; (try dsimp only at hSw); go_simp; (try with_reducible rfl))
              try simp only [Act.put, List.setIfInBounds_toArray, List.set_cons_zero, List.set_cons_succ]
              apply wpAnyH_take (i := 1) (hs := by kernel_rfl) (hf := by kernel_rfl) (hr := by kernel_rfl) (hQ := fun _ _ _ h => h) (hS := by assumption)
              · simp only [List.getElem?_toArray, List.getElem?_cons_succ, List.getElem?_cons_zero]; rfl
              · first | exact Or.inr ⟨by rfl, rfl⟩ | (refine Or.inl ⟨by rfl, ?_⟩; intro w' hSw; (try dsimp only at hSw); go_simp; (try with_reducible rfl))
              try simp only [Act.put, List.setIfInBounds_toArray, List.set_cons_zero, List.set_cons_succ]
              try rw [hz0]
              apply wpAnyH_take (i := 2) (hs := by kernel_rfl) (hf := by kernel_rfl) (hr := by kernel_rfl) (hQ := fun _ _ _ h => h) (hS := by assumption)
              · simp only [List.getElem?_toArray, List.getElem?_cons_succ, List.getElem?_cons_zero]; rfl
              · first | exact Or.inr ⟨by rfl, rfl⟩ | (refine Or.inl ⟨by rfl, ?_⟩; intro w' hSw; (try dsimp only at hSw); go_simp; (try with_reducible rfl))
              try simp only [Act.put, List.setIfInBounds_toArray, List.set_cons_zero, List.set_cons_succ]
              apply wpAnyH_take (i := 3) (hs := by kernel_rfl) (hf := by kernel_rfl) (hr := by kernel_rfl) (hQ := fun _ _ _ h => h) (hS := by assumption)
              · simp only [List.getElem?_toArray, List.getElem?_cons_succ, List.getElem?_cons_zero]; rfl
              · first | exact Or.inr ⟨by rfl, rfl⟩ | (refine Or.inl ⟨by rfl, ?_⟩; intro w' hSw; (try dsimp only at hSw); go_simp; (try with_reducible rfl))
              try simp only [Act.put, List.setIfInBounds_toArray, List.set_cons_zero, List.set_cons_succ]
              apply wpAnyH_take (i := 4) (hs := by kernel_rfl) (hf := by kernel_rfl) (hr := by kernel_rfl) (hQ := fun _ _ _ h => h) (hS := by assumption)
              · simp only [List.getElem?_toArray, List.getElem?_cons_succ, List.getElem?_cons_zero]; rfl
              · first | exact Or.inr ⟨by rfl, rfl⟩ | (refine Or.inl ⟨by rfl, ?_⟩; intro w' hSw; (try dsimp only at hSw); go_simp; (try with_reducible rfl))
              try simp only [Act.put, List.setIfInBounds_toArray, List.set_cons_zero, List.set_cons_succ]
              apply wpAnyH_take (i := 5) (hs := by kernel_rfl) (hf := by kernel_rfl) (hr := by kernel_rfl) (hQ := fun _ _ _ h => h) (hS := by assumption)
              · simp only [List.getElem?_toArray, List.getElem?_cons_succ, List.getElem?_cons_zero]; rfl
              · first | exact Or.inr ⟨by rfl, rfl⟩ | (refine Or.inl ⟨by rfl, ?_⟩; intro w' hSw; (try dsimp only at hSw); go_simp; (try with_reducible rfl))
              try simp only [Act.put, List.setIfInBounds_toArray, List.set_cons_zero, List.set_cons_succ]
              apply wpAnyH_take (i := 6) (hs := by kernel_rfl) (hf := by kernel_rfl) (hr := by kernel_rfl) (hQ := fun _ _ _ h => h) (hS := by assumption)
              · simp only [List.getElem?_toArray, List.getElem?_cons_succ, List.getElem?_cons_zero]; rfl
              · first | exact Or.inr ⟨by rfl, rfl⟩ | (refine Or.inl ⟨by rfl, ?_⟩; intro w' hSw; (try dsimp only at hSw); go_simp; (try with_reducible rfl))
              try simp only [Act.put, List.setIfInBounds_toArray, List.set_cons_zero, List.set_cons_succ]
              apply wpAnyH_take (i := 7) (hs := by kernel_rfl) (hf := by kernel_rfl) (hr := by kernel_rfl) (hQ := fun _ _ _ h => h) (hS := by assumption)
              · simp only [List.getElem?_toArray, List.getElem?_cons_succ, List.getElem?_cons_zero]; rfl
              · first | exact Or.inr ⟨by rfl, rfl⟩ | (refine Or.inl ⟨by rfl, ?_⟩; intro w' hSw; (try dsimp only at hSw); go_simp; (try with_reducible rfl))
              try simp only [Act.put, List.setIfInBounds_toArray, List.set_cons_zero, List.set_cons_succ]
              apply wpAnyH_take (i := 8) (hs := by kernel_rfl) (hf := by kernel_rfl) (hr := by kernel_rfl) (hQ := fun _ _ _ h => h) (hS := by assumption)
              · simp only [List.getElem?_toArray, List.getElem?_cons_succ, List.getElem?_cons_zero]; rfl
              · first | exact Or.inr ⟨by rfl, rfl⟩ | (refine Or.inl ⟨by rfl, ?_⟩; intro w' hSw; (try dsimp only at hSw); go_simp; (try with_reducible rfl))
              try simp only [Act.put, List.setIfInBounds_toArray, List.set_cons_zero, List.set_cons_succ]
              apply wpAnyH_take (i := 9) (hs := by kernel_rfl) (hf := by kernel_rfl) (hr := by kernel_rfl) (hQ := fun _ _ _ h => h) (hS := by assumption)
              · simp only [List.getElem?_toArray, List.getElem?_cons_succ, List.getElem?_cons_zero]; rfl
              · first | exact Or.inr ⟨by rfl, rfl⟩ | (refine Or.inl ⟨by rfl, ?_⟩; intro w' hSw; (try dsimp only at hSw); go_simp; (try with_reducible rfl))
              try simp only [Act.put, List.setIfInBounds_toArray, List.set_cons_zero, List.set_cons_succ]
              apply wpAnyH_take (i := 10) (hs := by kernel_rfl) (hf := by kernel_rfl) (hr := by kernel_rfl) (hQ := fun _ _ _ h => h) (hS := by assumption)
              · simp only [List.getElem?_toArray, List.getElem?_cons_succ, List.getElem?_cons_zero]; rfl
              · first | exact Or.inr ⟨by rfl, rfl⟩ | (refine Or.inl ⟨by rfl, ?_⟩; intro w' hSw; (try dsimp only at hSw); go_simp; (try with_reducible rfl))
              try simp only [Act.put, List.setIfInBounds_toArray, List.set_cons_zero, List.set_cons_succ]
              apply wpAnyH_take (i := 11) (hs := by kernel_rfl) (hf := by kernel_rfl) (hr := by kernel_rfl) (hQ := fun _ _ _ h => h) (hS := by assumption)
              · simp only [List.getElem?_toArray, List.getElem?_cons_succ, List.getElem?_cons_zero]; rfl
              · first | exact Or.inr ⟨by rfl, rfl⟩ | (refine Or.inl ⟨by rfl, ?_⟩; intro w' hSw; (try dsimp only at hSw); go_simp; (try with_reducible rfl))
              try simp only [Act.put, List.setIfInBounds_toArray, List.set_cons_zero, List.set_cons_succ]
              apply wpAnyH_take (i := 12) (hs := by kernel_rfl) (hf := by kernel_rfl) (hr := by kernel_rfl) (hQ := fun _ _ _ h => h) (hS := by assumption)
              · simp only [List.getElem?_toArray, List.getElem?_cons_succ, List.getElem?_cons_zero]; rfl
              · first | exact Or.inr ⟨by rfl, rfl⟩ | (refine Or.inl ⟨by rfl, ?_⟩; intro w' hSw; (try dsimp only at hSw); go_simp; (try with_reducible rfl))
              try simp only [Act.put, List.setIfInBounds_toArray, List.set_cons_zero, List.set_cons_succ]
              refine wpAnyH_ready (rs := [13]) (by kernel_rfl) (by simp) ?_
              apply AllReadyH.cons (hs := AllReadyH.nil)
              · simp only [List.getElem?_toArray, List.getElem?_cons_succ, List.getElem?_cons_zero]; rfl
              intro K hK
              go_simp
              (go_at_call 30; with_reducible refine (HAH.out _).mono ?_; rintro e w1 ⟨rfl, hb1⟩)
              go_wp2_with fail
              refine hK.out _ _ ⟨Bx.keep_cell hb1 hHeld.1, Bx.keep_cell hb1 hHeld.2.1, Bx.keep_cell hb1 hHeld.2.2.1, Bx.keep_cell hb1 hHeld.2.2.2.1, Bx.keep_cell hb1 hHeld.2.2.2.2.1, Bx.keep_cell hb1 hHeld.2.2.2.2.2.1, Bx.keep_cell hb1 hHeld.2.2.2.2.2.2.1, Bx.keep_cell hb1 hHeld.2.2.2.2.2.2.2.1, Bx.keep_cell hb1 hHeld.2.2.2.2.2.2.2.2.1, Bx.keep_cell hb1 hHeld.2.2.2.2.2.2.2.2.2.1, Bx.keep_cell hb1 hHeld.2.2.2.2.2.2.2.2.2.2⟩ (fun hNew => ?_)
              clear hHeld
              have hHeld := hNew
              clear hNew hK K
              replace BX := Lib.hid (Bx.then_below BX.out hb1); clear hb1
              apply wpAnyH_take (i := 14) (hs := by kernel_rfl) (hf := by kernel_rfl) (hr := by kernel_rfl) (hQ := fun _ _ _ h => h) (hS := by assumption)
              · simp only [List.getElem?_toArray, List.getElem?_cons_succ, List.getElem?_cons_zero]; rfl
              · first | exact Or.inr ⟨by rfl, rfl⟩ | (refine Or.inl ⟨by rfl, ?_⟩; intro w' hSw; (try dsimp only at hSw); go_simp; (try with_reducible rfl))
              try simp only [Act.put, List.setIfInBounds_toArray, List.set_cons_zero, List.set_cons_succ]
              apply wpAnyH_take (i := 15) (hs := by kernel_rfl) (hf := by kernel_rfl) (hr := by kernel_rfl) (hQ := fun _ _ _ h => h) (hS := by assumption)
              · simp only [List.getElem?_toArray, List.getElem?_cons_succ, List.getElem?_cons_zero]; rfl
              · first | exact Or.inr ⟨by rfl, rfl⟩ | (refine Or.inl ⟨by rfl, ?_⟩; intro w' hSw; (try dsimp only at hSw); go_simp; (try with_reducible rfl))
              try simp only [Act.put, List.setIfInBounds_toArray, List.set_cons_zero, List.set_cons_succ]
              apply wpAnyH_take (i := 16) (hs := by kernel_rfl) (hf := by kernel_rfl) (hr := by kernel_rfl) (hQ := fun _ _ _ h => h) (hS := by assumption)
              · simp only [List.getElem?_toArray, List.getElem?_cons_succ, List.getElem?_cons_zero]; rfl
              · first | exact Or.inr ⟨by rfl, rfl⟩ | (refine Or.inl ⟨by rfl, ?_⟩; intro w' hSw; (try dsimp only at hSw); go_simp; (try with_reducible rfl))
              try simp only [Act.put, List.setIfInBounds_toArray, List.set_cons_zero, List.set_cons_succ]
              apply wpAnyH_take (i := 17) (hs := by kernel_rfl) (hf := by kernel_rfl) (hr := by kernel_rfl) (hQ := fun _ _ _ h => h) (hS := by assumption)
              · simp only [List.getElem?_toArray, List.getElem?_cons_succ, List.getElem?_cons_zero]; rfl
              · first | exact Or.inr ⟨by rfl, rfl⟩ | (refine Or.inl ⟨by rfl, ?_⟩; intro w' hSw; (try dsimp only at hSw); go_simp; (try with_reducible rfl))
              try simp only [Act.put, List.setIfInBounds_toArray, List.set_cons_zero, List.set_cons_succ]
              apply wpAnyH_take (i := 18) (hs := by kernel_rfl) (hf := by kernel_rfl) (hr := by kernel_rfl) (hQ := fun _ _ _ h => h) (hS := by assumption)
              · simp only [List.getElem?_toArray, List.getElem?_cons_succ, List.getElem?_cons_zero]; rfl
              · first | exact Or.inr ⟨by rfl, rfl⟩ | (refine Or.inl ⟨by rfl, ?_⟩; intro w' hSw; (try dsimp only at hSw); go_simp; (try with_reducible rfl))
              try simp only [Act.put, List.setIfInBounds_toArray, List.set_cons_zero, List.set_cons_succ]
              apply wpAnyH_take (i := 19) (hs := by kernel_rfl) (hf := by kernel_rfl) (hr := by kernel_rfl) (hQ := fun _ _ _ h => h) (hS := by assumption)
              · simp only [List.getElem?_toArray, List.getElem?_cons_succ, List.getElem?_cons_zero]; rfl
              · first | exact Or.inr ⟨by rfl, rfl⟩ | (refine Or.inl ⟨by rfl, ?_⟩; intro w' hSw; (try dsimp only at hSw); go_simp; (try with_reducible rfl))
              try simp only [Act.put, List.setIfInBounds_toArray, List.set_cons_zero, List.set_cons_succ]
              try rw [h1]
              apply wpAnyH_take (i := 20) (hs := by kernel_rfl) (hf := by kernel_rfl) (hr := by kernel_rfl) (hQ := fun _ _ _ h => h) (hS := by assumption)
              · simp only [List.getElem?_toArray, List.getElem?_cons_succ, List.getElem?_cons_zero]; rfl
              · first | exact Or.inr ⟨by rfl, rfl⟩ | (refine Or.inl ⟨by rfl, ?_⟩; intro w' hSw; (try dsimp only at hSw); go_simp; (try with_reducible rfl))
              try simp only [Act.put, List.setIfInBounds_toArray, List.set_cons_zero, List.set_cons_succ]
              apply wpAnyH_take (i := 21) (hs := by kernel_rfl) (hf := by kernel_rfl) (hr := by kernel_rfl) (hQ := fun _ _ _ h => h) (hS := by assumption)
              · simp only [List.getElem?_toArray, List.getElem?_cons_succ, List.getElem?_cons_zero]; rfl
              · first | exact Or.inr ⟨by rfl, rfl⟩ | (refine Or.inl ⟨by rfl, ?_⟩; intro w' hSw; (try dsimp only at hSw); go_simp; (try with_reducible rfl))
              try simp only [Act.put, List.setIfInBounds_toArray, List.set_cons_zero, List.set_cons_succ]
              apply wpAnyH_take (i := 22) (hs := by kernel_rfl) (hf := by kernel_rfl) (hr := by kernel_rfl) (hQ := fun _ _ _ h => h) (hS := by assumption)
              · simp only [List.getElem?_toArray, List.getElem?_cons_succ, List.getElem?_cons_zero]; rfl
              · first | exact Or.inr ⟨by rfl, rfl⟩ | (refine Or.inl ⟨by rfl, ?_⟩; intro w' hSw; (try dsimp only at hSw); go_simp; (try with_reducible rfl))
              try simp only [Act.put, List.setIfInBounds_toArray, List.set_cons_zero, List.set_cons_succ]
              apply wpAnyH_take (i := 23) (hs := by kernel_rfl) (hf := by kernel_rfl) (hr := by kernel_rfl) (hQ := fun _ _ _ h => h) (hS := by assumption)
              · simp only [List.getElem?_toArray, List.getElem?_cons_succ, List.getElem?_cons_zero]; rfl
              · first | exact Or.inr ⟨by rfl, rfl⟩ | (refine Or.inl ⟨by rfl, ?_⟩; intro w' hSw; (try dsimp only at hSw); go_simp; (try with_reducible rfl))
              try simp only [Act.put, List.setIfInBounds_toArray, List.set_cons_zero, List.set_cons_succ]
              apply wpAnyH_take (i := 24) (hs := by kernel_rfl) (hf := by kernel_rfl) (hr := by kernel_rfl) (hQ := fun _ _ _ h => h) (hS := by assumption)
              · simp only [List.getElem?_toArray, List.getElem?_cons_succ, List.getElem?_cons_zero]; rfl
              · first | exact Or.inr ⟨by rfl, rfl⟩ | (refine Or.inl ⟨by rfl, ?_⟩; intro w' hSw; (try dsimp only at hSw); go_simp; (try with_reducible rfl))
              try simp only [Act.put, List.setIfInBounds_toArray, List.set_cons_zero, List.set_cons_succ]
              apply wpAnyH_take (i := 25) (hs := by kernel_rfl) (hf := by kernel_rfl) (hr := by kernel_rfl) (hQ := fun _ _ _ h => h) (hS := by assumption)
              · simp only [List.getElem?_toArray, List.getElem?_cons_succ, List.getElem?_cons_zero]; rfl
              · first | exact Or.inr ⟨by rfl, rfl⟩ | (refine Or.inl ⟨by rfl, ?_⟩; intro w' hSw; (try dsimp only at hSw); go_simp; (try with_reducible rfl))
              try simp only [Act.put, List.setIfInBounds_toArray, List.set_cons_zero, List.set_cons_succ]
              apply wpAnyH_take (i := 26) (hs := by kernel_rfl) (hf := by kernel_rfl) (hr := by kernel_rfl) (hQ := fun _ _ _ h => h) (hS := by assumption)
              · simp only [List.getElem?_toArray, List.getElem?_cons_succ, List.getElem?_cons_zero]; rfl
              · first | exact Or.inr ⟨by rfl, rfl⟩ | (refine Or.inl ⟨by rfl, ?_⟩; intro w' hSw; (try dsimp only at hSw); go_simp; (try with_reducible rfl))
              try simp only [Act.put, List.setIfInBounds_toArray, List.set_cons_zero, List.set_cons_succ]
              try rw [h2]
              apply wpAnyH_take (i := 27) (hs := by kernel_rfl) (hf := by kernel_rfl) (hr := by kernel_rfl) (hQ := fun _ _ _ h => h) (hS := by assumption)
              · simp only [List.getElem?_toArray, List.getElem?_cons_succ, List.getElem?_cons_zero]; rfl
              · first | exact Or.inr ⟨by rfl, rfl⟩ | (refine Or.inl ⟨by rfl, ?_⟩; intro w' hSw; (try dsimp only at hSw); go_simp; (try with_reducible rfl))
              try simp only [Act.put, List.setIfInBounds_toArray, List.set_cons_zero, List.set_cons_succ]
              apply wpAnyH_take (i := 28) (hs := by kernel_rfl) (hf := by kernel_rfl) (hr := by kernel_rfl) (hQ := fun _ _ _ h => h) (hS := by assumption)
              · simp only [List.getElem?_toArray, List.getElem?_cons_succ, List.getElem?_cons_zero]; rfl
              · first | exact Or.inr ⟨by rfl, rfl⟩ | (refine Or.inl ⟨by rfl, ?_⟩; intro w' hSw; (try dsimp only at hSw); go_simp; (try with_reducible rfl))
              try simp only [Act.put, List.setIfInBounds_toArray, List.set_cons_zero, List.set_cons_succ]
              apply wpAnyH_take (i := 29) (hs := by kernel_rfl) (hf := by kernel_rfl) (hr := by kernel_rfl) (hQ := fun _ _ _ h => h) (hS := by assumption)
              · simp only [List.getElem?_toArray, List.getElem?_cons_succ, List.getElem?_cons_zero]; rfl
              · first | exact Or.inr ⟨by rfl, rfl⟩ | (refine Or.inl ⟨by rfl, ?_⟩; intro w' hSw; (try dsimp only at hSw); go_simp; (try with_reducible rfl))
              try simp only [Act.put, List.setIfInBounds_toArray, List.set_cons_zero, List.set_cons_succ]
              apply wpAnyH_take (i := 30) (hs := by kernel_rfl) (hf := by kernel_rfl) (hr := by kernel_rfl) (hQ := fun _ _ _ h => h) (hS := by assumption)
              · simp only [List.getElem?_toArray, List.getElem?_cons_succ, List.getElem?_cons_zero]; rfl
              · first | exact Or.inr ⟨by rfl, rfl⟩ | (refine Or.inl ⟨by rfl, ?_⟩; intro w' hSw; (try dsimp only at hSw); go_simp; (try with_reducible rfl))
              try simp only [Act.put, List.setIfInBounds_toArray, List.set_cons_zero, List.set_cons_succ]
              apply wpAnyH_take (i := 31) (hs := by kernel_rfl) (hf := by kernel_rfl) (hr := by kernel_rfl) (hQ := fun _ _ _ h => h) (hS := by assumption)
              · simp only [List.getElem?_toArray, List.getElem?_cons_succ, List.getElem?_cons_zero]; rfl
              · first | exact Or.inr ⟨by rfl, rfl⟩ | (refine Or.inl ⟨by rfl, ?_⟩; intro w' hSw; (try dsimp only at hSw); go_simp; (try with_reducible rfl))
              try simp only [Act.put, List.setIfInBounds_toArray, List.set_cons_zero, List.set_cons_succ]
              try rw [h3]
              apply wpAnyH_take (i := 32) (hs := by kernel_rfl) (hf := by kernel_rfl) (hr := by kernel_rfl) (hQ := fun _ _ _ h => h) (hS := by assumption)
              · simp only [List.getElem?_toArray, List.getElem?_cons_succ, List.getElem?_cons_zero]; rfl
              · first | exact Or.inr ⟨by rfl, rfl⟩ | (refine Or.inl ⟨by rfl, ?_⟩; intro w' hSw; (try dsimp only at hSw); go_simp; (try with_reducible rfl))
              try simp only [Act.put, List.setIfInBounds_toArray, List.set_cons_zero, List.set_cons_succ]
              apply wpAnyH_take (i := 33) (hs := by kernel_rfl) (hf := by kernel_rfl) (hr := by kernel_rfl) (hQ := fun _ _ _ h => h) (hS := by assumption)
              · simp only [List.getElem?_toArray, List.getElem?_cons_succ, List.getElem?_cons_zero]; rfl
              · first | exact Or.inr ⟨by rfl, rfl⟩ | (refine Or.inl ⟨by rfl, ?_⟩; intro w' hSw; (try dsimp only at hSw); go_simp; (try with_reducible rfl))
              try simp only [Act.put, List.setIfInBounds_toArray, List.set_cons_zero, List.set_cons_succ]
              apply wpAnyH_take (i := 34) (hs := by kernel_rfl) (hf := by kernel_rfl) (hr := by kernel_rfl) (hQ := fun _ _ _ h => h) (hS := by assumption)
              · simp only [List.getElem?_toArray, List.getElem?_cons_succ, List.getElem?_cons_zero]; rfl
              · first | exact Or.inr ⟨by rfl, rfl⟩ | (refine Or.inl ⟨by rfl, ?_⟩; intro w' hSw; (try dsimp only at hSw); go_simp; (try with_reducible rfl))
              try simp only [Act.put, List.setIfInBounds_toArray, List.set_cons_zero, List.set_cons_succ]
              apply wpAnyH_take (i := 35) (hs := by kernel_rfl) (hf := by kernel_rfl) (hr := by kernel_rfl) (hQ := fun _ _ _ h => h) (hS := by assumption)
              · simp only [List.getElem?_toArray, List.getElem?_cons_succ, List.getElem?_cons_zero]; rfl
              · first | exact Or.inr ⟨by rfl, rfl⟩ | (refine Or.inl ⟨by rfl, ?_⟩; intro w' hSw; (try dsimp only at hSw); go_simp; (try with_reducible rfl))
              try simp only [Act.put, List.setIfInBounds_toArray, List.set_cons_zero, List.set_cons_succ]
              apply wpAnyH_take (i := 36) (hs := by kernel_rfl) (hf := by kernel_rfl) (hr := by kernel_rfl) (hQ := fun _ _ _ h => h) (hS := by assumption)
              · simp only [List.getElem?_toArray, List.getElem?_cons_succ, List.getElem?_cons_zero]; rfl
              · first | exact Or.inr ⟨by rfl, rfl⟩ | (refine Or.inl ⟨by rfl, ?_⟩; intro w' hSw; (try dsimp only at hSw); go_simp; (try with_reducible rfl))
              try simp only [Act.put, List.setIfInBounds_toArray, List.set_cons_zero, List.set_cons_succ]
              try rw [h4]
              apply wpAnyH_take (i := 37) (hs := by kernel_rfl) (hf := by kernel_rfl) (hr := by kernel_rfl) (hQ := fun _ _ _ h => h) (hS := by assumption)
              · simp only [List.getElem?_toArray, List.getElem?_cons_succ, List.getElem?_cons_zero]; rfl
              · first | exact Or.inr ⟨by rfl, rfl⟩ | (refine Or.inl ⟨by rfl, ?_⟩; intro w' hSw; (try dsimp only at hSw); go_simp; (try with_reducible rfl))
              try simp only [Act.put, List.setIfInBounds_toArray, List.set_cons_zero, List.set_cons_succ]
              apply wpAnyH_take (i := 38) (hs := by kernel_rfl) (hf := by kernel_rfl) (hr := by kernel_rfl) (hQ := fun _ _ _ h => h) (hS := by assumption)
              · simp only [List.getElem?_toArray, List.getElem?_cons_succ, List.getElem?_cons_zero]; rfl
              · first | exact Or.inr ⟨by rfl, rfl⟩ | (refine Or.inl ⟨by rfl, ?_⟩; intro w' hSw; (try dsimp only at hSw); go_simp; (try with_reducible rfl))
              try simp only [Act.put, List.setIfInBounds_toArray, List.set_cons_zero, List.set_cons_succ]
              apply wpAnyH_take (i := 39) (hs := by kernel_rfl) (hf := by kernel_rfl) (hr := by kernel_rfl) (hQ := fun _ _ _ h => h) (hS := by assumption)
              · simp only [List.getElem?_toArray, List.getElem?_cons_succ, List.getElem?_cons_zero]; rfl
              · first | exact Or.inr ⟨by rfl, rfl⟩ | (refine Or.inl ⟨by rfl, ?_⟩; intro w' hSw; (try dsimp only at hSw); go_simp; (try with_reducible rfl))
              try simp only [Act.put, List.setIfInBounds_toArray, List.set_cons_zero, List.set_cons_succ]
              apply wpAnyH_take (i := 40) (hs := by kernel_rfl) (hf := by kernel_rfl) (hr := by kernel_rfl) (hQ := fun _ _ _ h => h) (hS := by assumption)
              · simp only [List.getElem?_toArray, List.getElem?_cons_succ, List.getElem?_cons_zero]; rfl
              · first | exact Or.inr ⟨by rfl, rfl⟩ | (refine Or.inl ⟨by rfl, ?_⟩; intro w' hSw; (try dsimp only at hSw); go_simp; (try with_reducible rfl))
              try simp only [Act.put, List.setIfInBounds_toArray, List.set_cons_zero, List.set_cons_succ]
              first
              | skip
                apply wpAnyH_take (i := 41) (hs := by kernel_rfl) (hf := by kernel_rfl) (hr := by kernel_rfl) (hQ := fun _ _ _ h => h) (hS := by assumption)
                · simp only [List.getElem?_toArray, List.getElem?_cons_succ, List.getElem?_cons_zero]; rfl
                · first | exact Or.inr ⟨by rfl, rfl⟩ | (refine Or.inl ⟨by rfl, ?_⟩; intro w' hSw; (try dsimp only at hSw); go_simp; (try with_reducible rfl))
                try simp only [Act.put, List.setIfInBounds_toArray, List.set_cons_zero, List.set_cons_succ]
              | skip
                refine wpAnyH_ready (rs := [41]) (by kernel_rfl) (by simp) ?_
                apply AllReadyH.cons (hs := AllReadyH.nil)
                · simp only [List.getElem?_toArray, List.getElem?_cons_succ, List.getElem?_cons_zero]; rfl
                intro K hK
                go_simp
                (go_at_call 31; with_reducible refine (HG'.out _).mono ?_; rintro e w2 ⟨rfl, rfl⟩)
                go_wp2_with fail
                refine hK.out _ _ ⟨Bx.keep_cell (Bx.bel_refl _) hHeld.1, Bx.keep_cell (Bx.bel_refl _) hHeld.2.1, Bx.keep_cell (Bx.bel_refl _) hHeld.2.2.1, Bx.keep_cell (Bx.bel_refl _) hHeld.2.2.2.1, Bx.keep_cell (Bx.bel_refl _) hHeld.2.2.2.2.1, Bx.keep_cell (Bx.bel_refl _) hHeld.2.2.2.2.2.1, Bx.keep_cell (Bx.bel_refl _) hHeld.2.2.2.2.2.2.1, Bx.keep_cell (Bx.bel_refl _) hHeld.2.2.2.2.2.2.2.1, Bx.keep_cell (Bx.bel_refl _) hHeld.2.2.2.2.2.2.2.2.1, Bx.keep_cell (Bx.bel_refl _) hHeld.2.2.2.2.2.2.2.2.2.1, Bx.keep_cell (Bx.bel_refl _) hHeld.2.2.2.2.2.2.2.2.2.2⟩ (fun hNew => ?_)
                clear hHeld
                have hHeld := hNew
                clear hNew hK K
                skip
              apply wpAnyH_take (i := 42) (hs := by kernel_rfl) (hf := by kernel_rfl) (hr := by kernel_rfl) (hQ := fun _ _ _ h => h) (hS := by assumption)
              · simp only [List.getElem?_toArray, List.getElem?_cons_succ, List.getElem?_cons_zero]; rfl
              · first | exact Or.inr ⟨by rfl, rfl⟩ | (refine Or.inl ⟨by rfl, ?_⟩; intro w' hSw; (try dsimp only at hSw); go_simp; (try with_reducible rfl))
              try simp only [Act.put, List.setIfInBounds_toArray, List.set_cons_zero, List.set_cons_succ]
              apply wpAnyH_take (i := 43) (hs := by kernel_rfl) (hf := by kernel_rfl) (hr := by kernel_rfl) (hQ := fun _ _ _ h => h) (hS := by assumption)
              · simp only [List.getElem?_toArray, List.getElem?_cons_succ, List.getElem?_cons_zero]; rfl
              · first | exact Or.inr ⟨by rfl, rfl⟩ | (refine Or.inl ⟨by rfl, ?_⟩; intro w' hSw; (try dsimp only at hSw); go_simp; (try with_reducible rfl))
              try simp only [Act.put, List.setIfInBounds_toArray, List.set_cons_zero, List.set_cons_succ]
              apply wpAnyH_take (i := 44) (hs := by kernel_rfl) (hf := by kernel_rfl) (hr := by kernel_rfl) (hQ := fun _ _ _ h => h) (hS := by assumption)
              · simp only [List.getElem?_toArray, List.getElem?_cons_succ, List.getElem?_cons_zero]; rfl
              · first | exact Or.inr ⟨by rfl, rfl⟩ | (refine Or.inl ⟨by rfl, ?_⟩; intro w' hSw; (try dsimp only at hSw); go_simp; (try with_reducible rfl))
              try simp only [Act.put, List.setIfInBounds_toArray, List.set_cons_zero, List.set_cons_succ]
              apply wpAnyH_take (i := 45) (hs := by kernel_rfl) (hf := by kernel_rfl) (hr := by kernel_rfl) (hQ := fun _ _ _ h => h) (hS := by assumption)
              · simp only [List.getElem?_toArray, List.getElem?_cons_succ, List.getElem?_cons_zero]; rfl
              · first | exact Or.inr ⟨by rfl, rfl⟩ | (refine Or.inl ⟨by rfl, ?_⟩; intro w' hSw; (try dsimp only at hSw); go_simp; (try with_reducible rfl))
              try simp only [Act.put, List.setIfInBounds_toArray, List.set_cons_zero, List.set_cons_succ]
              apply wpAnyH_take (i := 46) (hs := by kernel_rfl) (hf := by kernel_rfl) (hr := by kernel_rfl) (hQ := fun _ _ _ h => h) (hS := by assumption)
              · simp only [List.getElem?_toArray, List.getElem?_cons_succ, List.getElem?_cons_zero]; rfl
              · first | exact Or.inr ⟨by rfl, rfl⟩ | (refine Or.inl ⟨by rfl, ?_⟩; intro w' hSw; (try dsimp only at hSw); go_simp; (try with_reducible rfl))
              try simp only [Act.put, List.setIfInBounds_toArray, List.set_cons_zero, List.set_cons_succ]
              try rw [h6]
              apply wpAnyH_take (i := 47) (hs := by kernel_rfl) (hf := by kernel_rfl) (hr := by kernel_rfl) (hQ := fun _ _ _ h => h) (hS := by assumption)
              · simp only [List.getElem?_toArray, List.getElem?_cons_succ, List.getElem?_cons_zero]; rfl
              · first | exact Or.inr ⟨by rfl, rfl⟩ | (refine Or.inl ⟨by rfl, ?_⟩; intro w' hSw; (try dsimp only at hSw); go_simp; (try with_reducible rfl))
              try simp only [Act.put, List.setIfInBounds_toArray, List.set_cons_zero, List.set_cons_succ]
              apply wpAnyH_take (i := 48) (hs := by kernel_rfl) (hf := by kernel_rfl) (hr := by kernel_rfl) (hQ := fun _ _ _ h => h) (hS := by assumption)
              · simp only [List.getElem?_toArray, List.getElem?_cons_succ, List.getElem?_cons_zero]; rfl
              · first | exact Or.inr ⟨by rfl, rfl⟩ | (refine Or.inl ⟨by rfl, ?_⟩; intro w' hSw; (try dsimp only at hSw); go_simp; (try with_reducible rfl))
              try simp only [Act.put, List.setIfInBounds_toArray, List.set_cons_zero, List.set_cons_succ]
              apply wpAnyH_take (i := 49) (hs := by kernel_rfl) (hf := by kernel_rfl) (hr := by kernel_rfl) (hQ := fun _ _ _ h => h) (hS := by assumption)
              · simp only [List.getElem?_toArray, List.getElem?_cons_succ, List.getElem?_cons_zero]; rfl
              · first | exact Or.inr ⟨by rfl, rfl⟩ | (refine Or.inl ⟨by rfl, ?_⟩; intro w' hSw; (try dsimp only at hSw); go_simp; (try with_reducible rfl))
              try simp only [Act.put, List.setIfInBounds_toArray, List.set_cons_zero, List.set_cons_succ]
              apply wpAnyH_take (i := 50) (hs := by kernel_rfl) (hf := by kernel_rfl) (hr := by kernel_rfl) (hQ := fun _ _ _ h => h) (hS := by assumption)
              · simp only [List.getElem?_toArray, List.getElem?_cons_succ, List.getElem?_cons_zero]; rfl
              · first | exact Or.inr ⟨by rfl, rfl⟩ | (refine Or.inl ⟨by rfl, ?_⟩; intro w' hSw; (try dsimp only at hSw); go_simp; (try with_reducible rfl))
              try simp only [Act.put, List.setIfInBounds_toArray, List.set_cons_zero, List.set_cons_succ]
              apply wpAnyH_take (i := 51) (hs := by kernel_rfl) (hf := by kernel_rfl) (hr := by kernel_rfl) (hQ := fun _ _ _ h => h) (hS := by assumption)
              · simp only [List.getElem?_toArray, List.getElem?_cons_succ, List.getElem?_cons_zero]; rfl
              · first | exact Or.inr ⟨by rfl, rfl⟩ | (refine Or.inl ⟨by rfl, ?_⟩; intro w' hSw; (try dsimp only at hSw); go_simp; (try with_reducible rfl))
              try simp only [Act.put, List.setIfInBounds_toArray, List.set_cons_zero, List.set_cons_succ]
              try rw [h7]
              apply wpAnyH_take (i := 52) (hs := by kernel_rfl) (hf := by kernel_rfl) (hr := by kernel_rfl) (hQ := fun _ _ _ h => h) (hS := by assumption)
              · simp only [List.getElem?_toArray, List.getElem?_cons_succ, List.getElem?_cons_zero]; rfl
              · first | exact Or.inr ⟨by rfl, rfl⟩ | (refine Or.inl ⟨by rfl, ?_⟩; intro w' hSw; (try dsimp only at hSw); go_simp; (try with_reducible rfl))
              try simp only [Act.put, List.setIfInBounds_toArray, List.set_cons_zero, List.set_cons_succ]
              refine wpAnyH_done (by kernel_rfl) ?_ _
              refine NoPanic.normal ?_
              clear hHeld
              go_wp2
              go_roundw
              case rel => exact ⟨k + 1, by omega, by go_num, HE2.out, BX.out⟩
              case measure => simp [intOf]; omega
            · have HE2 := Lib.hid (show R = false by rw [HQ.out, hx, Bool.false_and, Bool.false_and])
              clear hx HQ ha
              rcases hok with ⟨h1, h2, h3, h4, h5, h6, h7⟩ | ⟨h1, h2, h3, h4, h5, h6, h7⟩ | ⟨h1, h2, h3, h4, h5, h6, h7⟩ | ⟨h1, h2, h3, h4, h5, h6, h7⟩ | ⟨h1, h2, h3, h4, h5, h6, h7⟩ | ⟨h1, h2, h3, h4, h5, h6, h7⟩ | ⟨h1, h2, h3, h4, h5, h6, h7⟩
              all_goals
                try rw [h5] at HG'
                try clear h5
                go_wp2
                refine wp_region_noPanic ?_
                refine wp_region_held_drew (S := fun w' => w'.cell? ⟨wr.heap.size, 0, none⟩ = some (.int .i64 x1) ∧ w'.cell? ⟨wr.heap.size, 1, none⟩ = some (.int .u64 x2) ∧ w'.cell? ⟨wr.heap.size, 2, none⟩ = some (.int .i64 x3) ∧ w'.cell? ⟨wr.heap.size, 3, none⟩ = some (.int .i64 x4) ∧ w'.cell? ⟨w.heap.size, 0, none⟩ = some (.int .i64 most) ∧ w'.cell? ⟨w.heap.size, 1, none⟩ = some (.int .i64 long) ∧ w'.cell? ⟨w.heap.size, 2, none⟩ = some (.slice (some ⟨b, o, none⟩) l.length c) ∧ w'.cell? ⟨b, o + j * 4, none⟩ = some (.int .i64 y1) ∧ w'.cell? ⟨b, o + j * 4 + 1, none⟩ = some (.int .u64 y2) ∧ w'.cell? ⟨b, o + j * 4 + 2, none⟩ = some (.int .i64 y3) ∧ w'.cell? ⟨b, o + j * 4 + 3, none⟩ = some (.int .i64 y4)) (by kernel_rfl) (by exact ⟨d0, d1, d2, d3, t0, t1, t2, e0, e1, e2, e3⟩) (fun hHeld => ?_)
                replace BX := Lib.hid (Bx.bel_drewn BX.out)
                apply wpAnyH_take (i := 0) (hs := by kernel_rfl) (hf := by kernel_rfl) (hr := by kernel_rfl) (hQ := fun _ _ _ h => h) (hS := by assumption)
                · simp only [List.getElem?_toArray, List.getElem?_cons_zero]; rfl
                · first | exact Or.inr ⟨by rfl, rfl⟩ | (refine Or.inl ⟨by rfl, ?_⟩; intro w' hSw; (try dsimp only at hSw); go_simp; (try with_reducible rfl))
                try simp only [Act.put, List.setIfInBounds_toArray, List.set_cons_zero, List.set_cons_succ]
                apply wpAnyH_take (i := 1) (hs := by kernel_rfl) (hf := by kernel_rfl) (hr := by kernel_rfl) (hQ := fun _ _ _ h => h) (hS := by assumption)
                · simp only [List.getElem?_toArray, List.getElem?_cons_succ, List.getElem?_cons_zero]; rfl
                · first | exact Or.inr ⟨by rfl, rfl⟩ | (refine Or.inl ⟨by rfl, ?_⟩; intro w' hSw; (try dsimp only at hSw); go_simp; (try with_reducible rfl))
                try simp only [Act.put, List.setIfInBounds_toArray, List.set_cons_zero, List.set_cons_succ]
                try rw [hz0]
                apply wpAnyH_take (i := 2) (hs := by kernel_rfl) (hf := by kernel_rfl) (hr := by kernel_rfl) (hQ := fun _ _ _ h => h) (hS := by assumption)
                · simp only [List.getElem?_toArray, List.getElem?_cons_succ, List.getElem?_cons_zero]; rfl
                · first | exact Or.inr ⟨by rfl, rfl⟩ | (refine Or.inl ⟨by rfl, ?_⟩; intro w' hSw; (try dsimp only at hSw); go_simp; (try with_reducible rfl))
                try simp only [Act.put, List.setIfInBounds_toArray, List.set_cons_zero, List.set_cons_succ]
                apply wpAnyH_take (i := 3) (hs := by kernel_rfl) (hf := by kernel_rfl) (hr := by kernel_rfl) (hQ := fun _ _ _ h => h) (hS := by assumption)
                · simp only [List.getElem?_toArray, List.getElem?_cons_succ, List.getElem?_cons_zero]; rfl
                · first | exact Or.inr ⟨by rfl, rfl⟩ | (refine Or.inl ⟨by rfl, ?_⟩; intro w' hSw; (try dsimp only at hSw); go_simp; (try with_reducible rfl))
                try simp only [Act.put, List.setIfInBounds_toArray, List.set_cons_zero, List.set_cons_succ]
                apply wpAnyH_take (i := 4) (hs := by kernel_rfl) (hf := by kernel_rfl) (hr := by kernel_rfl) (hQ := fun _ _ _ h => h) (hS := by assumption)
                · simp only [List.getElem?_toArray, List.getElem?_cons_succ, List.getElem?_cons_zero]; rfl
                · first | exact Or.inr ⟨by rfl, rfl⟩ | (refine Or.inl ⟨by rfl, ?_⟩; intro w' hSw; (try dsimp only at hSw); go_simp; (try with_reducible rfl))
                try simp only [Act.put, List.setIfInBounds_toArray, List.set_cons_zero, List.set_cons_succ]
                apply wpAnyH_take (i := 5) (hs := by kernel_rfl) (hf := by kernel_rfl) (hr := by kernel_rfl) (hQ := fun _ _ _ h => h) (hS := by assumption)
                · simp only [List.getElem?_toArray, List.getElem?_cons_succ, List.getElem?_cons_zero]; rfl
                · first | exact Or.inr ⟨by rfl, rfl⟩ | (refine Or.inl ⟨by rfl, ?_⟩; intro w' hSw; (try dsimp only at hSw); go_simp; (try with_reducible rfl))
                try simp only [Act.put, List.setIfInBounds_toArray, List.set_cons_zero, List.set_cons_succ]
                apply wpAnyH_take (i := 6) (hs := by kernel_rfl) (hf := by kernel_rfl) (hr := by kernel_rfl) (hQ := fun _ _ _ h => h) (hS := by assumption)
                · simp only [List.getElem?_toArray, List.getElem?_cons_succ, List.getElem?_cons_zero]; rfl
                · first | exact Or.inr ⟨by rfl, rfl⟩ | (refine Or.inl ⟨by rfl, ?_⟩; intro w' hSw; (try dsimp only at hSw); go_simp; (try with_reducible rfl))
                try simp only [Act.put, List.setIfInBounds_toArray, List.set_cons_zero, List.set_cons_succ]
                apply wpAnyH_take (i := 7) (hs := by kernel_rfl) (hf := by kernel_rfl) (hr := by kernel_rfl) (hQ := fun _ _ _ h => h) (hS := by assumption)
                · simp only [List.getElem?_toArray, List.getElem?_cons_succ, List.getElem?_cons_zero]; rfl
                · first | exact Or.inr ⟨by rfl, rfl⟩ | (refine Or.inl ⟨by rfl, ?_⟩; intro w' hSw; (try dsimp only at hSw); go_simp; (try with_reducible rfl))
                try simp only [Act.put, List.setIfInBounds_toArray, List.set_cons_zero, List.set_cons_succ]
                apply wpAnyH_take (i := 8) (hs := by kernel_rfl) (hf := by kernel_rfl) (hr := by kernel_rfl) (hQ := fun _ _ _ h => h) (hS := by assumption)
                · simp only [List.getElem?_toArray, List.getElem?_cons_succ, List.getElem?_cons_zero]; rfl
                · first | exact Or.inr ⟨by rfl, rfl⟩ | (refine Or.inl ⟨by rfl, ?_⟩; intro w' hSw; (try dsimp only at hSw); go_simp; (try with_reducible rfl))
                try simp only [Act.put, List.setIfInBounds_toArray, List.set_cons_zero, List.set_cons_succ]
                apply wpAnyH_take (i := 9) (hs := by kernel_rfl) (hf := by kernel_rfl) (hr := by kernel_rfl) (hQ := fun _ _ _ h => h) (hS := by assumption)
                · simp only [List.getElem?_toArray, List.getElem?_cons_succ, List.getElem?_cons_zero]; rfl
                · first | exact Or.inr ⟨by rfl, rfl⟩ | (refine Or.inl ⟨by rfl, ?_⟩; intro w' hSw; (try dsimp only at hSw); go_simp; (try with_reducible rfl))
                try simp only [Act.put, List.setIfInBounds_toArray, List.set_cons_zero, List.set_cons_succ]
                apply wpAnyH_take (i := 10) (hs := by kernel_rfl) (hf := by kernel_rfl) (hr := by kernel_rfl) (hQ := fun _ _ _ h => h) (hS := by assumption)
                · simp only [List.getElem?_toArray, List.getElem?_cons_succ, List.getElem?_cons_zero]; rfl
                · first | exact Or.inr ⟨by rfl, rfl⟩ | (refine Or.inl ⟨by rfl, ?_⟩; intro w' hSw; (try dsimp only at hSw); go_simp; (try with_reducible rfl))
                try simp only [Act.put, List.setIfInBounds_toArray, List.set_cons_zero, List.set_cons_succ]
                apply wpAnyH_take (i := 11) (hs := by kernel_rfl) (hf := by kernel_rfl) (hr := by kernel_rfl) (hQ := fun _ _ _ h => h) (hS := by assumption)
                · simp only [List.getElem?_toArray, List.getElem?_cons_succ, List.getElem?_cons_zero]; rfl
                · first | exact Or.inr ⟨by rfl, rfl⟩ | (refine Or.inl ⟨by rfl, ?_⟩; intro w' hSw; (try dsimp only at hSw); go_simp; (try with_reducible rfl))
                try simp only [Act.put, List.setIfInBounds_toArray, List.set_cons_zero, List.set_cons_succ]
                apply wpAnyH_take (i := 12) (hs := by kernel_rfl) (hf := by kernel_rfl) (hr := by kernel_rfl) (hQ := fun _ _ _ h => h) (hS := by assumption)
                · simp only [List.getElem?_toArray, List.getElem?_cons_succ, List.getElem?_cons_zero]; rfl
                · first | exact Or.inr ⟨by rfl, rfl⟩ | (refine Or.inl ⟨by rfl, ?_⟩; intro w' hSw; (try dsimp only at hSw); go_simp; (try with_reducible rfl))
                try simp only [Act.put, List.setIfInBounds_toArray, List.set_cons_zero, List.set_cons_succ]
                refine wpAnyH_ready (rs := [13]) (by kernel_rfl) (by simp) ?_
                apply AllReadyH.cons (hs := AllReadyH.nil)
                · simp only [List.getElem?_toArray, List.getElem?_cons_succ, List.getElem?_cons_zero]; rfl
                intro K hK
                go_simp
                (go_at_call 30; with_reducible refine (HAH.out _).mono ?_; rintro e w1 ⟨rfl, hb1⟩)
                go_wp2_with fail
                refine hK.out _ _ ⟨Bx.keep_cell hb1 hHeld.1, Bx.keep_cell hb1 hHeld.2.1, Bx.keep_cell hb1 hHeld.2.2.1, Bx.keep_cell hb1 hHeld.2.2.2.1, Bx.keep_cell hb1 hHeld.2.2.2.2.1, Bx.keep_cell hb1 hHeld.2.2.2.2.2.1, Bx.keep_cell hb1 hHeld.2.2.2.2.2.2.1, Bx.keep_cell hb1 hHeld.2.2.2.2.2.2.2.1, Bx.keep_cell hb1 hHeld.2.2.2.2.2.2.2.2.1, Bx.keep_cell hb1 hHeld.2.2.2.2.2.2.2.2.2.1, Bx.keep_cell hb1 hHeld.2.2.2.2.2.2.2.2.2.2⟩ (fun hNew => ?_)
                clear hHeld
                have hHeld := hNew
                clear hNew hK K
                replace BX := Lib.hid (Bx.then_below BX.out hb1); clear hb1
                apply wpAnyH_take (i := 14) (hs := by kernel_rfl) (hf := by kernel_rfl) (hr := by kernel_rfl) (hQ := fun _ _ _ h => h) (hS := by assumption)
                · simp only [List.getElem?_toArray, List.getElem?_cons_succ, List.getElem?_cons_zero]; rfl
                · first | exact Or.inr ⟨by rfl, rfl⟩ | (refine Or.inl ⟨by rfl, ?_⟩; intro w' hSw; (try dsimp only at hSw); go_simp; (try with_reducible rfl))
                try simp only [Act.put, List.setIfInBounds_toArray, List.set_cons_zero, List.set_cons_succ]
                apply wpAnyH_take (i := 15) (hs := by kernel_rfl) (hf := by kernel_rfl) (hr := by kernel_rfl) (hQ := fun _ _ _ h => h) (hS := by assumption)
                · simp only [List.getElem?_toArray, List.getElem?_cons_succ, List.getElem?_cons_zero]; rfl
                · first | exact Or.inr ⟨by rfl, rfl⟩ | (refine Or.inl ⟨by rfl, ?_⟩; intro w' hSw; (try dsimp only at hSw); go_simp; (try with_reducible rfl))
                try simp only [Act.put, List.setIfInBounds_toArray, List.set_cons_zero, List.set_cons_succ]
                apply wpAnyH_take (i := 16) (hs := by kernel_rfl) (hf := by kernel_rfl) (hr := by kernel_rfl) (hQ := fun _ _ _ h => h) (hS := by assumption)
                · simp only [List.getElem?_toArray, List.getElem?_cons_succ, List.getElem?_cons_zero]; rfl
                · first | exact Or.inr ⟨by rfl, rfl⟩ | (refine Or.inl ⟨by rfl, ?_⟩; intro w' hSw; (try dsimp only at hSw); go_simp; (try with_reducible rfl))
                try simp only [Act.put, List.setIfInBounds_toArray, List.set_cons_zero, List.set_cons_succ]
                apply wpAnyH_take (i := 17) (hs := by kernel_rfl) (hf := by kernel_rfl) (hr := by kernel_rfl) (hQ := fun _ _ _ h => h) (hS := by assumption)
                · simp only [List.getElem?_toArray, List.getElem?_cons_succ, List.getElem?_cons_zero]; rfl
                · first | exact Or.inr ⟨by rfl, rfl⟩ | (refine Or.inl ⟨by rfl, ?_⟩; intro w' hSw; (try dsimp only at hSw); go_simp; (try with_reducible rfl))
                try simp only [Act.put, List.setIfInBounds_toArray, List.set_cons_zero, List.set_cons_succ]
                apply wpAnyH_take (i := 18) (hs := by kernel_rfl) (hf := by kernel_rfl) (hr := by kernel_rfl) (hQ := fun _ _ _ h => h) (hS := by assumption)
                · simp only [List.getElem?_toArray, List.getElem?_cons_succ, List.getElem?_cons_zero]; rfl
                · first | exact Or.inr ⟨by rfl, rfl⟩ | (refine Or.inl ⟨by rfl, ?_⟩; intro w' hSw; (try dsimp only at hSw); go_simp; (try with_reducible rfl))
                try simp only [Act.put, List.setIfInBounds_toArray, List.set_cons_zero, List.set_cons_succ]
                apply wpAnyH_take (i := 19) (hs := by kernel_rfl) (hf := by kernel_rfl) (hr := by kernel_rfl) (hQ := fun _ _ _ h => h) (hS := by assumption)
                · simp only [List.getElem?_toArray, List.getElem?_cons_succ, List.getElem?_cons_zero]; rfl
                · first | exact Or.inr ⟨by rfl, rfl⟩ | (refine Or.inl ⟨by rfl, ?_⟩; intro w' hSw; (try dsimp only at hSw); go_simp; (try with_reducible rfl))
                try simp only [Act.put, List.setIfInBounds_toArray, List.set_cons_zero, List.set_cons_succ]
                try rw [h1]
                apply wpAnyH_take (i := 20) (hs := by kernel_rfl) (hf := by kernel_rfl) (hr := by kernel_rfl) (hQ := fun _ _ _ h => h) (hS := by assumption)
                · simp only [List.getElem?_toArray, List.getElem?_cons_succ, List.getElem?_cons_zero]; rfl
                · first | exact Or.inr ⟨by rfl, rfl⟩ | (refine Or.inl ⟨by rfl, ?_⟩; intro w' hSw; (try dsimp only at hSw); go_simp; (try with_reducible rfl))
                try simp only [Act.put, List.setIfInBounds_toArray, List.set_cons_zero, List.set_cons_succ]
                apply wpAnyH_take (i := 21) (hs := by kernel_rfl) (hf := by kernel_rfl) (hr := by kernel_rfl) (hQ := fun _ _ _ h => h) (hS := by assumption)
                · simp only [List.getElem?_toArray, List.getElem?_cons_succ, List.getElem?_cons_zero]; rfl
                · first | exact Or.inr ⟨by rfl, rfl⟩ | (refine Or.inl ⟨by rfl, ?_⟩; intro w' hSw; (try dsimp only at hSw); go_simp; (try with_reducible rfl))
                try simp only [Act.put, List.setIfInBounds_toArray, List.set_cons_zero, List.set_cons_succ]
                apply wpAnyH_take (i := 22) (hs := by kernel_rfl) (hf := by kernel_rfl) (hr := by kernel_rfl) (hQ := fun _ _ _ h => h) (hS := by assumption)
                · simp only [List.getElem?_toArray, List.getElem?_cons_succ, List.getElem?_cons_zero]; rfl
                · first | exact Or.inr ⟨by rfl, rfl⟩ | (refine Or.inl ⟨by rfl, ?_⟩; intro w' hSw; (try dsimp only at hSw); go_simp; (try with_reducible rfl))
                try simp only [Act.put, List.setIfInBounds_toArray, List.set_cons_zero, List.set_cons_succ]
                apply wpAnyH_take (i := 23) (hs := by kernel_rfl) (hf := by kernel_rfl) (hr := by kernel_rfl) (hQ := fun _ _ _ h => h) (hS := by assumption)
                · simp only [List.getElem?_toArray, List.getElem?_cons_succ, List.getElem?_cons_zero]; rfl
                · first | exact Or.inr ⟨by rfl, rfl⟩ | (refine Or.inl ⟨by rfl, ?_⟩; intro w' hSw; (try dsimp only at hSw); go_simp; (try with_reducible rfl))
                try simp only [Act.put, List.setIfInBounds_toArray, List.set_cons_zero, List.set_cons_succ]
                apply wpAnyH_take (i := 24) (hs := by kernel_rfl) (hf := by kernel_rfl) (hr := by kernel_rfl) (hQ := fun _ _ _ h => h) (hS := by assumption)
                · simp only [List.getElem?_toArray, List.getElem?_cons_succ, List.getElem?_cons_zero]; rfl
                · first | exact Or.inr ⟨by rfl, rfl⟩ | (refine Or.inl ⟨by rfl, ?_⟩; intro w' hSw; (try dsimp only at hSw); go_simp; (try with_reducible rfl))
                try simp only [Act.put, List.setIfInBounds_toArray, List.set_cons_zero, List.set_cons_succ]
                apply wpAnyH_take (i := 25) (hs := by kernel_rfl) (hf := by kernel_rfl) (hr := by kernel_rfl) (hQ := fun _ _ _ h => h) (hS := by assumption)
                · simp only [List.getElem?_toArray, List.getElem?_cons_succ, List.getElem?_cons_zero]; rfl
                · first | exact Or.inr ⟨by rfl, rfl⟩ | (refine Or.inl ⟨by rfl, ?_⟩; intro w' hSw; (try dsimp only at hSw); go_simp; (try with_reducible rfl))
                try simp only [Act.put, List.setIfInBounds_toArray, List.set_cons_zero, List.set_cons_succ]
                apply wpAnyH_take (i := 26) (hs := by kernel_rfl) (hf := by kernel_rfl) (hr := by kernel_rfl) (hQ := fun _ _ _ h => h) (hS := by assumption)
                · simp only [List.getElem?_toArray, List.getElem?_cons_succ, List.getElem?_cons_zero]; rfl
                · first | exact Or.inr ⟨by rfl, rfl⟩ | (refine Or.inl ⟨by rfl, ?_⟩; intro w' hSw; (try dsimp only at hSw); go_simp; (try with_reducible rfl))
                try simp only [Act.put, List.setIfInBounds_toArray, List.set_cons_zero, List.set_cons_succ]
                try rw [h2]
                apply wpAnyH_take (i := 27) (hs := by kernel_rfl) (hf := by kernel_rfl) (hr := by kernel_rfl) (hQ := fun _ _ _ h => h) (hS := by assumption)
                · simp only [List.getElem?_toArray, List.getElem?_cons_succ, List.getElem?_cons_zero]; rfl
                · first | exact Or.inr ⟨by rfl, rfl⟩ | (refine Or.inl ⟨by rfl, ?_⟩; intro w' hSw; (try dsimp only at hSw); go_simp; (try with_reducible rfl))
                try simp only [Act.put, List.setIfInBounds_toArray, List.set_cons_zero, List.set_cons_succ]
                apply wpAnyH_take (i := 28) (hs := by kernel_rfl) (hf := by kernel_rfl) (hr := by kernel_rfl) (hQ := fun _ _ _ h => h) (hS := by assumption)
                · simp only [List.getElem?_toArray, List.getElem?_cons_succ, List.getElem?_cons_zero]; rfl
                · first | exact Or.inr ⟨by rfl, rfl⟩ | (refine Or.inl ⟨by rfl, ?_⟩; intro w' hSw; (try dsimp only at hSw); go_simp; (try with_reducible rfl))
                try simp only [Act.put, List.setIfInBounds_toArray, List.set_cons_zero, List.set_cons_succ]
                apply wpAnyH_take (i := 29) (hs := by kernel_rfl) (hf := by kernel_rfl) (hr := by kernel_rfl) (hQ := fun _ _ _ h => h) (hS := by assumption)
                · simp only [List.getElem?_toArray, List.getElem?_cons_succ, List.getElem?_cons_zero]; rfl
                · first | exact Or.inr ⟨by rfl, rfl⟩ | (refine Or.inl ⟨by rfl, ?_⟩; intro w' hSw; (try dsimp only at hSw); go_simp; (try with_reducible rfl))
                try simp only [Act.put, List.setIfInBounds_toArray, List.set_cons_zero, List.set_cons_succ]
                apply wpAnyH_take (i := 30) (hs := by kernel_rfl) (hf := by kernel_rfl) (hr := by kernel_rfl) (hQ := fun _ _ _ h => h) (hS := by assumption)
                · simp only [List.getElem?_toArray, List.getElem?_cons_succ, List.getElem?_cons_zero]; rfl
                · first | exact Or.inr ⟨by rfl, rfl⟩ | (refine Or.inl ⟨by rfl, ?_⟩; intro w' hSw; (try dsimp only at hSw); go_simp; (try with_reducible rfl))
                try simp only [Act.put, List.setIfInBounds_toArray, List.set_cons_zero, List.set_cons_succ]
                apply wpAnyH_take (i := 31) (hs := by kernel_rfl) (hf := by kernel_rfl) (hr := by kernel_rfl) (hQ := fun _ _ _ h => h) (hS := by assumption)
                · simp only [List.getElem?_toArray, List.getElem?_cons_succ, List.getElem?_cons_zero]; rfl
                · first | exact Or.inr ⟨by rfl, rfl⟩ | (refine Or.inl ⟨by rfl, ?_⟩; intro w' hSw; (try dsimp only at hSw); go_simp; (try with_reducible rfl))
                try simp only [Act.put, List.setIfInBounds_toArray, List.set_cons_zero, List.set_cons_succ]
                try rw [h3]
                apply wpAnyH_take (i := 32) (hs := by kernel_rfl) (hf := by kernel_rfl) (hr := by kernel_rfl) (hQ := fun _ _ _ h => h) (hS := by assumption)
                · simp only [List.getElem?_toArray, List.getElem?_cons_succ, List.getElem?_cons_zero]; rfl
                · first | exact Or.inr ⟨by rfl, rfl⟩ | (refine Or.inl ⟨by rfl, ?_⟩; intro w' hSw; (try dsimp only at hSw); go_simp; (try with_reducible rfl))
                try simp only [Act.put, List.setIfInBounds_toArray, List.set_cons_zero, List.set_cons_succ]
                apply wpAnyH_take (i := 33) (hs := by kernel_rfl) (hf := by kernel_rfl) (hr := by kernel_rfl) (hQ := fun _ _ _ h => h) (hS := by assumption)
                · simp only [List.getElem?_toArray, List.getElem?_cons_succ, List.getElem?_cons_zero]; rfl
                · first | exact Or.inr ⟨by rfl, rfl⟩ | (refine Or.inl ⟨by rfl, ?_⟩; intro w' hSw; (try dsimp only at hSw); go_simp; (try with_reducible rfl))
                try simp only [Act.put, List.setIfInBounds_toArray, List.set_cons_zero, List.set_cons_succ]
                apply wpAnyH_take (i := 34) (hs := by kernel_rfl) (hf := by kernel_rfl) (hr := by kernel_rfl) (hQ := fun _ _ _ h => h) (hS := by assumption)
                · simp only [List.getElem?_toArray, List.getElem?_cons_succ, List.getElem?_cons_zero]; rfl
                · first | exact Or.inr ⟨by rfl, rfl⟩ | (refine Or.inl ⟨by rfl, ?_⟩; intro w' hSw; (try dsimp only at hSw); go_simp; (try with_reducible rfl))
                try simp only [Act.put, List.setIfInBounds_toArray, List.set_cons_zero, List.set_cons_succ]
                apply wpAnyH_take (i := 35) (hs := by kernel_rfl) (hf := by kernel_rfl) (hr := by kernel_rfl) (hQ := fun _ _ _ h => h) (hS := by assumption)
                · simp only [List.getElem?_toArray, List.getElem?_cons_succ, List.getElem?_cons_zero]; rfl
                · first | exact Or.inr ⟨by rfl, rfl⟩ | (refine Or.inl ⟨by rfl, ?_⟩; intro w' hSw; (try dsimp only at hSw); go_simp; (try with_reducible rfl))
                try simp only [Act.put, List.setIfInBounds_toArray, List.set_cons_zero, List.set_cons_succ]
                apply wpAnyH_take (i := 36) (hs := by kernel_rfl) (hf := by kernel_rfl) (hr := by kernel_rfl) (hQ := fun _ _ _ h => h) (hS := by assumption)
                · simp only [List.getElem?_toArray, List.getElem?_cons_succ, List.getElem?_cons_zero]; rfl
                · first | exact Or.inr ⟨by rfl, rfl⟩ | (refine Or.inl ⟨by rfl, ?_⟩; intro w' hSw; (try dsimp only at hSw); go_simp; (try with_reducible rfl))
                try simp only [Act.put, List.setIfInBounds_toArray, List.set_cons_zero, List.set_cons_succ]
                try rw [h4]
                apply wpAnyH_take (i := 37) (hs := by kernel_rfl) (hf := by kernel_rfl) (hr := by kernel_rfl) (hQ := fun _ _ _ h => h) (hS := by assumption)
                · simp only [List.getElem?_toArray, List.getElem?_cons_succ, List.getElem?_cons_zero]; rfl
                · first | exact Or.inr ⟨by rfl, rfl⟩ | (refine Or.inl ⟨by rfl, ?_⟩; intro w' hSw; (try dsimp only at hSw); go_simp; (try with_reducible rfl))
                try simp only [Act.put, List.setIfInBounds_toArray, List.set_cons_zero, List.set_cons_succ]
                apply wpAnyH_take (i := 38) (hs := by kernel_rfl) (hf := by kernel_rfl) (hr := by kernel_rfl) (hQ := fun _ _ _ h => h) (hS := by assumption)
                · simp only [List.getElem?_toArray, List.getElem?_cons_succ, List.getElem?_cons_zero]; rfl
                · first | exact Or.inr ⟨by rfl, rfl⟩ | (refine Or.inl ⟨by rfl, ?_⟩; intro w' hSw; (try dsimp only at hSw); go_simp; (try with_reducible rfl))
                try simp only [Act.put, List.setIfInBounds_toArray, List.set_cons_zero, List.set_cons_succ]
                apply wpAnyH_take (i := 39) (hs := by kernel_rfl) (hf := by kernel_rfl) (hr := by kernel_rfl) (hQ := fun _ _ _ h => h) (hS := by assumption)
                · simp only [List.getElem?_toArray, List.getElem?_cons_succ, List.getElem?_cons_zero]; rfl
                · first | exact Or.inr ⟨by rfl, rfl⟩ | (refine Or.inl ⟨by rfl, ?_⟩; intro w' hSw; (try dsimp only at hSw); go_simp; (try with_reducible rfl))
                try simp only [Act.put, List.setIfInBounds_toArray, List.set_cons_zero, List.set_cons_succ]
                apply wpAnyH_take (i := 40) (hs := by kernel_rfl) (hf := by kernel_rfl) (hr := by kernel_rfl) (hQ := fun _ _ _ h => h) (hS := by assumption)
                · simp only [List.getElem?_toArray, List.getElem?_cons_succ, List.getElem?_cons_zero]; rfl
                · first | exact Or.inr ⟨by rfl, rfl⟩ | (refine Or.inl ⟨by rfl, ?_⟩; intro w' hSw; (try dsimp only at hSw); go_simp; (try with_reducible rfl))
                try simp only [Act.put, List.setIfInBounds_toArray, List.set_cons_zero, List.set_cons_succ]
                first
                | skip
                  apply wpAnyH_take (i := 41) (hs := by kernel_rfl) (hf := by kernel_rfl) (hr := by kernel_rfl) (hQ := fun _ _ _ h => h) (hS := by assumption)
                  · simp only [List.getElem?_toArray, List.getElem?_cons_succ, List.getElem?_cons_zero]; rfl
                  · first | exact Or.inr ⟨by rfl, rfl⟩ | (refine Or.inl ⟨by rfl, ?_⟩; intro w' hSw; (try dsimp only at hSw); go_simp; (try with_reducible rfl))
                  try simp only [Act.put, List.setIfInBounds_toArray, List.set_cons_zero, List.set_cons_succ]
                | skip
                  refine wpAnyH_ready (rs := [41]) (by kernel_rfl) (by simp) ?_
                  apply AllReadyH.cons (hs := AllReadyH.nil)
                  · simp only [List.getElem?_toArray, List.getElem?_cons_succ, List.getElem?_cons_zero]; rfl
                  intro K hK
                  go_simp
                  (go_at_call 31; with_reducible refine (HG'.out _).mono ?_; rintro e w2 ⟨rfl, rfl⟩)
                  go_wp2_with fail
                  refine hK.out _ _ ⟨Bx.keep_cell (Bx.bel_refl _) hHeld.1, Bx.keep_cell (Bx.bel_refl _) hHeld.2.1, Bx.keep_cell (Bx.bel_refl _) hHeld.2.2.1, Bx.keep_cell (Bx.bel_refl _) hHeld.2.2.2.1, Bx.keep_cell (Bx.bel_refl _) hHeld.2.2.2.2.1, Bx.keep_cell (Bx.bel_refl _) hHeld.2.2.2.2.2.1, Bx.keep_cell (Bx.bel_refl _) hHeld.2.2.2.2.2.2.1, Bx.keep_cell (Bx.bel_refl _) hHeld.2.2.2.2.2.2.2.1, Bx.keep_cell (Bx.bel_refl _) hHeld.2.2.2.2.2.2.2.2.1, Bx.keep_cell (Bx.bel_refl _) hHeld.2.2.2.2.2.2.2.2.2.1, Bx.keep_cell (Bx.bel_refl _) hHeld.2.2.2.2.2.2.2.2.2.2⟩ (fun hNew => ?_)
                  clear hHeld
                  have hHeld := hNew
                  clear hNew hK K
                  skip
                apply wpAnyH_take (i := 42) (hs := by kernel_rfl) (hf := by kernel_rfl) (hr := by kernel_rfl) (hQ := fun _ _ _ h => h) (hS := by assumption)
                · simp only [List.getElem?_toArray, List.getElem?_cons_succ, List.getElem?_cons_zero]; rfl
                · first | exact Or.inr ⟨by rfl, rfl⟩ | (refine Or.inl ⟨by rfl, ?_⟩; intro w' hSw; (try dsimp only at hSw); go_simp; (try with_reducible rfl))
                try simp only [Act.put, List.setIfInBounds_toArray, List.set_cons_zero, List.set_cons_succ]
                apply wpAnyH_take (i := 43) (hs := by kernel_rfl) (hf := by kernel_rfl) (hr := by kernel_rfl) (hQ := fun _ _ _ h => h) (hS := by assumption)
                · simp only [List.getElem?_toArray, List.getElem?_cons_succ, List.getElem?_cons_zero]; rfl
                · first | exact Or.inr ⟨by rfl, rfl⟩ | (refine Or.inl ⟨by rfl, ?_⟩; intro w' hSw; (try dsimp only at hSw); go_simp; (try with_reducible rfl))
                try simp only [Act.put, List.setIfInBounds_toArray, List.set_cons_zero, List.set_cons_succ]
                apply wpAnyH_take (i := 44) (hs := by kernel_rfl) (hf := by kernel_rfl) (hr := by kernel_rfl) (hQ := fun _ _ _ h => h) (hS := by assumption)
                · simp only [List.getElem?_toArray, List.getElem?_cons_succ, List.getElem?_cons_zero]; rfl
                · first | exact Or.inr ⟨by rfl, rfl⟩ | (refine Or.inl ⟨by rfl, ?_⟩; intro w' hSw; (try dsimp only at hSw); go_simp; (try with_reducible rfl))
                try simp only [Act.put, List.setIfInBounds_toArray, List.set_cons_zero, List.set_cons_succ]
                apply wpAnyH_take (i := 45) (hs := by kernel_rfl) (hf := by kernel_rfl) (hr := by kernel_rfl) (hQ := fun _ _ _ h => h) (hS := by assumption)
                · simp only [List.getElem?_toArray, List.getElem?_cons_succ, List.getElem?_cons_zero]; rfl
                · first | exact Or.inr ⟨by rfl, rfl⟩ | (refine Or.inl ⟨by rfl, ?_⟩; intro w' hSw; (try dsimp only at hSw); go_simp; (try with_reducible rfl))
                try simp only [Act.put, List.setIfInBounds_toArray, List.set_cons_zero, List.set_cons_succ]
                apply wpAnyH_take (i := 46) (hs := by kernel_rfl) (hf := by kernel_rfl) (hr := by kernel_rfl) (hQ := fun _ _ _ h => h) (hS := by assumption)
                · simp only [List.getElem?_toArray, List.getElem?_cons_succ, List.getElem?_cons_zero]; rfl
                · first | exact Or.inr ⟨by rfl, rfl⟩ | (refine Or.inl ⟨by rfl, ?_⟩; intro w' hSw; (try dsimp only at hSw); go_simp; (try with_reducible rfl))
                try simp only [Act.put, List.setIfInBounds_toArray, List.set_cons_zero, List.set_cons_succ]
                try rw [h6]
                apply wpAnyH_take (i := 47) (hs := by kernel_rfl) (hf := by kernel_rfl) (hr := by kernel_rfl) (hQ := fun _ _ _ h => h) (hS := by assumption)
                · simp only [List.getElem?_toArray, List.getElem?_cons_succ, List.getElem?_cons_zero]; rfl
                · first | exact Or.inr ⟨by rfl, rfl⟩ | (refine Or.inl ⟨by rfl, ?_⟩; intro w' hSw; (try dsimp only at hSw); go_simp; (try with_reducible rfl))
                try simp only [Act.put, List.setIfInBounds_toArray, List.set_cons_zero, List.set_cons_succ]
                apply wpAnyH_take (i := 48) (hs := by kernel_rfl) (hf := by kernel_rfl) (hr := by kernel_rfl) (hQ := fun _ _ _ h => h) (hS := by assumption)
                · simp only [List.getElem?_toArray, List.getElem?_cons_succ, List.getElem?_cons_zero]; rfl
                · first | exact Or.inr ⟨by rfl, rfl⟩ | (refine Or.inl ⟨by rfl, ?_⟩; intro w' hSw; (try dsimp only at hSw); go_simp; (try with_reducible rfl))
                try simp only [Act.put, List.setIfInBounds_toArray, List.set_cons_zero, List.set_cons_succ]
                apply wpAnyH_take (i := 49) (hs := by kernel_rfl) (hf := by kernel_rfl) (hr := by kernel_rfl) (hQ := fun _ _ _ h => h) (hS := by assumption)
                · simp only [List.getElem?_toArray, List.getElem?_cons_succ, List.getElem?_cons_zero]; rfl
                · first | exact Or.inr ⟨by rfl, rfl⟩ | (refine Or.inl ⟨by rfl, ?_⟩; intro w' hSw; (try dsimp only at hSw); go_simp; (try with_reducible rfl))
                try simp only [Act.put, List.setIfInBounds_toArray, List.set_cons_zero, List.set_cons_succ]
                apply wpAnyH_take (i := 50) (hs := by kernel_rfl) (hf := by kernel_rfl) (hr := by kernel_rfl) (hQ := fun _ _ _ h => h) (hS := by assumption)
                · simp only [List.getElem?_toArray, List.getElem?_cons_succ, List.getElem?_cons_zero]; rfl
                · first | exact Or.inr ⟨by rfl, rfl⟩ | (refine Or.inl ⟨by rfl, ?_⟩; intro w' hSw; (try dsimp only at hSw); go_simp; (try with_reducible rfl))
                try simp only [Act.put, List.setIfInBounds_toArray, List.set_cons_zero, List.set_cons_succ]
                apply wpAnyH_take (i := 51) (hs := by kernel_rfl) (hf := by kernel_rfl) (hr := by kernel_rfl) (hQ := fun _ _ _ h => h) (hS := by assumption)
                · simp only [List.getElem?_toArray, List.getElem?_cons_succ, List.getElem?_cons_zero]; rfl
                · first | exact Or.inr ⟨by rfl, rfl⟩ | (refine Or.inl ⟨by rfl, ?_⟩; intro w' hSw; (try dsimp only at hSw); go_simp; (try with_reducible rfl))
                try simp only [Act.put, List.setIfInBounds_toArray, List.set_cons_zero, List.set_cons_succ]
                try rw [h7]
                apply wpAnyH_take (i := 52) (hs := by kernel_rfl) (hf := by kernel_rfl) (hr := by kernel_rfl) (hQ := fun _ _ _ h => h) (hS := by assumption)
                · simp only [List.getElem?_toArray, List.getElem?_cons_succ, List.getElem?_cons_zero]; rfl
                · first | exact Or.inr ⟨by rfl, rfl⟩ | (refine Or.inl ⟨by rfl, ?_⟩; intro w' hSw; (try dsimp only at hSw); go_simp; (try with_reducible rfl))
                try simp only [Act.put, List.setIfInBounds_toArray, List.set_cons_zero, List.set_cons_succ]
                refine wpAnyH_done (by kernel_rfl) ?_ _
                refine NoPanic.normal ?_
                clear hHeld
                have B3 := Lib.hid (Bx.then_below bel.out BX.out)
                go_wp2
                go_ret
                exact ⟨by rw [HE2.out]; rfl, B3.out⟩
      · obtain rfl : k = l.length := by omega
        have HT : Hid (R = true) := Lib.hid (HE.out.trans HZ.out)
        have B2 := Lib.hid (Bx.then_below bel.out HB.out)
        go_wp2
        go_ret
        exact ⟨by rw [HT.out]; rfl, B2.out⟩
  · have hs : sndB most long l = false := by unfold sndB; rw [decide_eq_false hlen]; rfl
    rw [hs]
    obtain ⟨t0, t1, t2⟩ := K.out.all3
    have hlt : most < (l.length : Int) := by omega
    go_enter Tryd.func7, Tryd.ntmps7
    go_wp2
    go_ret
    exact ⟨rfl, bel.out⟩

end Tab
end Go.Proofs.YtmojegnflcokjaaDoor
