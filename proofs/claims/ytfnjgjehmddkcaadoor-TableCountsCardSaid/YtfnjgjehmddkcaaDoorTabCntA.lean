/-
  What table.Oldest, At and Used, and the document's own, answer of any table.
-/
import Derived.Test.YtfnjgjehmddkcaaDoorTabCntNum
namespace Go.Proofs.YtfnjgjehmddkcaaDoor
open Go.RowKit
namespace Tab
open Oct

set_option maxRecDepth 40000 in
set_option maxHeartbeats 4000000 in
theorem at_any (most long : Int) (l : List En) (hl : l.length ≤ 1000) (A : Option Addr) (c : Nat) (p : Int) (w : World) (hA : Ents w A l) :
    Calls Tryd.prog 7 #[tv most long A l.length c, .int .i64 p] w fun e w' => e = .returned (.int .i64 (atN l p)) ∧ Below w.heap.size w w' := by
  have H := Lib.hid (fun (w : World) hA => forget_any most long l (by omega) A c p 0 w hA)
  rw [at_lack] at H
  have A1 := Lib.hid (hA.below (Bx.box_below w (to most long A l.length c)))
  have bel := Lib.hid (Bx.box_below w (to most long A l.length c))
  obtain ⟨k0, k1, k2⟩ := (Bx.Blk.new w [.int .i64 most, .int .i64 long, .slice A l.length c] 24).all3
  clear hA
  generalize l.filter (lackE p 0) = o at *
  go_enter Tryd.func7, Tryd.ntmps7
  go_wp2_with fail
  refine (H.out _ A1.out).mono ?_; rintro e w1 ⟨B, cc, rfl, _, hb1⟩
  have bel2 := Lib.hid (Bx.bel_box (Bx.then_below bel.out hb1) (to most long B o.length cc))
  clear k0 k1 k2 hb1
  go_wp2
  go_ret
  exact ⟨rfl, bel2.out⟩

set_option maxRecDepth 40000 in
set_option maxHeartbeats 4000000 in
theorem rat_any (most long : Int) (l : List En) (hl : l.length ≤ 1000) (A : Option Addr) (c : Nat) (p : Int) (w : World) (hA : Ents w A l) :
    Calls Tryd.prog 8 #[tv most long A l.length c, .int .i64 p] w fun e w' => e = .returned (.int .i64 (atN l p)) ∧ Below w.heap.size w w' := by
  have HA := Lib.hid (hA.below (Bx.box_below w (to most long A l.length c)))
  have bel := Lib.hid (Bx.box_below w (to most long A l.length c))
  obtain ⟨k0, k1, k2⟩ := (Bx.Blk.new w [.int .i64 most, .int .i64 long, .slice A l.length c] 24).all3
  have HT := Lib.hid (fun k (h : k < l.length) => at_take l p k h)
  have HE := Lib.hid (show atN (l.take l.length) p = atN l p by rw [List.take_length])
  have HLe := Lib.hid (fun k => show atN (l.take k) p ≤ l.length from Nat.le_trans (at_le _ p) (List.length_take_le' _ _))
  clear hA
  go_enter Tryd.func8, Tryd.ntmps8
  go_wp2
  clear k0 k1 k2
  generalize w.alloc (to most long A l.length c) = W0 at *
  go_loopw [5, 7, 11] (fun n _ ix wr => ∃ k : Nat, k ≤ l.length ∧ ix = .int .i64 k ∧ n = .int .i64 (atN (l.take k) p) ∧ Aside (Below W0.heap.size W0 wr)) (fun _ _ ix _ => l.length - (RowKit.intOf ix).toNat)
  case atStart => exact ⟨0, Nat.zero_le _, rfl, rfl, Below.refl _ _⟩
  case round =>
    obtain ⟨k, hk, rfl, rfl, HB⟩ := hrel
    have hn := HLe.out k
    by_cases hlt : k < l.length
    · obtain ⟨b, o, rfl, _, c0, c1, c2, c3⟩ := (HA.out.below HB.out).at hlt
      have HN := Lib.hid (HT.out k hlt)
      have BX := Lib.hid (Bx.bel_box HB.out (eo l[k]))
      obtain ⟨d0, d1, d2, d3⟩ := (Bx.Blk.new wr [.int .i64 l[k].v, .int .u64 l[k].m, .int .i64 l[k].p, .int .i64 l[k].a] 29).all4
      generalize l[k] = x at *
      obtain ⟨x1, x2, x3, x4⟩ := x
      simp only at c0 c1 c2 c3 d0 d1 d2 d3 HN
      by_cases hx : x3 = p
      · subst hx
        rw [if_pos rfl] at HN
        go_wp2
        go_roundw
        case rel => exact ⟨k + 1, by omega, by go_num, by rw [HN.out]; go_num, BX.out⟩
        case measure => simp [RowKit.intOf]; omega
      · rw [if_neg hx] at HN
        have hx1 : (x3 == p) = false := by simpa using hx
        go_wp2
        go_roundw
        case rel => exact ⟨k + 1, by omega, by go_num, by rw [HN.out]; rfl, BX.out⟩
        case measure => simp [RowKit.intOf]; omega
    · obtain rfl : k = l.length := by omega
      have B2 := Lib.hid (Bx.then_below bel.out HB.out)
      rw [HE.out]
      go_wp2
      go_ret
      exact ⟨rfl, B2.out⟩

set_option maxRecDepth 40000 in
set_option maxHeartbeats 4000000 in
theorem used_any (most long : Int) (l : List En) (hl : l.length ≤ 1000) (A : Option Addr) (c : Nat) (w : World) (hA : Ents w A l) :
    Calls Tryd.prog 9 #[tv most long A l.length c] w fun e w' => e = .returned (.int .i64 (usedF l)) ∧ Below w.heap.size w w' := by
  have HA := Lib.hid (hA.below (Bx.box_below w (to most long A l.length c)))
  have bel := Lib.hid (Bx.box_below w (to most long A l.length c))
  obtain ⟨k0, k1, k2⟩ := (Bx.Blk.new w [.int .i64 most, .int .i64 long, .slice A l.length c] 24).all3
  have HT := Lib.hid (fun k (h : k < l.length) => used_take l k h)
  have HE := Lib.hid (show usedF (l.take l.length) = usedF l by rw [List.take_length])
  have HW := Lib.hid Por.with_any
  clear hA
  go_enter Tryd.func9, Tryd.ntmps9
  go_wp2
  clear k0 k1 k2
  generalize w.alloc (to most long A l.length c) = W0 at *
  go_loopw [3, 5, 9] (fun n _ ix wr => ∃ k : Nat, k ≤ l.length ∧ ix = .int .i64 k ∧ n = .int .i64 (usedF (l.take k)) ∧ Aside (Below W0.heap.size W0 wr)) (fun _ _ ix _ => l.length - (RowKit.intOf ix).toNat)
  case atStart => exact ⟨0, Nat.zero_le _, rfl, rfl, Below.refl _ _⟩
  case round =>
    obtain ⟨k, hk, rfl, rfl, HB⟩ := hrel
    by_cases hlt : k < l.length
    · obtain ⟨b, o, rfl, _, c0, c1, c2, c3⟩ := (HA.out.below HB.out).at hlt
      have HN := Lib.hid (HT.out k hlt)
      have BX := Lib.hid (Bx.bel_box HB.out (eo l[k]))
      obtain ⟨d0, d1, d2, d3⟩ := (Bx.Blk.new wr [.int .i64 l[k].v, .int .u64 l[k].m, .int .i64 l[k].p, .int .i64 l[k].a] 29).all4
      generalize l[k] = x at *
      obtain ⟨x1, x2, x3, x4⟩ := x
      simp only at c0 c1 c2 c3 d0 d1 d2 d3 HN
      go_wp2_with fail
      refine (HW.out _ _ _).mono ?_; rintro e w1 ⟨rfl, rfl⟩
      go_wp2
      go_roundw
      case rel => exact ⟨k + 1, by omega, by go_num, by rw [HN.out], BX.out⟩
      case measure => simp [RowKit.intOf]; omega
    · obtain rfl : k = l.length := by omega
      have B2 := Lib.hid (Bx.then_below bel.out HB.out)
      rw [HE.out]
      go_wp2
      go_ret
      exact ⟨rfl, B2.out⟩

set_option maxRecDepth 40000 in
set_option maxHeartbeats 4000000 in
theorem rused_any (most long : Int) (l : List En) (hl : l.length ≤ 1000) (A : Option Addr) (c : Nat) (w : World) (hA : Ents w A l) :
    Calls Tryd.prog 10 #[tv most long A l.length c] w fun e w' => e = .returned (.int .i64 (usedF l)) ∧ Below w.heap.size w w' := by
  have HA := Lib.hid (hA.below (Bx.box_below w (to most long A l.length c)))
  have bel := Lib.hid (Bx.box_below w (to most long A l.length c))
  obtain ⟨k0, k1, k2⟩ := (Bx.Blk.new w [.int .i64 most, .int .i64 long, .slice A l.length c] 24).all3
  have HT := Lib.hid (fun k (h : k < l.length) => used_take l k h)
  have HE := Lib.hid (show usedF (l.take l.length) = usedF l by rw [List.take_length])
  have HW := Lib.hid Por.rwith_any
  clear hA
  go_enter Tryd.func10, Tryd.ntmps10
  go_wp2
  clear k0 k1 k2
  generalize w.alloc (to most long A l.length c) = W0 at *
  go_loopw [3, 5, 9] (fun n _ ix wr => ∃ k : Nat, k ≤ l.length ∧ ix = .int .i64 k ∧ n = .int .i64 (usedF (l.take k)) ∧ Aside (Below W0.heap.size W0 wr)) (fun _ _ ix _ => l.length - (RowKit.intOf ix).toNat)
  case atStart => exact ⟨0, Nat.zero_le _, rfl, rfl, Below.refl _ _⟩
  case round =>
    obtain ⟨k, hk, rfl, rfl, HB⟩ := hrel
    by_cases hlt : k < l.length
    · obtain ⟨b, o, rfl, _, c0, c1, c2, c3⟩ := (HA.out.below HB.out).at hlt
      have HN := Lib.hid (HT.out k hlt)
      have BX := Lib.hid (Bx.bel_box HB.out (eo l[k]))
      obtain ⟨d0, d1, d2, d3⟩ := (Bx.Blk.new wr [.int .i64 l[k].v, .int .u64 l[k].m, .int .i64 l[k].p, .int .i64 l[k].a] 29).all4
      generalize l[k] = x at *
      obtain ⟨x1, x2, x3, x4⟩ := x
      simp only at c0 c1 c2 c3 d0 d1 d2 d3 HN
      go_wp2_with fail
      refine (HW.out _ _ _).mono ?_; rintro e w1 ⟨rfl, rfl⟩
      go_wp2
      go_roundw
      case rel => exact ⟨k + 1, by omega, by go_num, by rw [HN.out], BX.out⟩
      case measure => simp [RowKit.intOf]; omega
    · obtain rfl : k = l.length := by omega
      have B2 := Lib.hid (Bx.then_below bel.out HB.out)
      rw [HE.out]
      go_wp2
      go_ret
      exact ⟨rfl, B2.out⟩

/-- An entry's cells in a block that may be written. -/
abbrev ecl (e : En) : List Value := [.int .i64 e.v, .int .u64 e.m, .int .i64 e.p, .int .i64 e.a]

theorem res_set {a W : World} {k : Nat} {x0 x1 x2 x3 : Value} (hb : a.heap.size ≤ k) (h : Below a.heap.size a W) : Below a.heap.size a ((((W.setCell ⟨k, 0, none⟩ x0).setCell ⟨k, 1, none⟩ x1).setCell ⟨k, 2, none⟩ x2).setCell ⟨k, 3, none⟩ x3) :=
  (((h.setCell (p := ⟨k, 0, none⟩) hb x0).setCell (p := ⟨k, 1, none⟩) hb x1).setCell (p := ⟨k, 2, none⟩) hb x2).setCell (p := ⟨k, 3, none⟩) hb x3

theorem Fre.put4 {W : World} {k : Nat} {y0 y1 y2 y3 x0 x1 x2 x3 : Value} (h : Fre W k [y0, y1, y2, y3]) : Fre ((((W.setCell ⟨k, 0, none⟩ x0).setCell ⟨k, 1, none⟩ x1).setCell ⟨k, 2, none⟩ x2).setCell ⟨k, 3, none⟩ x3) k [x0, x1, x2, x3] :=
  ⟨h.1.put4, by simpa using h.2.1, fun j => by rw [World.frozen?_setCell, World.frozen?_setCell, World.frozen?_setCell, World.frozen?_setCell]; exact h.2.2 j⟩

theorem Fre.off4 {W : World} {k k' : Nat} {l : List Value} {x0 x1 x2 x3 : Value} (hne : k ≠ k') (h : Fre W k l) : Fre ((((W.setCell ⟨k', 0, none⟩ x0).setCell ⟨k', 1, none⟩ x1).setCell ⟨k', 2, none⟩ x2).setCell ⟨k', 3, none⟩ x3) k l :=
  ⟨h.1.off4 hne, by simpa using h.2.1, fun j => by rw [World.frozen?_setCell, World.frozen?_setCell, World.frozen?_setCell, World.frozen?_setCell]; exact h.2.2 j⟩

theorem Ents.set4 {W : World} {k : Nat} {A : Option Addr} {l : List En} {x0 x1 x2 x3 : Value} (h : Ents W A l) (hb : ∀ b o, A = some ⟨b, o, none⟩ → 0 < l.length → b ≠ k) : Ents ((((W.setCell ⟨k, 0, none⟩ x0).setCell ⟨k, 1, none⟩ x1).setCell ⟨k, 2, none⟩ x2).setCell ⟨k, 3, none⟩ x3) A l := by
  by_cases h0 : 0 < l.length
  · have hx : ∀ b o, A = some ⟨b, o, none⟩ → b ≠ k := fun b o e => hb b o e h0
    exact (((h.set hx).set hx).set hx).set hx
  · have : l = [] := List.eq_nil_of_length_eq_zero (by omega)
    rw [this]
    exact Ents.nil _ _

set_option maxRecDepth 40000 in
set_option maxHeartbeats 4000000 in
theorem old_any (most long : Int) (l : List En) (hl : l.length ≤ 1000) (A : Option Addr) (c : Nat) (w : World) (hA : Ents w A l) :
    Calls Tryd.prog 5 #[tv most long A l.length c] w fun e w' => e = .returned (.tuple #[ev (oldG l), .bool (isOld l)]) ∧ Below w.heap.size w w' := by
  have bel := Lib.hid (Bx.bel_box (Bx.box_below w (to most long A l.length c)) (eo ⟨0, 0, 0, 0⟩))
  have A1 := Lib.hid (hA.below bel.out)
  have K := Lib.hid ((Fre.new w [.int .i64 most, .int .i64 long, .slice A l.length c] 24).keep (Bx.box_below _ (eo ⟨0, 0, 0, 0⟩)))
  have R : Hid (Fre ((w.alloc (to most long A l.length c)).alloc (eo ⟨0, 0, 0, 0⟩)) (w.heap.size + 1) (ecl ⟨0, 0, 0, 0⟩)) := Lib.hid (by
    have := Fre.new (w.alloc (to most long A l.length c)) (ecl ⟨0, 0, 0, 0⟩) 29
    rwa [show (w.alloc (to most long A l.length c)).heap.size = w.heap.size + 1 by simp] at this)
  have hle : w.heap.size ≤ w.heap.size + 1 := Nat.le_succ _
  have hsz := Lib.hid (show ((w.alloc (to most long A l.length c)).alloc (eo ⟨0, 0, 0, 0⟩)).heap.size = w.heap.size + 2 by simp)
  have HA0 := Lib.hid hA
  have HAL := Lib.hid (fun b' o' (e : A = some ⟨b', o', none⟩) (h : 0 < l.length) => show b' < w.heap.size by
    obtain ⟨b, o, e2, hb, _⟩ := hA.at h
    rw [e] at e2
    cases e2
    exact hb)
  clear hA
  by_cases h0 : l.length = 0
  · obtain rfl := List.eq_nil_of_length_eq_zero h0
    clear h0
    obtain ⟨⟨k0, k1, k2⟩, _⟩ := K.out.all3
    obtain ⟨⟨r0, r1, r2, r3⟩, f0, f1, f2, f3⟩ := R.out.all4
    go_enter Tryd.func5, Tryd.ntmps5
    go_wp2_with fail
    refine bodyPost_ret (v := .tuple #[ev ⟨0, 0, 0, 0⟩, .bool false]) ?_ rfl ?_
    · simp [results, Tryd.results5, go_sem]
    · exact ⟨rfl, bel.out⟩
  · have hp : 0 < l.length := by omega
    have eG := oldG_some hp
    have eI : isOld l = true := by unfold isOld; cases l with | nil => simp at hp | cons x l => rfl
    rw [eG, eI]
    have HT := Lib.hid (fun k (h : k < l.length) => old_take l[0] l k h)
    have HE := Lib.hid (show oldF l[0] (l.take l.length) = oldF l[0] l by rw [List.take_length])
    have HZ := Lib.hid (show oldF l[0] (l.take 0) = l[0] from rfl)
    have A0 := HA0.out.at hp
    obtain ⟨b, q, rfl, hbl, c0, c1, c2, c3⟩ := A0
    have hbw := HAL.out b q rfl hp
    obtain ⟨⟨k0, k1, k2⟩, _⟩ := K.out.all3
    have F := Lib.hid (Fre.new ((w.alloc (to most long (some ⟨b, q, none⟩) l.length c)).alloc (eo ⟨0, 0, 0, 0⟩)) (ecl l[0]) 29)
    have R1 := Lib.hid (R.out.keep (Bx.box_below _ (eo l[0])))
    have K1 := Lib.hid (K.out.keep (Bx.box_below _ (eo l[0])))
    have A2 := Lib.hid (A1.out.below (Bx.box_below _ (eo l[0])))
    have B1 := Lib.hid (Bx.bel_box bel.out (eo l[0]))
    rw [hsz.out] at F
    have h00 : (0 : Int) < l.length := by omega
    have h01 : ((l.length : Int) == 0) = false := beq_eq_false_iff_ne.2 (by omega)
    rw [show q + 0 * 4 = q by omega] at c0 c1 c2 c3
    clear eG eI R K A1 bel hsz
    generalize oldF l[0] l = r at *
    generalize hfun : (fun k => oldF l[0] (l.take k)) = F0 at *
    have HF : ∀ k, oldF l[0] (l.take k) = F0 k := fun k => by rw [← hfun]
    simp only [HF] at HT HE HZ
    clear hfun HF
    generalize hx0 : l[0] = x0 at *
    obtain ⟨x1, x2, x3, x4⟩ := x0
    simp only at c0 c1 c2 c3
    clear hx0
    go_enter Tryd.func5, Tryd.ntmps5
    go_wp2
    clear k0 k1 k2 c0 c1 c2 c3
    have AA := Lib.hid A2.out
    replace B1 := Lib.hid B1.out
    generalize hg : ((w.alloc (to most long (some ⟨b, q, none⟩) l.length c)).alloc (eo ⟨0, 0, 0, 0⟩)).alloc (eo ⟨x1, x2, x3, x4⟩) = W0 at *
    clear hg
    have b40 : w.heap.size ≤ w.heap.size + 2 := Nat.le_add_right _ _
    have n4 : w.heap.size + 1 ≠ w.heap.size + 2 := by omega
    have HAN := Lib.hid (show ∀ b' o, (some ⟨b, q, none⟩ : Option Addr) = some ⟨b', o, none⟩ → 0 < l.length → b' ≠ w.heap.size + 2 from fun b' o e _ => by
      cases e
      omega)
    have HB2 := Lib.hid hle
    generalize hb4 : w.heap.size + 2 = b4 at *
    generalize hb2 : w.heap.size + 1 = b2 at *
    go_loopw [6, 19] (fun _ ix wr => ∃ k : Nat, k ≤ l.length ∧ ix = .int .i64 k ∧ Aside (Fre wr b4 (ecl (F0 k))) ∧ Aside (Fre wr b2 (ecl ⟨0, 0, 0, 0⟩)) ∧ Aside (Ents wr (some ⟨b, q, none⟩) l) ∧ Aside (Below w.heap.size w wr)) (fun _ ix _ => l.length - (RowKit.intOf ix).toNat)
    case atStart => exact ⟨0, Nat.zero_le _, rfl, by rw [HZ.out]; exact F.out, R1.out, AA.out, B1.out⟩
    case round =>
      obtain ⟨k, hk, rfl, HF, HR, HA, HB⟩ := hrel
      by_cases hlt : k < l.length
      · obtain ⟨b', o', heq, _, c0, c1, c2, c3⟩ := HA.out.at hlt
        injection heq with heq
        injection heq with e1 e2 _
        subst e1 e2
        have HN := Lib.hid (HT.out k hlt)
        have BX := Lib.hid (Bx.bel_box HB.out (eo l[k]))
        have AX := Lib.hid (HA.out.below (Bx.box_below wr (eo l[k])))
        have FX := Lib.hid (HF.out.keep (Bx.box_below wr (eo l[k])))
        have RX := Lib.hid (HR.out.keep (Bx.box_below wr (eo l[k])))
        obtain ⟨d0, d1, d2, d3⟩ := (Bx.Blk.new wr [.int .i64 l[k].v, .int .u64 l[k].m, .int .i64 l[k].p, .int .i64 l[k].a] 29).all4
        generalize l[k] = x at *
        obtain ⟨z1, z2, z3, z4⟩ := x
        generalize hfk : F0 k = y at *
        obtain ⟨y1, y2, y3, y4⟩ := y
        simp only at c0 c1 c2 c3 d0 d1 d2 d3
        unfold oldS at HN
        simp only at HN
        obtain ⟨⟨g0, g1, g2, g3⟩, f0, f1, f2, f3⟩ := FX.out.all4
        by_cases hx : y4 < z4
        · rw [if_pos hx] at HN
          have F5 := Lib.hid (Fre.put4 FX.out (x0 := .int .i64 z1) (x1 := .int .u64 z2) (x2 := .int .i64 z3) (x3 := .int .i64 z4))
          have R5 := Lib.hid (Fre.off4 (x0 := .int .i64 z1) (x1 := .int .u64 z2) (x2 := .int .i64 z3) (x3 := .int .i64 z4) n4 RX.out)
          have A5 := Lib.hid (Ents.set4 (x0 := .int .i64 z1) (x1 := .int .u64 z2) (x2 := .int .i64 z3) (x3 := .int .i64 z4) AX.out HAN.out)
          have B5 := Lib.hid (res_set (x0 := .int .i64 z1) (x1 := .int .u64 z2) (x2 := .int .i64 z3) (x3 := .int .i64 z4) b40 BX.out)
          clear hfk
          go_wp2
          go_roundw
          case rel => exact ⟨k + 1, by omega, by go_num, by rw [HN.out]; exact F5.out, R5.out, A5.out, B5.out⟩
          case measure => simp [RowKit.intOf]; omega
        · rw [if_neg hx] at HN
          clear hfk
          go_wp2
          go_roundw
          case rel => exact ⟨k + 1, by omega, by go_num, by rw [HN.out]; exact FX.out, RX.out, AX.out, BX.out⟩
          case measure => simp [RowKit.intOf]; omega
      · obtain rfl : k = l.length := by omega
        rw [HE.out] at HF
        obtain ⟨r1, r2, r3, r4⟩ := r
        obtain ⟨⟨g0, g1, g2, g3⟩, _⟩ := HF.out.all4
        obtain ⟨⟨h0, h1, h2, h3⟩, f0, f1, f2, f3⟩ := HR.out.all4
        have R6 := Lib.hid (Fre.put4 HR.out (x0 := .int .i64 r1) (x1 := .int .u64 r2) (x2 := .int .i64 r3) (x3 := .int .i64 r4)).all4
        have B6 := Lib.hid (res_set (x0 := .int .i64 r1) (x1 := .int .u64 r2) (x2 := .int .i64 r3) (x3 := .int .i64 r4) HB2.out HB.out)
        clear HE
        go_wp2_with fail
        refine bodyPost_ret (v := .tuple #[ev ⟨r1, r2, r3, r4⟩, .bool true]) ?_ rfl ?_
        · obtain ⟨⟨d0, d1, d2, d3⟩, _⟩ := R6.out
          simp [results, Tryd.results5, d0, d1, d2, d3, go_sem]
        · exact ⟨rfl, B6.out⟩

set_option maxRecDepth 40000 in
set_option maxHeartbeats 4000000 in
theorem rold_any (most long : Int) (l : List En) (hl : l.length ≤ 1000) (A : Option Addr) (c : Nat) (w : World) (hA : Ents w A l) :
    Calls Tryd.prog 6 #[tv most long A l.length c] w fun e w' => e = .returned (.tuple #[ev (oldG l), .bool (isOld l)]) ∧ Below w.heap.size w w' := by
  have bel := Lib.hid (Bx.bel_box (Bx.box_below w (to most long A l.length c)) (eo ⟨0, 0, 0, 0⟩))
  have A1 := Lib.hid (hA.below bel.out)
  have K := Lib.hid ((Fre.new w [.int .i64 most, .int .i64 long, .slice A l.length c] 24).keep (Bx.box_below _ (eo ⟨0, 0, 0, 0⟩)))
  have R : Hid (Fre ((w.alloc (to most long A l.length c)).alloc (eo ⟨0, 0, 0, 0⟩)) (w.heap.size + 1) (ecl ⟨0, 0, 0, 0⟩)) := Lib.hid (by
    have := Fre.new (w.alloc (to most long A l.length c)) (ecl ⟨0, 0, 0, 0⟩) 29
    rwa [show (w.alloc (to most long A l.length c)).heap.size = w.heap.size + 1 by simp] at this)
  have hle : w.heap.size ≤ w.heap.size + 1 := Nat.le_succ _
  have hsz := Lib.hid (show ((w.alloc (to most long A l.length c)).alloc (eo ⟨0, 0, 0, 0⟩)).heap.size = w.heap.size + 2 by simp)
  have HA0 := Lib.hid hA
  have HAL := Lib.hid (fun b' o' (e : A = some ⟨b', o', none⟩) (h : 0 < l.length) => show b' < w.heap.size by
    obtain ⟨b, o, e2, hb, _⟩ := hA.at h
    rw [e] at e2
    cases e2
    exact hb)
  clear hA
  have HT0 := Lib.hid (fun (h : 0 < l.length) => out_first l h)
  have HT := Lib.hid (fun k (h0 : 0 < k) (h : k < l.length) => out_next l k h0 h)
  have HE := Lib.hid (out_all l)
  have HFA := Lib.hid (found_all l)
  have HZ := Lib.hid (show outK l 0 = ⟨0, 0, 0, 0⟩ from rfl)
  generalize outK l = F0 at *
  generalize oldG l = r at *
  generalize isOld l = fin at *
  obtain ⟨⟨k0, k1, k2⟩, _⟩ := K.out.all3
  have F := Lib.hid (Fre.new ((w.alloc (to most long A l.length c)).alloc (eo ⟨0, 0, 0, 0⟩)) (ecl ⟨0, 0, 0, 0⟩) 29)
  have R1 := Lib.hid (R.out.keep (Bx.box_below _ (eo ⟨0, 0, 0, 0⟩)))
  obtain ⟨⟨k0', k1', k2'⟩, _⟩ := (K.out.keep (Bx.box_below _ (eo ⟨0, 0, 0, 0⟩))).all3
  have A2 := Lib.hid (A1.out.below (Bx.box_below _ (eo ⟨0, 0, 0, 0⟩)))
  have B1 := Lib.hid (Bx.bel_box bel.out (eo ⟨0, 0, 0, 0⟩))
  rw [hsz.out] at F
  clear R K A1 bel hsz HA0
  have b40 : w.heap.size ≤ w.heap.size + 2 := Nat.le_add_right _ _
  have n4 : w.heap.size + 1 ≠ w.heap.size + 2 := by omega
  have HAN := Lib.hid (show ∀ b' o, A = some ⟨b', o, none⟩ → 0 < l.length → b' ≠ w.heap.size + 2 from fun b' o e h => by
    have := HAL.out b' o e h
    omega)
  have HB2 := Lib.hid hle
  clear HAL
  go_enter Tryd.func6, Tryd.ntmps6
  go_wp2
  clear k0 k1 k2 k0' k1' k2'
  generalize hg : ((w.alloc (to most long A l.length c)).alloc (eo ⟨0, 0, 0, 0⟩)).alloc (eo ⟨0, 0, 0, 0⟩) = W0 at *
  clear hg
  generalize hb4 : w.heap.size + 2 = b4 at *
  generalize hb2 : w.heap.size + 1 = b2 at *
  go_loopw [5, 7, 11] (fun fl _ ix wr => ∃ (k : Nat) (q : Bool), k ≤ l.length ∧ ix = .int .i64 k ∧ fl = .bool q ∧ Aside (q = decide (0 < k)) ∧ Aside (Fre wr b4 (ecl (F0 k))) ∧ Aside (Fre wr b2 (ecl ⟨0, 0, 0, 0⟩)) ∧ Aside (Ents wr A l) ∧ Aside (Below w.heap.size w wr)) (fun _ _ ix _ => l.length - (RowKit.intOf ix).toNat)
  case atStart => exact ⟨0, false, Nat.zero_le _, rfl, rfl, rfl, by rw [HZ.out]; exact F.out, R1.out, A2.out, B1.out⟩
  case round =>
    obtain ⟨k, fl, hk, rfl, rfl, HQ, HF, HR, HA, HB⟩ := hrel
    by_cases hlt : k < l.length
    · obtain ⟨b, o, heq, _, c0, c1, c2, c3⟩ := HA.out.at hlt
      subst heq
      have BX := Lib.hid (Bx.bel_box HB.out (eo l[k]))
      have AX := Lib.hid (HA.out.below (Bx.box_below wr (eo l[k])))
      have FX := Lib.hid (HF.out.keep (Bx.box_below wr (eo l[k])))
      have RX := Lib.hid (HR.out.keep (Bx.box_below wr (eo l[k])))
      obtain ⟨d0, d1, d2, d3⟩ := (Bx.Blk.new wr [.int .i64 l[k].v, .int .u64 l[k].m, .int .i64 l[k].p, .int .i64 l[k].a] 29).all4
      by_cases hk0 : k = 0
      · have HN := Lib.hid (show F0 (k + 1) = l[k] by subst hk0; exact HT0.out hlt)
        have hq0 : fl = false := by rw [HQ.out]; exact decide_eq_false (by omega)
        subst hq0
        generalize l[k] = x at *
        obtain ⟨z1, z2, z3, z4⟩ := x
        simp only at c0 c1 c2 c3 d0 d1 d2 d3
        generalize hfk : F0 k = y at *
        obtain ⟨y1, y2, y3, y4⟩ := y
        obtain ⟨⟨g0, g1, g2, g3⟩, f0, f1, f2, f3⟩ := FX.out.all4
        have F5 := Lib.hid (Fre.put4 FX.out (x0 := .int .i64 z1) (x1 := .int .u64 z2) (x2 := .int .i64 z3) (x3 := .int .i64 z4))
        have R5 := Lib.hid (Fre.off4 (x0 := .int .i64 z1) (x1 := .int .u64 z2) (x2 := .int .i64 z3) (x3 := .int .i64 z4) n4 RX.out)
        have A5 := Lib.hid (Ents.set4 (x0 := .int .i64 z1) (x1 := .int .u64 z2) (x2 := .int .i64 z3) (x3 := .int .i64 z4) AX.out HAN.out)
        have B5 := Lib.hid (res_set (x0 := .int .i64 z1) (x1 := .int .u64 z2) (x2 := .int .i64 z3) (x3 := .int .i64 z4) b40 BX.out)
        have HK := Lib.hid (show true = decide (0 < k + 1) from (decide_eq_true (Nat.succ_pos k)).symm)
        clear hfk hk0 HQ
        go_wp2
        go_roundw
        case rel => exact ⟨k + 1, true, by omega, by go_num, rfl, HK.out, by rw [HN.out]; exact F5.out, R5.out, A5.out, B5.out⟩
        case measure => simp [RowKit.intOf]; omega
      · have HN := Lib.hid (HT.out k (by omega) hlt)
        have hq0 : fl = true := by rw [HQ.out]; exact decide_eq_true (by omega)
        subst hq0
        have HK := Lib.hid (show true = decide (0 < k + 1) from (decide_eq_true (Nat.succ_pos k)).symm)
        generalize l[k] = x at *
        obtain ⟨z1, z2, z3, z4⟩ := x
        simp only at c0 c1 c2 c3 d0 d1 d2 d3
        generalize hfk : F0 k = y at *
        obtain ⟨y1, y2, y3, y4⟩ := y
        simp only at HN
        obtain ⟨⟨g0, g1, g2, g3⟩, f0, f1, f2, f3⟩ := FX.out.all4
        clear hfk HQ hk0
        by_cases hx : y4 < z4
        · rw [if_pos hx] at HN
          have F5 := Lib.hid (Fre.put4 FX.out (x0 := .int .i64 z1) (x1 := .int .u64 z2) (x2 := .int .i64 z3) (x3 := .int .i64 z4))
          have R5 := Lib.hid (Fre.off4 (x0 := .int .i64 z1) (x1 := .int .u64 z2) (x2 := .int .i64 z3) (x3 := .int .i64 z4) n4 RX.out)
          have A5 := Lib.hid (Ents.set4 (x0 := .int .i64 z1) (x1 := .int .u64 z2) (x2 := .int .i64 z3) (x3 := .int .i64 z4) AX.out HAN.out)
          have B5 := Lib.hid (res_set (x0 := .int .i64 z1) (x1 := .int .u64 z2) (x2 := .int .i64 z3) (x3 := .int .i64 z4) b40 BX.out)
          go_wp2
          go_roundw
          case rel => exact ⟨k + 1, true, by omega, by go_num, rfl, HK.out, by rw [HN.out]; exact F5.out, R5.out, A5.out, B5.out⟩
          case measure => simp [RowKit.intOf]; omega
        · rw [if_neg hx] at HN
          go_wp2
          go_roundw
          case rel => exact ⟨k + 1, true, by omega, by go_num, rfl, HK.out, by rw [HN.out]; exact FX.out, RX.out, AX.out, BX.out⟩
          case measure => simp [RowKit.intOf]; omega
    · obtain rfl : k = l.length := by omega
      rw [HE.out] at HF
      obtain rfl := HQ.out.trans HFA.out
      obtain ⟨r1, r2, r3, r4⟩ := r
      obtain ⟨⟨g0, g1, g2, g3⟩, _⟩ := HF.out.all4
      obtain ⟨⟨h0, h1, h2, h3⟩, f0, f1, f2, f3⟩ := HR.out.all4
      have R6 := Lib.hid (Fre.put4 HR.out (x0 := .int .i64 r1) (x1 := .int .u64 r2) (x2 := .int .i64 r3) (x3 := .int .i64 r4)).all4
      have B6 := Lib.hid (res_set (x0 := .int .i64 r1) (x1 := .int .u64 r2) (x2 := .int .i64 r3) (x3 := .int .i64 r4) HB2.out HB.out)
      clear HE HFA
      go_wp2_with fail
      refine bodyPost_ret (v := .tuple #[ev ⟨r1, r2, r3, r4⟩, .bool fl]) ?_ rfl ?_
      · obtain ⟨⟨d0, d1, d2, d3⟩, _⟩ := R6.out
        simp [results, Tryd.results6, d0, d1, d2, d3, go_sem]
      · exact ⟨rfl, B6.out⟩

end Tab
end Go.Proofs.YtfnjgjehmddkcaaDoor
