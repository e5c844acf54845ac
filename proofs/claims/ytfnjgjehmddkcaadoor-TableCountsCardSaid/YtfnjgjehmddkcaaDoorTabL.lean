/-
  The example of layer 14's laws: two addresses that are learnt, a third one for which there is no room, one that moves; ticks, ports flushed and forgotten.
-/
import Derived.Test.YtfnjgjehmddkcaaDoorTabJ
namespace Go.Proofs.YtfnjgjehmddkcaaDoor
open Go.RowKit
namespace Tab
open Oct

theorem aw_l1 (A : Option Addr) (c : Nat) (w : World) (hA : Ents w A []) : Calls Tryd.prog 16 #[tv 2 3 A 0 c, .int .i64 1, .int .u64 8, .int .i64 0] w fun e w' =>
    ∃ A' k', e = .returned (.tuple #[tv 2 3 A' 1 k', .int .i64 0]) ∧ ((A' = A ∧ ([⟨1, 8, 0, 0⟩] : List En) = []) ∨ ∀ b o, A' = some ⟨b, o, none⟩ → w.heap.size ≤ b) ∧ Ents w' A' [⟨1, 8, 0, 0⟩] ∧ Below w.heap.size w w' := by
  have h := learn_any 2 3 [] (by decide) A c 1 8 (by decide) 0 w hA
  rw [show learnL 2 ([] : List En) 1 8 0 = [⟨1, 8, 0, 0⟩] by decide +kernel, show learnE 2 ([] : List En) 1 8 0 = 0 by decide +kernel] at h
  exact h

theorem aw_l2 (A : Option Addr) (c : Nat) (w : World) (hA : Ents w A [⟨1, 8, 0, 0⟩]) : Calls Tryd.prog 16 #[tv 2 3 A 1 c, .int .i64 1, .int .u64 4, .int .i64 1] w fun e w' =>
    ∃ A' k', e = .returned (.tuple #[tv 2 3 A' 2 k', .int .i64 0]) ∧ ((A' = A ∧ ([⟨1, 4, 1, 0⟩, ⟨1, 8, 0, 0⟩] : List En) = [⟨1, 8, 0, 0⟩]) ∨ ∀ b o, A' = some ⟨b, o, none⟩ → w.heap.size ≤ b) ∧ Ents w' A' [⟨1, 4, 1, 0⟩, ⟨1, 8, 0, 0⟩] ∧ Below w.heap.size w w' := by
  have h := learn_any 2 3 [⟨1, 8, 0, 0⟩] (by decide) A c 1 4 (by decide) 1 w hA
  rw [show learnL 2 ([⟨1, 8, 0, 0⟩] : List En) 1 4 1 = [⟨1, 4, 1, 0⟩, ⟨1, 8, 0, 0⟩] by decide +kernel, show learnE 2 ([⟨1, 8, 0, 0⟩] : List En) 1 4 1 = 0 by decide +kernel] at h
  exact h

theorem aw_l3 (A : Option Addr) (c : Nat) (w : World) (hA : Ents w A [⟨1, 4, 1, 0⟩, ⟨1, 8, 0, 0⟩]) : Calls Tryd.prog 16 #[tv 2 3 A 2 c, .int .i64 2, .int .u64 4, .int .i64 1] w fun e w' =>
    ∃ A' k', e = .returned (.tuple #[tv 2 3 A' 2 k', .int .i64 8]) ∧ ((A' = A ∧ ([⟨1, 4, 1, 0⟩, ⟨1, 8, 0, 0⟩] : List En) = [⟨1, 4, 1, 0⟩, ⟨1, 8, 0, 0⟩]) ∨ ∀ b o, A' = some ⟨b, o, none⟩ → w.heap.size ≤ b) ∧ Ents w' A' [⟨1, 4, 1, 0⟩, ⟨1, 8, 0, 0⟩] ∧ Below w.heap.size w w' := by
  have h := learn_any 2 3 [⟨1, 4, 1, 0⟩, ⟨1, 8, 0, 0⟩] (by decide) A c 2 4 (by decide) 1 w hA
  rw [show learnL 2 ([⟨1, 4, 1, 0⟩, ⟨1, 8, 0, 0⟩] : List En) 2 4 1 = [⟨1, 4, 1, 0⟩, ⟨1, 8, 0, 0⟩] by decide +kernel, show learnE 2 ([⟨1, 4, 1, 0⟩, ⟨1, 8, 0, 0⟩] : List En) 2 4 1 = 8 by decide +kernel] at h
  exact h

theorem aw_l4 (A : Option Addr) (c : Nat) (w : World) (hA : Ents w A [⟨1, 4, 1, 0⟩, ⟨1, 8, 0, 0⟩]) : Calls Tryd.prog 16 #[tv 2 3 A 2 c, .int .i64 1, .int .u64 8, .int .i64 2] w fun e w' =>
    ∃ A' k', e = .returned (.tuple #[tv 2 3 A' 2 k', .int .i64 0]) ∧ ((A' = A ∧ ([⟨1, 4, 1, 0⟩, ⟨1, 8, 2, 0⟩] : List En) = [⟨1, 4, 1, 0⟩, ⟨1, 8, 0, 0⟩]) ∨ ∀ b o, A' = some ⟨b, o, none⟩ → w.heap.size ≤ b) ∧ Ents w' A' [⟨1, 4, 1, 0⟩, ⟨1, 8, 2, 0⟩] ∧ Below w.heap.size w w' := by
  have h := learn_any 2 3 [⟨1, 4, 1, 0⟩, ⟨1, 8, 0, 0⟩] (by decide) A c 1 8 (by decide) 2 w hA
  rw [show learnL 2 ([⟨1, 4, 1, 0⟩, ⟨1, 8, 0, 0⟩] : List En) 1 8 2 = [⟨1, 4, 1, 0⟩, ⟨1, 8, 2, 0⟩] by decide +kernel, show learnE 2 ([⟨1, 4, 1, 0⟩, ⟨1, 8, 0, 0⟩] : List En) 1 8 2 = 0 by decide +kernel] at h
  exact h

theorem aw_u1 (A : Option Addr) (c : Nat) (w : World) (hA : Ents w A [⟨1, 4, 1, 0⟩, ⟨1, 8, 2, 0⟩]) : Calls Tryd.prog 18 #[tv 2 3 A 2 c] w fun e w' =>
    ∃ A' k', e = .returned (.tuple #[tv 2 3 A' 2 k', .int .i64 0]) ∧ (∀ b o, A' = some ⟨b, o, none⟩ → w.heap.size ≤ b) ∧ Ents w' A' [⟨1, 4, 1, 1⟩, ⟨1, 8, 2, 1⟩] ∧ Below w.heap.size w w' := by
  refine (tick_any 2 3 (by decide) [⟨1, 4, 1, 0⟩, ⟨1, 8, 2, 0⟩] (by decide) (by decide +kernel) A c w hA).mono fun e w' h => ?_
  obtain ⟨B, k', h1, h2, h3⟩ := h
  have e1 : tickL 3 [⟨1, 4, 1, 0⟩, ⟨1, 8, 2, 0⟩] = ([⟨1, 4, 1, 1⟩, ⟨1, 8, 2, 1⟩] : List En) := by decide +kernel
  rw [e1] at h1 h2
  obtain ⟨A', cap, g1, g2⟩ := Ents.of_own h2
  injection g1 with g1 _ _
  subst g1
  exact ⟨B, k', h1, fun b o hb => (h2.lt b (by rw [hb]; rfl)).1, g2, h3⟩

theorem aw_u2 (A : Option Addr) (c : Nat) (w : World) (hA : Ents w A [⟨1, 4, 1, 1⟩, ⟨1, 8, 2, 1⟩]) : Calls Tryd.prog 18 #[tv 2 3 A 2 c] w fun e w' =>
    ∃ A' k', e = .returned (.tuple #[tv 2 3 A' 2 k', .int .i64 0]) ∧ (∀ b o, A' = some ⟨b, o, none⟩ → w.heap.size ≤ b) ∧ Ents w' A' [⟨1, 4, 1, 2⟩, ⟨1, 8, 2, 2⟩] ∧ Below w.heap.size w w' := by
  refine (tick_any 2 3 (by decide) [⟨1, 4, 1, 1⟩, ⟨1, 8, 2, 1⟩] (by decide) (by decide +kernel) A c w hA).mono fun e w' h => ?_
  obtain ⟨B, k', h1, h2, h3⟩ := h
  have e1 : tickL 3 [⟨1, 4, 1, 1⟩, ⟨1, 8, 2, 1⟩] = ([⟨1, 4, 1, 2⟩, ⟨1, 8, 2, 2⟩] : List En) := by decide +kernel
  rw [e1] at h1 h2
  obtain ⟨A', cap, g1, g2⟩ := Ents.of_own h2
  injection g1 with g1 _ _
  subst g1
  exact ⟨B, k', h1, fun b o hb => (h2.lt b (by rw [hb]; rfl)).1, g2, h3⟩

theorem aw_u3 (A : Option Addr) (c : Nat) (w : World) (hA : Ents w A [⟨1, 4, 1, 2⟩, ⟨1, 8, 2, 2⟩]) : Calls Tryd.prog 18 #[tv 2 3 A 2 c] w fun e w' =>
    ∃ A' k', e = .returned (.tuple #[tv 2 3 A' 0 k', .int .i64 2]) ∧ (∀ b o, A' = some ⟨b, o, none⟩ → w.heap.size ≤ b) ∧ Ents w' A' [] ∧ Below w.heap.size w w' := by
  refine (tick_any 2 3 (by decide) [⟨1, 4, 1, 2⟩, ⟨1, 8, 2, 2⟩] (by decide) (by decide +kernel) A c w hA).mono fun e w' h => ?_
  obtain ⟨B, k', h1, h2, h3⟩ := h
  have e1 : tickL 3 [⟨1, 4, 1, 2⟩, ⟨1, 8, 2, 2⟩] = ([] : List En) := by decide +kernel
  rw [e1] at h1 h2
  obtain ⟨A', cap, g1, g2⟩ := Ents.of_own h2
  injection g1 with g1 _ _
  subst g1
  exact ⟨B, k', h1, fun b o hb => (h2.lt b (by rw [hb]; rfl)).1, g2, h3⟩

theorem aw_v (A : Option Addr) (c : Nat) (w : World) (hA : Ents w A [⟨1, 4, 1, 0⟩, ⟨1, 8, 2, 0⟩]) : Calls Tryd.prog 19 #[tv 2 3 A 2 c, .int .i64 4] w fun e w' =>
    ∃ A' k', e = .returned (.tuple #[tv 2 3 A' 1 k', .int .i64 1]) ∧ (∀ b o, A' = some ⟨b, o, none⟩ → w.heap.size ≤ b) ∧ Ents w' A' [⟨1, 4, 1, 0⟩] ∧ Below w.heap.size w w' := by
  refine (flush_any 2 3 [⟨1, 4, 1, 0⟩, ⟨1, 8, 2, 0⟩] (by decide) A c 4 w hA).mono fun e w' h => ?_
  obtain ⟨B, k', h1, h2, h3⟩ := h
  have e1 : (([⟨1, 4, 1, 0⟩, ⟨1, 8, 2, 0⟩] : List En).filter (flushE (Por.low 4))) = ([⟨1, 4, 1, 0⟩] : List En) := by decide +kernel
  rw [e1] at h1 h2
  obtain ⟨A', cap, g1, g2⟩ := Ents.of_own h2
  injection g1 with g1 _ _
  subst g1
  exact ⟨B, k', h1, fun b o hb => (h2.lt b (by rw [hb]; rfl)).1, g2, h3⟩

theorem aw_w (A : Option Addr) (c : Nat) (w : World) (hA : Ents w A [⟨1, 4, 1, 0⟩, ⟨1, 8, 2, 0⟩]) : Calls Tryd.prog 20 #[tv 2 3 A 2 c, .int .i64 1, .int .i64 2] w fun e w' =>
    ∃ A' k', e = .returned (.tuple #[tv 2 3 A' 2 k', .int .i64 0]) ∧ (∀ b o, A' = some ⟨b, o, none⟩ → w.heap.size ≤ b) ∧ Ents w' A' [⟨1, 4, 1, 0⟩, ⟨1, 8, 2, 0⟩] ∧ Below w.heap.size w w' := by
  refine (forget_any 2 3 [⟨1, 4, 1, 0⟩, ⟨1, 8, 2, 0⟩] (by decide) A c 1 2 w hA).mono fun e w' h => ?_
  obtain ⟨B, k', h1, h2, h3⟩ := h
  have e1 : (([⟨1, 4, 1, 0⟩, ⟨1, 8, 2, 0⟩] : List En).filter (lackE 1 2)) = ([⟨1, 4, 1, 0⟩, ⟨1, 8, 2, 0⟩] : List En) := by decide +kernel
  rw [e1] at h1 h2
  obtain ⟨A', cap, g1, g2⟩ := Ents.of_own h2
  injection g1 with g1 _ _
  subst g1
  exact ⟨B, k', h1, fun b o hb => (h2.lt b (by rw [hb]; rfl)).1, g2, h3⟩

set_option maxRecDepth 20000 in
set_option maxHeartbeats 4000000 in
theorem awake_any (w : World) : Calls Tryd.prog 4 #[] w fun e w' => e = .returned (.bool true) ∧ Below w.heap.size w w' := by
  have HN := Lib.hid (fun w => show Calls Tryd.prog 15 #[.int .i64 2, .int .i64 3] w fun e w' => e = .returned (.tuple #[tv 2 3 none 0 0, .int .i64 0]) ∧ Below w.heap.size w w' from new_any 2 3 w)
  have H1 := Lib.hid aw_l1
  have H2 := Lib.hid aw_l2
  have H3 := Lib.hid aw_l3
  have H4 := Lib.hid aw_l4
  have HF := Lib.hid (fun (A : Option Addr) (c : Nat) (w : World) (hA : Ents w A [⟨1, 4, 1, 0⟩, ⟨1, 8, 2, 0⟩]) => show Calls Tryd.prog 17 #[tv 2 3 A 2 c, .int .i64 1, .int .u64 8] w fun e w' => e = .returned (.tuple #[.agg #[.int .i64 1, .int .u64 8, .int .i64 2, .int .i64 0], .bool true]) ∧ Below w.heap.size w w' from find_any 2 3 [⟨1, 4, 1, 0⟩, ⟨1, 8, 2, 0⟩] (by decide) 1 8 A c w hA)
  have HU1 := Lib.hid aw_u1
  have HU2 := Lib.hid aw_u2
  have HU3 := Lib.hid aw_u3
  have HV := Lib.hid aw_v
  have HW := Lib.hid aw_w
  have HM := Lib.hid (fun (A B : Option Addr) (c d : Nat) (w : World) (hA : Ents w A [⟨1, 4, 1, 0⟩, ⟨1, 8, 2, 0⟩]) (hB : Ents w B [⟨1, 4, 1, 0⟩, ⟨1, 8, 2, 0⟩]) => show Calls Tryd.prog 21 #[tv 2 3 A 2 c, tv 2 3 B 2 d] w fun e w' => e = .returned (.bool true) ∧ Below w.heap.size w w' from same_any 2 3 2 3 [⟨1, 4, 1, 0⟩, ⟨1, 8, 2, 0⟩] [⟨1, 4, 1, 0⟩, ⟨1, 8, 2, 0⟩] (by decide) (by decide) A B c d w hA hB)
  have HO := Lib.hid (fun (A : Option Addr) (c : Nat) (w : World) (hA : Ents w A [⟨1, 4, 1, 0⟩, ⟨1, 8, 2, 0⟩]) => show Calls Tryd.prog 14 #[tv 2 3 A 2 c] w fun e w' => e = .returned (.bool true) ∧ Below w.heap.size w w' from sound_any 2 3 [⟨1, 4, 1, 0⟩, ⟨1, 8, 2, 0⟩] (by decide) (by decide +kernel) A c w hA)
  go_enter Tryd.func4, Tryd.ntmps4
  go_wp2_with fail
  refine (HN.out _).mono ?_; rintro e w1 ⟨rfl, hb1⟩
  go_wp2_with fail
  have bel := Lib.hid (Bx.bel_box hb1 (to 2 3 none 0 0))
  have T := Lib.hid (Fre.new w1 [.int .i64 2, .int .i64 3, .slice none 0 0] 24)
  have E := Lib.hid (Ents.nil (w1.alloc (to 2 3 none 0 0)) none)
  have HB0 := Lib.hid (show ∀ b o, (none : Option Addr) = some ⟨b, o, none⟩ → b ≠ w1.heap.size from fun b o e => by cases e)
  have hk : w.heap.size ≤ w1.heap.size := hb1.size
  generalize hg : w1.alloc (to 2 3 none 0 0) = W at *
  have hkW : w1.heap.size < W.heap.size := T.out.2.1
  have hg := Lib.hid hg
  generalize w1.heap.size = b1 at *
  clear hb1
  obtain ⟨⟨t0, t1, t2⟩, f0, f1, f2⟩ := T.out.all3
  refine (H1.out none 0 _ E.out).mono ?_; rintro e w2 ⟨B1, d1, rfl, hB, hE, hb⟩
  have bel2 := Lib.hid (Bx.then_below bel.out hb)
  have T2 := Lib.hid (T.out.keep hb)
  have HBn : ∀ b o, B1 = some ⟨b, o, none⟩ → b ≠ b1 := fun b o e => by
    rcases hB with ⟨rfl, _⟩ | hB
    · exact HB0.out b o e
    · have := hB b o e
      omega
  have E2 := Lib.hid (((hE.set (o := 0) (x := .int .i64 2) HBn).set (o := 1) (x := .int .i64 3) HBn).set (o := 2) (x := .slice B1 1 d1) HBn)
  have bel3 := Lib.hid (((bel2.out.setCell (p := ⟨b1, 0, none⟩) hk (.int .i64 2)).setCell (p := ⟨b1, 1, none⟩) hk (.int .i64 3)).setCell (p := ⟨b1, 2, none⟩) hk (.slice B1 1 d1))
  have T3 := Lib.hid (Fre.put3 T2.out (x0 := .int .i64 2) (x1 := .int .i64 3) (x2 := .slice B1 1 d1))
  obtain ⟨⟨p0, p1, p2⟩, q0, q1, q2⟩ := T2.out.all3
  have hkW2 : b1 < w2.heap.size := T2.out.2.1
  replace HB0 := Lib.hid HBn
  clear hB hE hb HBn T E t0 t1 t2 f0 f1 f2 bel bel2 T2 hkW hg
  obtain ⟨t0, t1, t2⟩ := T3.out.1.all3
  go_wp2_with fail
  clear p0 p1 p2 q0 q1 q2 t0 t1 t2
  generalize (((w2.setCell ⟨b1, 0, none⟩ (.int .i64 2)).setCell ⟨b1, 1, none⟩ (.int .i64 3)).setCell ⟨b1, 2, none⟩ (.slice B1 1 d1)) = W2 at *
  obtain ⟨⟨t0, t1, t2⟩, f0, f1, f2⟩ := T3.out.all3
  have hkW : b1 < W2.heap.size := T3.out.2.1
  clear hkW2
  have T := Lib.hid T3.out
  have E := Lib.hid E2.out
  have bel := Lib.hid bel3.out
  clear T3 E2 bel3
  refine (H2.out B1 d1 _ E.out).mono ?_; rintro e w3 ⟨B2, d2, rfl, hB, hE, hb⟩
  have bel2 := Lib.hid (Bx.then_below bel.out hb)
  have T2 := Lib.hid (T.out.keep hb)
  have HBn : ∀ b o, B2 = some ⟨b, o, none⟩ → b ≠ b1 := fun b o e => by
    rcases hB with ⟨rfl, _⟩ | hB
    · exact HB0.out b o e
    · have := hB b o e
      omega
  have E2 := Lib.hid (((hE.set (o := 0) (x := .int .i64 2) HBn).set (o := 1) (x := .int .i64 3) HBn).set (o := 2) (x := .slice B2 2 d2) HBn)
  have bel3 := Lib.hid (((bel2.out.setCell (p := ⟨b1, 0, none⟩) hk (.int .i64 2)).setCell (p := ⟨b1, 1, none⟩) hk (.int .i64 3)).setCell (p := ⟨b1, 2, none⟩) hk (.slice B2 2 d2))
  have T3 := Lib.hid (Fre.put3 T2.out (x0 := .int .i64 2) (x1 := .int .i64 3) (x2 := .slice B2 2 d2))
  obtain ⟨⟨p0, p1, p2⟩, q0, q1, q2⟩ := T2.out.all3
  have hkW2 : b1 < w3.heap.size := T2.out.2.1
  replace HB0 := Lib.hid HBn
  clear hB hE hb HBn T E t0 t1 t2 f0 f1 f2 bel bel2 T2 hkW
  obtain ⟨t0, t1, t2⟩ := T3.out.1.all3
  go_wp2_with fail
  clear p0 p1 p2 q0 q1 q2 t0 t1 t2
  generalize (((w3.setCell ⟨b1, 0, none⟩ (.int .i64 2)).setCell ⟨b1, 1, none⟩ (.int .i64 3)).setCell ⟨b1, 2, none⟩ (.slice B2 2 d2)) = W3 at *
  obtain ⟨⟨t0, t1, t2⟩, f0, f1, f2⟩ := T3.out.all3
  have hkW : b1 < W3.heap.size := T3.out.2.1
  clear hkW2
  have T := Lib.hid T3.out
  have E := Lib.hid E2.out
  have bel := Lib.hid bel3.out
  clear T3 E2 bel3
  refine (H3.out B2 d2 _ E.out).mono ?_; rintro e w4 ⟨B3, d3, rfl, _, _, hb⟩
  clear t0 t1 t2 f0 f1 f2
  replace T := Lib.hid (T.out.keep hb)
  replace T := Lib.hid (T.out.keep (Bx.box_below _ (to 2 3 B3 2 d3)))
  replace E := Lib.hid (E.out.below hb)
  replace E := Lib.hid (E.out.below (Bx.box_below _ (to 2 3 B3 2 d3)))
  replace bel := Lib.hid (Bx.then_below bel.out hb)
  replace bel := Lib.hid (Bx.bel_box bel.out (to 2 3 B3 2 d3))
  clear hb hkW
  obtain ⟨t0, t1, t2⟩ := T.out.1.all3
  go_wp2_with fail
  clear t0 t1 t2
  generalize w4.alloc (to 2 3 B3 2 d3) = W4 at *
  have hkW : b1 < W4.heap.size := T.out.2.1
  obtain ⟨⟨t0, t1, t2⟩, f0, f1, f2⟩ := T.out.all3
  refine (H4.out B2 d2 _ E.out).mono ?_; rintro e w5 ⟨B4, d4, rfl, hB, hE, hb⟩
  have bel2 := Lib.hid (Bx.then_below bel.out hb)
  have T2 := Lib.hid (T.out.keep hb)
  have HBn : ∀ b o, B4 = some ⟨b, o, none⟩ → b ≠ b1 := fun b o e => by
    rcases hB with ⟨rfl, _⟩ | hB
    · exact HB0.out b o e
    · have := hB b o e
      omega
  have E2 := Lib.hid (((hE.set (o := 0) (x := .int .i64 2) HBn).set (o := 1) (x := .int .i64 3) HBn).set (o := 2) (x := .slice B4 2 d4) HBn)
  have bel3 := Lib.hid (((bel2.out.setCell (p := ⟨b1, 0, none⟩) hk (.int .i64 2)).setCell (p := ⟨b1, 1, none⟩) hk (.int .i64 3)).setCell (p := ⟨b1, 2, none⟩) hk (.slice B4 2 d4))
  have T3 := Lib.hid (Fre.put3 T2.out (x0 := .int .i64 2) (x1 := .int .i64 3) (x2 := .slice B4 2 d4))
  obtain ⟨⟨p0, p1, p2⟩, q0, q1, q2⟩ := T2.out.all3
  have hkW2 : b1 < w5.heap.size := T2.out.2.1
  replace HB0 := Lib.hid HBn
  clear hB hE hb HBn T E t0 t1 t2 f0 f1 f2 bel bel2 T2 hkW
  obtain ⟨t0, t1, t2⟩ := T3.out.1.all3
  go_wp2_with fail
  clear p0 p1 p2 q0 q1 q2 t0 t1 t2
  generalize (((w5.setCell ⟨b1, 0, none⟩ (.int .i64 2)).setCell ⟨b1, 1, none⟩ (.int .i64 3)).setCell ⟨b1, 2, none⟩ (.slice B4 2 d4)) = W5 at *
  obtain ⟨⟨t0, t1, t2⟩, f0, f1, f2⟩ := T3.out.all3
  have hkW : b1 < W5.heap.size := T3.out.2.1
  clear hkW2
  have T := Lib.hid T3.out
  have E := Lib.hid E2.out
  have bel := Lib.hid bel3.out
  clear T3 E2 bel3
  clear f0 f1 f2 hkW
  refine (HF.out B4 d4 _ E.out).mono ?_; rintro e w' ⟨rfl, hb⟩
  replace T := Lib.hid (T.out.keep hb)
  replace T := Lib.hid (T.out.keep (Bx.box_below _ (Obj.cells #[.int .i64 1, .int .u64 8, .int .i64 2, .int .i64 0] 29)))
  replace E := Lib.hid (E.out.below hb)
  replace E := Lib.hid (E.out.below (Bx.box_below _ (Obj.cells #[.int .i64 1, .int .u64 8, .int .i64 2, .int .i64 0] 29)))
  replace bel := Lib.hid (Bx.then_below bel.out hb)
  replace bel := Lib.hid (Bx.bel_box bel.out (Obj.cells #[.int .i64 1, .int .u64 8, .int .i64 2, .int .i64 0] 29))
  have X := Lib.hid (Bx.Blk.new w' [.int .i64 1, .int .u64 8, .int .i64 2, .int .i64 0] 29)
  clear hb t0 t1 t2
  obtain ⟨t0, t1, t2⟩ := T.out.1.all3
  go_wp2_with fail
  clear t0 t1 t2
  generalize hg : w'.alloc (Obj.cells #[.int .i64 1, .int .u64 8, .int .i64 2, .int .i64 0] 29) = W6 at *
  clear hg
  generalize w'.heap.size = b7 at *
  have BE6 := bel
  refine (HU1.out B4 d4 _ E.out).mono ?_; rintro e w' ⟨C1, c1, rfl, hC, hEC, hb⟩
  have BE7 := Lib.hid (E.out.below hb)
  have BT7 := Lib.hid (T.out.keep hb)
  have BX7 := Lib.hid (X.out.keep hb)
  replace T := Lib.hid (T.out.keep hb)
  replace T := Lib.hid (T.out.keep (Bx.box_below _ (to 2 3 C1 2 c1)))
  replace E := Lib.hid (E.out.below hb)
  replace E := Lib.hid (E.out.below (Bx.box_below _ (to 2 3 C1 2 c1)))
  replace X := Lib.hid (X.out.keep hb)
  replace X := Lib.hid (X.out.keep (Bx.box_below _ (to 2 3 C1 2 c1)))
  replace bel := Lib.hid (Bx.then_below bel.out hb)
  replace bel := Lib.hid (Bx.bel_box bel.out (to 2 3 C1 2 c1))
  have U := Lib.hid (Fre.new w' [.int .i64 2, .int .i64 3, .slice C1 2 c1] 24)
  have EU := Lib.hid (hEC.below (Bx.box_below w' (to 2 3 C1 2 c1)))
  have HC := Lib.hid (show ∀ b o, C1 = some ⟨b, o, none⟩ → b ≠ w'.heap.size from fun b o e => by
    obtain ⟨b2, o2, e2, h2, _⟩ := hEC.at (k := 0) (by decide)
    rw [e] at e2
    cases e2
    omega)
  have hk9 : w.heap.size ≤ w'.heap.size := Nat.le_trans BE6.out.size hb.size
  clear hb hC hEC
  obtain ⟨t0, t1, t2⟩ := U.out.1.all3
  go_wp2_with fail
  clear t0 t1 t2
  have HBT := Lib.hid (show ∀ b o, B4 = some ⟨b, o, none⟩ → b ≠ w'.heap.size from fun b o e => by
    obtain ⟨b2, o2, e2, h2, _⟩ := BE7.out.at (k := 0) (by decide)
    rw [e] at e2
    cases e2
    omega)
  have h17 : b1 < w'.heap.size := BT7.out.2.1
  have h77 : b7 < w'.heap.size := BX7.out.lt (by decide)
  clear BE7 BT7 BX7
  generalize hg : w'.alloc (to 2 3 C1 2 c1) = W7 at *
  clear hg
  generalize w'.heap.size = b9 at *
  have h9 : b9 < W7.heap.size := U.out.2.1
  replace T := Lib.hid T.out.1
  have hn1 : b1 ≠ b9 := by omega
  have hn7 : b7 ≠ b9 := by omega
  refine (HU2.out C1 c1 _ EU.out).mono ?_; rintro e w' ⟨C2, c2, rfl, hC, hEC, hb⟩
  replace T := Lib.hid (T.out.keep hb)
  replace E := Lib.hid (E.out.below hb)
  replace X := Lib.hid (X.out.keep hb)
  have U2 := Lib.hid (U.out.keep hb)
  have hCn : ∀ b o, C2 = some ⟨b, o, none⟩ → b ≠ b9 := fun b o e => by have := hC b o e; omega
  have EU2 := Lib.hid (((hEC.set (o := 0) (x := .int .i64 2) hCn).set (o := 1) (x := .int .i64 3) hCn).set (o := 2) (x := .slice C2 2 c2) hCn)
  have U3 := Lib.hid (Fre.put3 U2.out (x0 := .int .i64 2) (x1 := .int .i64 3) (x2 := .slice C2 2 c2))
  replace bel := Lib.hid (Bx.then_below bel.out hb)
  replace bel := Lib.hid (((bel.out.setCell (p := ⟨b9, 0, none⟩) hk9 (.int .i64 2)).setCell (p := ⟨b9, 1, none⟩) hk9 (.int .i64 3)).setCell (p := ⟨b9, 2, none⟩) hk9 (.slice C2 2 c2))
  replace T := Lib.hid (Bx.Blk.other (o := 2) (x := .slice C2 2 c2) (Bx.Blk.other (o := 1) (x := .int .i64 3) (Bx.Blk.other (o := 0) (x := .int .i64 2) T.out hn1) hn1) hn1)
  replace X := Lib.hid (Bx.Blk.other (o := 2) (x := .slice C2 2 c2) (Bx.Blk.other (o := 1) (x := .int .i64 3) (Bx.Blk.other (o := 0) (x := .int .i64 2) X.out hn7) hn7) hn7)
  replace E := Lib.hid (((E.out.set (o := 0) (x := .int .i64 2) HBT.out).set (o := 1) (x := .int .i64 3) HBT.out).set (o := 2) (x := .slice C2 2 c2) HBT.out)
  obtain ⟨⟨p0, p1, p2⟩, q0, q1, q2⟩ := U2.out.all3
  clear hb hC hEC U EU U2 hCn
  obtain ⟨t0, t1, t2⟩ := U3.out.1.all3
  go_wp2_with fail
  clear p0 p1 p2 q0 q1 q2 t0 t1 t2
  generalize (((w'.setCell ⟨b9, 0, none⟩ (.int .i64 2)).setCell ⟨b9, 1, none⟩ (.int .i64 3)).setCell ⟨b9, 2, none⟩ (.slice C2 2 c2)) = W8 at *
  have U := Lib.hid U3.out
  have EU := Lib.hid EU2.out
  clear h9
  have h9 : b9 < W8.heap.size := U3.out.2.1
  clear U3 EU2
  refine (HU3.out C2 c2 _ EU.out).mono ?_; rintro e w' ⟨C3, c3, rfl, hC, hEC, hb⟩
  replace T := Lib.hid (T.out.keep hb)
  replace E := Lib.hid (E.out.below hb)
  replace X := Lib.hid (X.out.keep hb)
  have U2 := Lib.hid (U.out.keep hb)
  have hCn : ∀ b o, C3 = some ⟨b, o, none⟩ → b ≠ b9 := fun b o e => by have := hC b o e; omega
  have EU2 := Lib.hid (((hEC.set (o := 0) (x := .int .i64 2) hCn).set (o := 1) (x := .int .i64 3) hCn).set (o := 2) (x := .slice C3 0 c3) hCn)
  have U3 := Lib.hid (Fre.put3 U2.out (x0 := .int .i64 2) (x1 := .int .i64 3) (x2 := .slice C3 0 c3))
  replace bel := Lib.hid (Bx.then_below bel.out hb)
  replace bel := Lib.hid (((bel.out.setCell (p := ⟨b9, 0, none⟩) hk9 (.int .i64 2)).setCell (p := ⟨b9, 1, none⟩) hk9 (.int .i64 3)).setCell (p := ⟨b9, 2, none⟩) hk9 (.slice C3 0 c3))
  replace T := Lib.hid (Bx.Blk.other (o := 2) (x := .slice C3 0 c3) (Bx.Blk.other (o := 1) (x := .int .i64 3) (Bx.Blk.other (o := 0) (x := .int .i64 2) T.out hn1) hn1) hn1)
  replace X := Lib.hid (Bx.Blk.other (o := 2) (x := .slice C3 0 c3) (Bx.Blk.other (o := 1) (x := .int .i64 3) (Bx.Blk.other (o := 0) (x := .int .i64 2) X.out hn7) hn7) hn7)
  replace E := Lib.hid (((E.out.set (o := 0) (x := .int .i64 2) HBT.out).set (o := 1) (x := .int .i64 3) HBT.out).set (o := 2) (x := .slice C3 0 c3) HBT.out)
  obtain ⟨⟨p0, p1, p2⟩, q0, q1, q2⟩ := U2.out.all3
  clear hb hC hEC U EU U2 hCn
  obtain ⟨t0, t1, t2⟩ := T.out.all3
  go_wp2_with fail
  clear p0 p1 p2 q0 q1 q2 t0 t1 t2
  generalize (((w'.setCell ⟨b9, 0, none⟩ (.int .i64 2)).setCell ⟨b9, 1, none⟩ (.int .i64 3)).setCell ⟨b9, 2, none⟩ (.slice C3 0 c3)) = W9 at *
  have U := Lib.hid U3.out
  have EU := Lib.hid EU2.out
  clear h9
  have h9 : b9 < W9.heap.size := U3.out.2.1
  clear U3 EU2
  refine (HV.out B4 d4 _ E.out).mono ?_; rintro e w' ⟨V1, v1, rfl, _, _, hb⟩
  replace T := Lib.hid (T.out.keep hb)
  replace T := Lib.hid (T.out.keep (Bx.box_below _ (to 2 3 V1 1 v1)))
  replace E := Lib.hid (E.out.below hb)
  replace E := Lib.hid (E.out.below (Bx.box_below _ (to 2 3 V1 1 v1)))
  replace X := Lib.hid (X.out.keep hb)
  replace X := Lib.hid (X.out.keep (Bx.box_below _ (to 2 3 V1 1 v1)))
  replace U := Lib.hid (U.out.keep hb)
  replace U := Lib.hid (U.out.keep (Bx.box_below _ (to 2 3 V1 1 v1)))
  replace EU := Lib.hid (EU.out.below hb)
  replace EU := Lib.hid (EU.out.below (Bx.box_below _ (to 2 3 V1 1 v1)))
  replace bel := Lib.hid (Bx.then_below bel.out hb)
  replace bel := Lib.hid (Bx.bel_box bel.out (to 2 3 V1 1 v1))
  have V := Lib.hid (Bx.Blk.new w' [.int .i64 2, .int .i64 3, .slice V1 1 v1] 24)
  clear hb
  obtain ⟨t0, t1, t2⟩ := T.out.all3
  go_wp2_with fail
  clear t0 t1 t2
  generalize hg : w'.alloc (to 2 3 V1 1 v1) = W10 at *
  clear hg
  generalize w'.heap.size = b13 at *
  refine (HW.out B4 d4 _ E.out).mono ?_; rintro e w' ⟨Y1, y1, rfl, _, hEY, hb⟩
  replace T := Lib.hid (T.out.keep hb)
  replace T := Lib.hid (T.out.keep (Bx.box_below _ (to 2 3 Y1 2 y1)))
  replace E := Lib.hid (E.out.below hb)
  replace E := Lib.hid (E.out.below (Bx.box_below _ (to 2 3 Y1 2 y1)))
  replace X := Lib.hid (X.out.keep hb)
  replace X := Lib.hid (X.out.keep (Bx.box_below _ (to 2 3 Y1 2 y1)))
  replace U := Lib.hid (U.out.keep hb)
  replace U := Lib.hid (U.out.keep (Bx.box_below _ (to 2 3 Y1 2 y1)))
  replace EU := Lib.hid (EU.out.below hb)
  replace EU := Lib.hid (EU.out.below (Bx.box_below _ (to 2 3 Y1 2 y1)))
  replace V := Lib.hid (V.out.keep hb)
  replace V := Lib.hid (V.out.keep (Bx.box_below _ (to 2 3 Y1 2 y1)))
  replace bel := Lib.hid (Bx.then_below bel.out hb)
  replace bel := Lib.hid (Bx.bel_box bel.out (to 2 3 Y1 2 y1))
  have Y := Lib.hid (Bx.Blk.new w' [.int .i64 2, .int .i64 3, .slice Y1 2 y1] 24)
  have EY := Lib.hid (hEY.below (Bx.box_below w' (to 2 3 Y1 2 y1)))
  clear hb hEY
  obtain ⟨t0, t1, t2⟩ := T.out.all3
  obtain ⟨x0, x1, x2, x3⟩ := X.out.all4
  obtain ⟨u0, u1, u2⟩ := U.out.1.all3
  obtain ⟨v0, v1', v2⟩ := V.out.all3
  obtain ⟨y0, y1', y2⟩ := Y.out.all3
  obtain ⟨b, o, rfl, _, a0, a1, a2, a3⟩ := E.out.at (k := 0) (by decide)
  simp only [Nat.zero_mul, Nat.add_zero, List.getElem_cons_zero] at a0 a1 a2 a3
  go_wp2_with fail
  clear t0 t1 t2 x0 x1 x2 x3 u0 u1 u2 v0 v1' v2 y0 y1' y2 a0 a1 a2 a3
  generalize hg : w'.alloc (to 2 3 Y1 2 y1) = W11 at *
  clear hg
  generalize w'.heap.size = b15 at *
  refine (HM.out _ _ _ _ _ EY.out E.out).mono ?_; rintro e w' ⟨rfl, hb⟩
  replace T := Lib.hid (T.out.keep hb)
  replace E := Lib.hid (E.out.below hb)
  replace X := Lib.hid (X.out.keep hb)
  replace U := Lib.hid (U.out.keep hb)
  replace EU := Lib.hid (EU.out.below hb)
  replace V := Lib.hid (V.out.keep hb)
  replace Y := Lib.hid (Y.out.keep hb)
  replace EY := Lib.hid (EY.out.below hb)
  replace bel := Lib.hid (Bx.then_below bel.out hb)
  obtain ⟨t0, t1, t2⟩ := T.out.all3
  clear hb
  go_wp2_with fail
  refine (HO.out _ _ _ E.out).mono ?_; rintro e w2 ⟨rfl, hb⟩
  have bel2 := Lib.hid (Bx.then_below bel.out hb)
  clear hb
  go_wp2
  go_ret
  exact ⟨rfl, bel2.out⟩

end Tab
end Go.Proofs.YtfnjgjehmddkcaaDoor
