/-
  The usual plan, as package member and the document make it.
-/
import Derived.Test.YtbighadkcmhplaaMemW
namespace Go.Proofs.Ytbighadkcmhplaa
open Go.RowKit
namespace Mem
open Oct Eth

/-- The VLANs of the usual plan. -/
def usualL : List Vl := [⟨1, 0, 255⟩, ⟨10, 128, 0⟩, ⟨20, 128, 0⟩, ⟨30, 128, 0⟩]

theorem pc_set (o k : Nat → Int) (A : Option Addr) (n c : Nat) (x : Int) {i : Nat} (h : i < 8) : (pc o k A n c).set i (.int .i64 x) = pc (fun j => if j = i then x else o j) k A n c := by
  have : i = 0 ∨ i = 1 ∨ i = 2 ∨ i = 3 ∨ i = 4 ∨ i = 5 ∨ i = 6 ∨ i = 7 := by omega
  rcases this with rfl | rfl | rfl | rfl | rfl | rfl | rfl | rfl <;> rfl

theorem pc_set_take (o k : Nat → Int) (A : Option Addr) (n c : Nat) (x : Int) {i : Nat} (h : i < 8) : (pc o k A n c).set (8 + i) (.int .i64 x) = pc o (fun j => if j = i then x else k j) A n c := by
  have : i = 0 ∨ i = 1 ∨ i = 2 ∨ i = 3 ∨ i = 4 ∨ i = 5 ∨ i = 6 ∨ i = 7 := by omega
  rcases this with rfl | rfl | rfl | rfl | rfl | rfl | rfl | rfl <;> rfl

/-- Behind so many rounds. -/
def up (i : Nat) : Nat → Int := fun j => if j < i then 1 else 0

theorem up_next (i : Nat) : (fun j => if j = i then (1 : Int) else up i j) = up (i + 1) := by
  funext j
  unfold up
  split
  · rw [if_pos (by omega)]
  · split
    · rw [if_pos (by omega)]
    · rw [if_neg (by omega)]

theorem vls_new (W : World) : Vls (W.alloc (.cells #[.int .i64 1, .int .i64 0, .int .i64 255, .int .i64 10, .int .i64 128, .int .i64 0, .int .i64 20, .int .i64 128, .int .i64 0, .int .i64 30, .int .i64 128, .int .i64 0] 38)) (some ⟨W.heap.size, 0, none⟩) usualL := by
  have h := Bx.Blk.new W [.int .i64 1, .int .i64 0, .int .i64 255, .int .i64 10, .int .i64 128, .int .i64 0, .int .i64 20, .int .i64 128, .int .i64 0, .int .i64 30, .int .i64 128, .int .i64 0] 38
  have hs : W.heap.size < (W.alloc (.cells #[.int .i64 1, .int .i64 0, .int .i64 255, .int .i64 10, .int .i64 128, .int .i64 0, .int .i64 20, .int .i64 128, .int .i64 0, .int .i64 30, .int .i64 128, .int .i64 0] 38)).heap.size := by simp
  intro j x hj
  match j, hj with
  | 0, hj => obtain rfl : (⟨1, 0, 255⟩ : Vl) = x := Option.some.inj hj; exact ⟨_, _, rfl, hs, h.at 0 rfl, h.at 1 rfl, h.at 2 rfl⟩
  | 1, hj => obtain rfl : (⟨10, 128, 0⟩ : Vl) = x := Option.some.inj hj; exact ⟨_, _, rfl, hs, h.at 3 rfl, h.at 4 rfl, h.at 5 rfl⟩
  | 2, hj => obtain rfl : (⟨20, 128, 0⟩ : Vl) = x := Option.some.inj hj; exact ⟨_, _, rfl, hs, h.at 6 rfl, h.at 7 rfl, h.at 8 rfl⟩
  | 3, hj => obtain rfl : (⟨30, 128, 0⟩ : Vl) = x := Option.some.inj hj; exact ⟨_, _, rfl, hs, h.at 9 rfl, h.at 10 rfl, h.at 11 rfl⟩
  | j + 4, hj => simp [usualL] at hj

theorem Vls.apart {W : World} {b k : Nat} {l : List Vl} {m : List Value} (h : Vls W (some ⟨b, 0, none⟩) l) (hne : b ≠ k) : Vls (W.setCells k 0 m) (some ⟨b, 0, none⟩) l := fun j x hj => by
  obtain ⟨b', o, e, h1, h2, h3, h4⟩ := h j x hj
  cases e
  exact ⟨_, _, rfl, World.block_lt_of_cell? _ _ (Bx.cell_cells h2 hne), Bx.cell_cells h2 hne, Bx.cell_cells h3 hne, Bx.cell_cells h4 hne⟩

theorem zero_next (i : Nat) : (fun j => if j = i then (0 : Int) else (fun _ => (0 : Int)) j) = fun _ => 0 := by
  funext j
  simp

set_option maxRecDepth 100000 in
set_option maxHeartbeats 4000000 in
theorem usual_any (w : World) :
    Calls Try.prog 18 #[] w fun e w' => ∃ b, e = .returned (pv (fun _ => 1) (fun _ => 0) (some ⟨b, 0, none⟩) 4 4) ∧ Vls w' (some ⟨b, 0, none⟩) usualL ∧ Below w.heap.size w w' := by
  have R := Lib.hid (Bx.Own.new w (pc (fun _ => 0) (fun _ => 0) none 0 0) 25)
  have B0 := Lib.hid (Bx.box_below w (po (fun _ => 0) (fun _ => 0) none 0 0))
  go_enter Try.func18, Try.ntmps18
  go_wp2_with fail
  have hR := (R.out.more (.cells #[.int .i64 1, .int .i64 0, .int .i64 255, .int .i64 10, .int .i64 128, .int .i64 0, .int .i64 20, .int .i64 128, .int .i64 0, .int .i64 30, .int .i64 128, .int .i64 0] 38))
  have hB := Bx.bel_box B0.out (.cells #[.int .i64 1, .int .i64 0, .int .i64 255, .int .i64 10, .int .i64 128, .int .i64 0, .int .i64 20, .int .i64 128, .int .i64 0, .int .i64 30, .int .i64 128, .int .i64 0] 38)
  have hV := vls_new (w.alloc (po (fun _ => 0) (fun _ => 0) none 0 0))
  have hs : w.heap.size + 1 + 1 = ((w.alloc (po (fun _ => 0) (fun _ => 0) none 0 0)).alloc (.cells #[.int .i64 1, .int .i64 0, .int .i64 255, .int .i64 10, .int .i64 128, .int .i64 0, .int .i64 20, .int .i64 128, .int .i64 0, .int .i64 30, .int .i64 128, .int .i64 0] 38)).heap.size := by simp
  rw [show (w.alloc (po (fun _ => 0) (fun _ => 0) none 0 0)).heap.size = w.heap.size + 1 by simp] at hV
  generalize hg : (w.alloc (po (fun _ => 0) (fun _ => 0) none 0 0)).alloc (.cells #[.int .i64 1, .int .i64 0, .int .i64 255, .int .i64 10, .int .i64 128, .int .i64 0, .int .i64 20, .int .i64 128, .int .i64 0, .int .i64 30, .int .i64 128, .int .i64 0] 38) = W1 at *
  clear hg R B0
  generalize w.heap.size + 1 + 1 = n2 at *
  have hne : (w.heap.size + 1) ≠ w.heap.size := by omega
  generalize w.heap.size + 1 = n1 at *
  subst hs
  have HF0 := Lib.hid (Bx.Fre.new W1 (pc (up 0) (fun _ => 0) (some ⟨n1, 0, none⟩) 4 4) 25)
  have HB0 := Lib.hid (Bx.box_below W1 (po (up 0) (fun _ => 0) (some ⟨n1, 0, none⟩) 4 4))
  have HR := Lib.hid hR
  have HB1 := Lib.hid hB
  have HV := Lib.hid hV
  clear hR hB hV
  go_loopw [2, 9] (fun _ ix wr => ∃ i : Nat, i ≤ 8 ∧ ix = .int .i64 i ∧ Aside (Bx.Fre wr W1.heap.size (pc (up i) (fun _ => 0) (some ⟨n1, 0, none⟩) 4 4)) ∧ Aside (Below W1.heap.size W1 wr)) (fun _ ix _ => 8 - (intOf ix).toNat)
  case atStart => exact ⟨0, Nat.zero_le _, rfl, HF0.out, HB0.out⟩
  case round =>
    obtain ⟨i, hi, rfl, HF, HB⟩ := hrel
    by_cases hlt : i < 8
    · have hlt2 : (i : Int) < 8 := by omega
      have hin : ((i : Int)).toNat = i := by omega
      have c0 := HF.out.1.at i (pc_own (up i) (fun _ => 0) (some ⟨n1, 0, none⟩) 4 4 hlt)
      have f0 := HF.out.2.2 i
      have Q1 := Lib.hid (HF.out.set i (.int .i64 1))
      rw [pc_set _ _ _ _ _ _ hlt, up_next] at Q1
      have BQ := Lib.hid (HB.out.setCell (p := ⟨W1.heap.size, i, none⟩) (Nat.le_refl _) (.int .i64 1))
      have c1 := Q1.out.1.at (8 + i) (pc_take (up (i + 1)) (fun _ => 0) (some ⟨n1, 0, none⟩) 4 4 hlt)
      have f1 := HF.out.2.2 (8 + i)
      replace Q1 := Lib.hid (Q1.out.set (8 + i) (.int .i64 0))
      rw [pc_set_take _ _ _ _ _ _ hlt, zero_next] at Q1
      replace BQ := Lib.hid (BQ.out.setCell (p := ⟨W1.heap.size, 8 + i, none⟩) (Nat.le_refl _) (.int .i64 0))
      go_wp2
      go_roundw
      case rel => exact ⟨i + 1, by omega, by go_num, Q1.out, BQ.out⟩
      case measure => simp [intOf]; omega
    · obtain rfl : i = 8 := by omega
      have P1 := Lib.hid (show Bx.Blk wr W1.heap.size (pc (fun _ => 1) (fun _ => 0) (some ⟨n1, 0, none⟩) 4 4) from HF.out.1)
      have P2 := Lib.hid (HR.out.keep HB.out)
      have P3 := Lib.hid (P2.out.put (m := pc (fun _ => 1) (fun _ => 0) (some ⟨n1, 0, none⟩) 4 4) rfl)
      have P4 := Lib.hid (Bx.bel_cells (m := pc (fun _ => 1) (fun _ => 0) (some ⟨n1, 0, none⟩) 4 4) (Bx.then_below HB1.out HB.out) (Nat.le_refl _))
      have P5 := Lib.hid ((HV.out.below HB.out).apart (m := pc (fun _ => 1) (fun _ => 0) (some ⟨n1, 0, none⟩) 4 4) (k := w.heap.size) hne)
      clear HF HR HB HB1 HV HF0 HB0
      go_wp2_with (first | ((with_reducible refine load_at ?_ ?_ W1.heap.size ?_ (fun _ => 1) (fun _ => 0) (some ⟨n1, 0, none⟩) 4 4 ?_ ?_); (· rfl); (· rfl); (· rfl); (· exact P1.out)) | ((with_reducible refine store_at ?_ ?_ w.heap.size (pc (fun _ => 0) (fun _ => 0) none 0 0) rfl (fun _ => 1) (fun _ => 0) (some ⟨n1, 0, none⟩) 4 4 ?_ ?_ ?_ ?_); (· rfl); (· rfl); (· rfl); (· rfl); (· exact P2.out)))
      refine bodyPost_ret (v := pv (fun _ => 1) (fun _ => 0) (some ⟨n1, 0, none⟩) 4 4) ?_ rfl ?_
      · obtain ⟨d0, d1, d2, d3, d4, d5, d6, d7, d8, d9, d10, d11, d12, d13, d14, d15, d16⟩ := P3.out.blk.all17
        simp [results, Try.results18, d0, d1, d2, d3, d4, d5, d6, d7, d8, d9, d10, d11, d12, d13, d14, d15, d16, go_sem]
      · exact ⟨_, rfl, P5.out, P4.out⟩

set_option maxRecDepth 100000 in
set_option maxHeartbeats 4000000 in
theorem rusual_any (w : World) :
    Calls Try.prog 19 #[] w fun e w' => ∃ b, e = .returned (pv (fun _ => 1) (fun _ => 0) (some ⟨b, 0, none⟩) 4 4) ∧ Vls w' (some ⟨b, 0, none⟩) usualL ∧ Below w.heap.size w w' := by
  have R := Lib.hid (Bx.Own.new w (pc (fun _ => 0) (fun _ => 0) none 0 0) 25)
  have B0 := Lib.hid (Bx.box_below w (po (fun _ => 0) (fun _ => 0) none 0 0))
  go_enter Try.func19, Try.ntmps19
  go_wp2_with fail
  have hR := (R.out.more (.cells #[.int .i64 1, .int .i64 0, .int .i64 255, .int .i64 10, .int .i64 128, .int .i64 0, .int .i64 20, .int .i64 128, .int .i64 0, .int .i64 30, .int .i64 128, .int .i64 0] 38))
  have hB := Bx.bel_box B0.out (.cells #[.int .i64 1, .int .i64 0, .int .i64 255, .int .i64 10, .int .i64 128, .int .i64 0, .int .i64 20, .int .i64 128, .int .i64 0, .int .i64 30, .int .i64 128, .int .i64 0] 38)
  have hV := vls_new (w.alloc (po (fun _ => 0) (fun _ => 0) none 0 0))
  have hs : w.heap.size + 1 + 1 = ((w.alloc (po (fun _ => 0) (fun _ => 0) none 0 0)).alloc (.cells #[.int .i64 1, .int .i64 0, .int .i64 255, .int .i64 10, .int .i64 128, .int .i64 0, .int .i64 20, .int .i64 128, .int .i64 0, .int .i64 30, .int .i64 128, .int .i64 0] 38)).heap.size := by simp
  rw [show (w.alloc (po (fun _ => 0) (fun _ => 0) none 0 0)).heap.size = w.heap.size + 1 by simp] at hV
  generalize hg : (w.alloc (po (fun _ => 0) (fun _ => 0) none 0 0)).alloc (.cells #[.int .i64 1, .int .i64 0, .int .i64 255, .int .i64 10, .int .i64 128, .int .i64 0, .int .i64 20, .int .i64 128, .int .i64 0, .int .i64 30, .int .i64 128, .int .i64 0] 38) = W1 at *
  clear hg R B0
  generalize w.heap.size + 1 + 1 = n2 at *
  have hne : (w.heap.size + 1) ≠ w.heap.size := by omega
  generalize w.heap.size + 1 = n1 at *
  subst hs
  have HF0 := Lib.hid (Bx.Fre.new W1 (pc (up 0) (fun _ => 0) (some ⟨n1, 0, none⟩) 4 4) 25)
  have HB0 := Lib.hid (Bx.box_below W1 (po (up 0) (fun _ => 0) (some ⟨n1, 0, none⟩) 4 4))
  have HR := Lib.hid hR
  have HB1 := Lib.hid hB
  have HV := Lib.hid hV
  clear hR hB hV
  go_loopw [2, 9] (fun _ ix wr => ∃ i : Nat, i ≤ 8 ∧ ix = .int .i64 i ∧ Aside (Bx.Fre wr W1.heap.size (pc (up i) (fun _ => 0) (some ⟨n1, 0, none⟩) 4 4)) ∧ Aside (Below W1.heap.size W1 wr)) (fun _ ix _ => 8 - (intOf ix).toNat)
  case atStart => exact ⟨0, Nat.zero_le _, rfl, HF0.out, HB0.out⟩
  case round =>
    obtain ⟨i, hi, rfl, HF, HB⟩ := hrel
    by_cases hlt : i < 8
    · have hlt2 : (i : Int) < 8 := by omega
      have hin : ((i : Int)).toNat = i := by omega
      have c0 := HF.out.1.at i (pc_own (up i) (fun _ => 0) (some ⟨n1, 0, none⟩) 4 4 hlt)
      have f0 := HF.out.2.2 i
      have Q1 := Lib.hid (HF.out.set i (.int .i64 1))
      rw [pc_set _ _ _ _ _ _ hlt, up_next] at Q1
      have BQ := Lib.hid (HB.out.setCell (p := ⟨W1.heap.size, i, none⟩) (Nat.le_refl _) (.int .i64 1))
      go_wp2
      go_roundw
      case rel => exact ⟨i + 1, by omega, by go_num, Q1.out, BQ.out⟩
      case measure => simp [intOf]; omega
    · obtain rfl : i = 8 := by omega
      have P1 := Lib.hid (show Bx.Blk wr W1.heap.size (pc (fun _ => 1) (fun _ => 0) (some ⟨n1, 0, none⟩) 4 4) from HF.out.1)
      have P2 := Lib.hid (HR.out.keep HB.out)
      have P3 := Lib.hid (P2.out.put (m := pc (fun _ => 1) (fun _ => 0) (some ⟨n1, 0, none⟩) 4 4) rfl)
      have P4 := Lib.hid (Bx.bel_cells (m := pc (fun _ => 1) (fun _ => 0) (some ⟨n1, 0, none⟩) 4 4) (Bx.then_below HB1.out HB.out) (Nat.le_refl _))
      have P5 := Lib.hid ((HV.out.below HB.out).apart (m := pc (fun _ => 1) (fun _ => 0) (some ⟨n1, 0, none⟩) 4 4) (k := w.heap.size) hne)
      clear HF HR HB HB1 HV HF0 HB0
      go_wp2_with (first | ((with_reducible refine load_at ?_ ?_ W1.heap.size ?_ (fun _ => 1) (fun _ => 0) (some ⟨n1, 0, none⟩) 4 4 ?_ ?_); (· rfl); (· rfl); (· rfl); (· exact P1.out)) | ((with_reducible refine store_at ?_ ?_ w.heap.size (pc (fun _ => 0) (fun _ => 0) none 0 0) rfl (fun _ => 1) (fun _ => 0) (some ⟨n1, 0, none⟩) 4 4 ?_ ?_ ?_ ?_); (· rfl); (· rfl); (· rfl); (· rfl); (· exact P2.out)))
      refine bodyPost_ret (v := pv (fun _ => 1) (fun _ => 0) (some ⟨n1, 0, none⟩) 4 4) ?_ rfl ?_
      · obtain ⟨d0, d1, d2, d3, d4, d5, d6, d7, d8, d9, d10, d11, d12, d13, d14, d15, d16⟩ := P3.out.blk.all17
        simp [results, Try.results19, d0, d1, d2, d3, d4, d5, d6, d7, d8, d9, d10, d11, d12, d13, d14, d15, d16, go_sem]
      · exact ⟨_, rfl, P5.out, P4.out⟩

end Mem
end Go.Proofs.Ytbighadkcmhplaa
