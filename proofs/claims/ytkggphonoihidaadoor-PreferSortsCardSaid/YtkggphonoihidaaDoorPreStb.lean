/-
  slices.symMergeCmpFunc at vectors, at every length; slices.SortStableFunc at sixty vectors or fewer.
-/
import Derived.Test.YtkggphonoihidaaDoorPreMrgC
namespace Go.Proofs.YtkggphonoihidaaDoor
open Go.RowKit
namespace Pre
open Oct

theorem Ih.mono {N g c k k' : Nat} (h : Ih N g c k) (hk : k' ≤ k) : Ih N g c k' := fun l a m b h1 h2 h3 h4 h5 h6 h7 w hR => h l a m b h1 h2 h3 h4 (by omega) h6 h7 w hR

theorem merge_all (N g c : Nat) (hN : N ≤ 100000) : ∀ k, Ih N g c k
  | 0 => fun l a m b _ _ _ _ h => absurd h (Nat.not_lt_zero _)
  | k + 1 => fun l a m b h1 h2 h3 h4 h5 h6 h7 w hR => by
    subst h1
    by_cases e1 : m = a + 1
    · exact merge_one l hN g a m b c h2 h3 h4 e1 h6 h7 w hR
    · by_cases e2 : b = m + 1
      · exact merge_last l hN g a m b c h2 h3 h4 (by omega) e2 h6 h7 w hR
      · exact merge_two l hN g a m b c h2 h3 h4 (by omega) (by omega) h6 h7 ((merge_all l.length g c hN k).mono (by omega)) w hR

theorem insert_at (l : List Vc) (N : Nat) (hN : l.length = N) (hl : N ≤ 100000) (g a b c : Nat) (A B : Int) (hA : A = a) (hB : B = b) (hab : a ≤ b) (hb : b ≤ N) (w : World) (hR : Row w g l) :
    Calls Tryd.prog 33 #[.slice (some ⟨g, 0, none⟩) N c, .int .i64 A, .int .i64 B, cmpF] w (SrtG a b g l w) := by
  subst hN hA hB
  exact insert_any l hl g a b c hab hb w hR

theorem merge_at (l : List Vc) (N : Nat) (hN : l.length = N) (hl : N ≤ 100000) (g a m b c : Nat) (A M B : Int) (hA : A = a) (hM : M = m) (hB : B = b) (ham : a < m) (hmb : m < b) (hb : b ≤ N) (h1 : Srt.Inc ltV a m l) (h2 : Srt.Inc ltV m b l) (w : World) (hR : Row w g l) :
    Calls Tryd.prog 34 #[.slice (some ⟨g, 0, none⟩) N c, .int .i64 A, .int .i64 M, .int .i64 B, cmpF] w (SrtG a b g l w) := by
  subst hA hM hB
  exact merge_all N g c hl (b - a + 1) l a m b hN ham hmb hb (by omega) h1 h2 w hR

set_option maxRecDepth 100000 in
set_option maxHeartbeats 8000000 in
theorem stable_a (l : List Vc) (N : Nat) (hN : l.length = N) (h : N < 20) (g c : Nat) (w : World) (hR : Row w g l) :
    Calls Tryd.prog 26 #[.slice (some ⟨g, 0, none⟩) N c, .int .i64 N, cmpF] w (SrtG 0 N g l w) := by
  have R0 := Lib.hid hR
  have L0 := Lib.hid hN
  clear hR hN
  have c1 : ¬ (20 : Int) ≤ (N : Int) := by omega
  have c2 : ¬ (20 : Int) < (N : Int) := by omega
  have B0 := Lib.hid (Below.refl g w)
  have M0 := Lib.hid (Srt.Moved.refl 0 N l)
  go_enter Tryd.func26, Tryd.ntmps26
  go_wp2
  refine wp_loop_rounds 5 ?_
  rw [rounds_succ]
  have HC := Lib.hid (insert_at l N L0.out (by omega) g 0 N c 0 N rfl rfl (by omega) (by omega) w R0.out)
  go_wp2_with fail
  refine HC.out.mono ?_; rintro e w1 ⟨rfl, l1, hm, hs, hr, hb⟩
  have M1 := Lib.hid (M0.out.trans (hm.wide (Nat.zero_le _) (by omega)))
  have I1 := Lib.hid hs
  have R1 := Lib.hid hr
  have B1 := Lib.hid (B0.out.trans hb)
  have L1 := Lib.hid (show l1.length = N by rw [hm.len]; exact L0.out)
  clear hm hs hr hb HC
  go_wp2
  refine wp_loop_rounds 3 ?_
  rw [rounds_succ]
  go_wp2
  exact bodyPost_ret (v := .tuple #[]) (by simp [results, Tryd.results26, go_sem]) rfl ⟨rfl, l1, M1.out, I1.out, R1.out, B1.out⟩

set_option maxRecDepth 100000 in
set_option maxHeartbeats 8000000 in
theorem stable_b (l : List Vc) (hN : l.length = 20) (g c : Nat) (w : World) (hR : Row w g l) :
    Calls Tryd.prog 26 #[.slice (some ⟨g, 0, none⟩) 20 c, .int .i64 20, cmpF] w (SrtG 0 20 g l w) := by
  have R0 := Lib.hid hR
  have L0 := Lib.hid hN
  clear hR hN
  have B0 := Lib.hid (Below.refl g w)
  have M0 := Lib.hid (Srt.Moved.refl 0 20 l)
  go_enter Tryd.func26, Tryd.ntmps26
  go_wp2
  refine wp_loop_rounds 5 ?_
  rw [rounds_succ]
  have HC := Lib.hid (insert_at l 20 L0.out (by omega) g 0 20 c 0 20 rfl rfl (by omega) (by omega) w R0.out)
  go_wp2_with fail
  refine HC.out.mono ?_; rintro e w1 ⟨rfl, l1, hm, hs, hr, hb⟩
  have M1 := Lib.hid (M0.out.trans (hm.wide (Nat.zero_le _) (by omega)))
  have I1 := Lib.hid hs
  have R1 := Lib.hid hr
  have B1 := Lib.hid (B0.out.trans hb)
  have L1 := Lib.hid (show l1.length = 20 by rw [hm.len]; exact L0.out)
  clear hm hs hr hb HC
  go_wp2
  rw [rounds_succ]
  have HC := Lib.hid (insert_at l1 20 L1.out (by omega) g 20 20 c 20 20 rfl rfl (by omega) (by omega) w1 R1.out)
  go_wp2_with fail
  refine HC.out.mono ?_; rintro e w2 ⟨rfl, l2, hm, hs, hr, hb⟩
  have M2 := Lib.hid (M1.out.trans (hm.wide (Nat.zero_le _) (by omega)))
  have I2 := Lib.hid hs
  have I1n := Lib.hid (Srt.Inc.moved I1.out hm (by omega))
  have R2 := Lib.hid hr
  have B2 := Lib.hid (B1.out.trans hb)
  have L2 := Lib.hid (show l2.length = 20 by rw [hm.len]; exact L1.out)
  clear hm hs hr hb HC
  go_wp2
  refine wp_loop_rounds 4 ?_
  rw [rounds_succ]
  go_wp2
  exact bodyPost_ret (v := .tuple #[]) (by simp [results, Tryd.results26, go_sem]) rfl ⟨rfl, l2, M2.out, I1n.out, R2.out, B2.out⟩

set_option maxRecDepth 100000 in
set_option maxHeartbeats 8000000 in
theorem stable_c (l : List Vc) (N : Nat) (hN : l.length = N) (h : 20 < N) (h2 : N < 40) (g c : Nat) (w : World) (hR : Row w g l) :
    Calls Tryd.prog 26 #[.slice (some ⟨g, 0, none⟩) N c, .int .i64 N, cmpF] w (SrtG 0 N g l w) := by
  have R0 := Lib.hid hR
  have L0 := Lib.hid hN
  clear hR hN
  have c20 : (20 : Int) ≤ (N : Int) := by omega
  have n40 : ¬ (40 : Int) ≤ (N : Int) := by omega
  have g20 : (20 : Int) < (N : Int) := by omega
  have m40 : ¬ (40 : Int) < (N : Int) := by omega
  have B0 := Lib.hid (Below.refl g w)
  have M0 := Lib.hid (Srt.Moved.refl 0 N l)
  go_enter Tryd.func26, Tryd.ntmps26
  go_wp2
  refine wp_loop_rounds 5 ?_
  rw [rounds_succ]
  have HC := Lib.hid (insert_at l N L0.out (by omega) g 0 20 c 0 20 rfl rfl (by omega) (by omega) w R0.out)
  go_wp2_with fail
  refine HC.out.mono ?_; rintro e w1 ⟨rfl, l1, hm, hs, hr, hb⟩
  have M1 := Lib.hid (M0.out.trans (hm.wide (Nat.zero_le _) (by omega)))
  have I1 := Lib.hid hs
  have R1 := Lib.hid hr
  have B1 := Lib.hid (B0.out.trans hb)
  have L1 := Lib.hid (show l1.length = N by rw [hm.len]; exact L0.out)
  clear hm hs hr hb HC
  go_wp2
  rw [rounds_succ]
  have HC := Lib.hid (insert_at l1 N L1.out (by omega) g 20 N c 20 N rfl rfl (by omega) (by omega) w1 R1.out)
  go_wp2_with fail
  refine HC.out.mono ?_; rintro e w2 ⟨rfl, l2, hm, hs, hr, hb⟩
  have M2 := Lib.hid (M1.out.trans (hm.wide (Nat.zero_le _) (by omega)))
  have I2 := Lib.hid hs
  have I1n := Lib.hid (Srt.Inc.moved I1.out hm (by omega))
  have R2 := Lib.hid hr
  have B2 := Lib.hid (B1.out.trans hb)
  have L2 := Lib.hid (show l2.length = N by rw [hm.len]; exact L1.out)
  clear hm hs hr hb HC
  go_wp2
  refine wp_loop_rounds 4 ?_
  rw [rounds_succ]
  go_wp2
  refine wp_loop_rounds 4 ?_
  rw [rounds_succ]
  have HC := Lib.hid (merge_at l2 N L2.out (by omega) g 0 20 N c 0 20 N rfl rfl rfl (by omega) (by omega) (by omega) I1n.out I2.out w2 R2.out)
  go_wp2_with fail
  refine HC.out.mono ?_; rintro e w3 ⟨rfl, l3, hm, hs, hr, hb⟩
  have M3 := Lib.hid (M2.out.trans (hm.wide (Nat.zero_le _) (by omega)))
  have I3 := Lib.hid hs
  have R3 := Lib.hid hr
  have B3 := Lib.hid (B2.out.trans hb)
  have L3 := Lib.hid (show l3.length = N by rw [hm.len]; exact L2.out)
  clear hm hs hr hb HC
  go_wp2
  rw [rounds_succ]
  go_wp2
  exact bodyPost_ret (v := .tuple #[]) (by simp [results, Tryd.results26, go_sem]) rfl ⟨rfl, l3, M3.out, I3.out, R3.out, B3.out⟩

set_option maxRecDepth 100000 in
set_option maxHeartbeats 8000000 in
theorem stable_d (l : List Vc) (hN : l.length = 40) (g c : Nat) (w : World) (hR : Row w g l) :
    Calls Tryd.prog 26 #[.slice (some ⟨g, 0, none⟩) 40 c, .int .i64 40, cmpF] w (SrtG 0 40 g l w) := by
  have R0 := Lib.hid hR
  have L0 := Lib.hid hN
  clear hR hN
  have B0 := Lib.hid (Below.refl g w)
  have M0 := Lib.hid (Srt.Moved.refl 0 40 l)
  go_enter Tryd.func26, Tryd.ntmps26
  go_wp2
  refine wp_loop_rounds 5 ?_
  rw [rounds_succ]
  have HC := Lib.hid (insert_at l 40 L0.out (by omega) g 0 20 c 0 20 rfl rfl (by omega) (by omega) w R0.out)
  go_wp2_with fail
  refine HC.out.mono ?_; rintro e w1 ⟨rfl, l1, hm, hs, hr, hb⟩
  have M1 := Lib.hid (M0.out.trans (hm.wide (Nat.zero_le _) (by omega)))
  have I1 := Lib.hid hs
  have R1 := Lib.hid hr
  have B1 := Lib.hid (B0.out.trans hb)
  have L1 := Lib.hid (show l1.length = 40 by rw [hm.len]; exact L0.out)
  clear hm hs hr hb HC
  go_wp2
  rw [rounds_succ]
  have HC := Lib.hid (insert_at l1 40 L1.out (by omega) g 20 40 c 20 40 rfl rfl (by omega) (by omega) w1 R1.out)
  go_wp2_with fail
  refine HC.out.mono ?_; rintro e w2 ⟨rfl, l2, hm, hs, hr, hb⟩
  have M2 := Lib.hid (M1.out.trans (hm.wide (Nat.zero_le _) (by omega)))
  have I2 := Lib.hid hs
  have I1n := Lib.hid (Srt.Inc.moved I1.out hm (by omega))
  have R2 := Lib.hid hr
  have B2 := Lib.hid (B1.out.trans hb)
  have L2 := Lib.hid (show l2.length = 40 by rw [hm.len]; exact L1.out)
  clear hm hs hr hb HC
  go_wp2
  rw [rounds_succ]
  have HC := Lib.hid (insert_at l2 40 L2.out (by omega) g 40 40 c 40 40 rfl rfl (by omega) (by omega) w2 R2.out)
  go_wp2_with fail
  refine HC.out.mono ?_; rintro e w3 ⟨rfl, l3, hm, hs, hr, hb⟩
  have M3 := Lib.hid (M2.out.trans (hm.wide (Nat.zero_le _) (by omega)))
  have I3 := Lib.hid hs
  have I2n := Lib.hid (Srt.Inc.moved I2.out hm (by omega))
  have I1nn := Lib.hid (Srt.Inc.moved I1n.out hm (by omega))
  have R3 := Lib.hid hr
  have B3 := Lib.hid (B2.out.trans hb)
  have L3 := Lib.hid (show l3.length = 40 by rw [hm.len]; exact L2.out)
  clear hm hs hr hb HC
  go_wp2
  refine wp_loop_rounds 4 ?_
  rw [rounds_succ]
  go_wp2
  refine wp_loop_rounds 4 ?_
  rw [rounds_succ]
  have HC := Lib.hid (merge_at l3 40 L3.out (by omega) g 0 20 40 c 0 20 40 rfl rfl rfl (by omega) (by omega) (by omega) I1nn.out I2n.out w3 R3.out)
  go_wp2_with fail
  refine HC.out.mono ?_; rintro e w4 ⟨rfl, l4, hm, hs, hr, hb⟩
  have M4 := Lib.hid (M3.out.trans (hm.wide (Nat.zero_le _) (by omega)))
  have I4 := Lib.hid hs
  have I3n := Lib.hid (Srt.Inc.moved I3.out hm (by omega))
  have R4 := Lib.hid hr
  have B4 := Lib.hid (B3.out.trans hb)
  have L4 := Lib.hid (show l4.length = 40 by rw [hm.len]; exact L3.out)
  clear hm hs hr hb HC
  go_wp2
  rw [rounds_succ]
  go_wp2
  rw [rounds_succ]
  go_wp2
  exact bodyPost_ret (v := .tuple #[]) (by simp [results, Tryd.results26, go_sem]) rfl ⟨rfl, l4, M4.out, I4.out, R4.out, B4.out⟩

set_option maxRecDepth 100000 in
set_option maxHeartbeats 8000000 in
theorem stable_e (l : List Vc) (N : Nat) (hN : l.length = N) (h : 40 < N) (h2 : N < 60) (g c : Nat) (w : World) (hR : Row w g l) :
    Calls Tryd.prog 26 #[.slice (some ⟨g, 0, none⟩) N c, .int .i64 N, cmpF] w (SrtG 0 N g l w) := by
  have R0 := Lib.hid hR
  have L0 := Lib.hid hN
  clear hR hN
  have c20 : (20 : Int) ≤ (N : Int) := by omega
  have c40 : (40 : Int) ≤ (N : Int) := by omega
  have n60 : ¬ (60 : Int) ≤ (N : Int) := by omega
  have n80 : ¬ (80 : Int) ≤ (N : Int) := by omega
  have g20 : (20 : Int) < (N : Int) := by omega
  have g40 : (40 : Int) < (N : Int) := by omega
  have m60 : ¬ (60 : Int) < (N : Int) := by omega
  have m80 : ¬ (80 : Int) < (N : Int) := by omega
  have B0 := Lib.hid (Below.refl g w)
  have M0 := Lib.hid (Srt.Moved.refl 0 N l)
  go_enter Tryd.func26, Tryd.ntmps26
  go_wp2
  refine wp_loop_rounds 5 ?_
  rw [rounds_succ]
  have HC := Lib.hid (insert_at l N L0.out (by omega) g 0 20 c 0 20 rfl rfl (by omega) (by omega) w R0.out)
  go_wp2_with fail
  refine HC.out.mono ?_; rintro e w1 ⟨rfl, l1, hm, hs, hr, hb⟩
  have M1 := Lib.hid (M0.out.trans (hm.wide (Nat.zero_le _) (by omega)))
  have I1 := Lib.hid hs
  have R1 := Lib.hid hr
  have B1 := Lib.hid (B0.out.trans hb)
  have L1 := Lib.hid (show l1.length = N by rw [hm.len]; exact L0.out)
  clear hm hs hr hb HC
  go_wp2
  rw [rounds_succ]
  have HC := Lib.hid (insert_at l1 N L1.out (by omega) g 20 40 c 20 40 rfl rfl (by omega) (by omega) w1 R1.out)
  go_wp2_with fail
  refine HC.out.mono ?_; rintro e w2 ⟨rfl, l2, hm, hs, hr, hb⟩
  have M2 := Lib.hid (M1.out.trans (hm.wide (Nat.zero_le _) (by omega)))
  have I2 := Lib.hid hs
  have I1n := Lib.hid (Srt.Inc.moved I1.out hm (by omega))
  have R2 := Lib.hid hr
  have B2 := Lib.hid (B1.out.trans hb)
  have L2 := Lib.hid (show l2.length = N by rw [hm.len]; exact L1.out)
  clear hm hs hr hb HC
  go_wp2
  rw [rounds_succ]
  have HC := Lib.hid (insert_at l2 N L2.out (by omega) g 40 N c 40 N rfl rfl (by omega) (by omega) w2 R2.out)
  go_wp2_with fail
  refine HC.out.mono ?_; rintro e w3 ⟨rfl, l3, hm, hs, hr, hb⟩
  have M3 := Lib.hid (M2.out.trans (hm.wide (Nat.zero_le _) (by omega)))
  have I3 := Lib.hid hs
  have I2n := Lib.hid (Srt.Inc.moved I2.out hm (by omega))
  have I1nn := Lib.hid (Srt.Inc.moved I1n.out hm (by omega))
  have R3 := Lib.hid hr
  have B3 := Lib.hid (B2.out.trans hb)
  have L3 := Lib.hid (show l3.length = N by rw [hm.len]; exact L2.out)
  clear hm hs hr hb HC
  go_wp2
  refine wp_loop_rounds 4 ?_
  rw [rounds_succ]
  go_wp2
  refine wp_loop_rounds 4 ?_
  rw [rounds_succ]
  have HC := Lib.hid (merge_at l3 N L3.out (by omega) g 0 20 40 c 0 20 40 rfl rfl rfl (by omega) (by omega) (by omega) I1nn.out I2n.out w3 R3.out)
  go_wp2_with fail
  refine HC.out.mono ?_; rintro e w4 ⟨rfl, l4, hm, hs, hr, hb⟩
  have M4 := Lib.hid (M3.out.trans (hm.wide (Nat.zero_le _) (by omega)))
  have I4 := Lib.hid hs
  have I3n := Lib.hid (Srt.Inc.moved I3.out hm (by omega))
  have R4 := Lib.hid hr
  have B4 := Lib.hid (B3.out.trans hb)
  have L4 := Lib.hid (show l4.length = N by rw [hm.len]; exact L3.out)
  clear hm hs hr hb HC
  go_wp2
  rw [rounds_succ]
  go_wp2
  rw [rounds_succ]
  go_wp2
  refine wp_loop_rounds 4 ?_
  rw [rounds_succ]
  have HC := Lib.hid (merge_at l4 N L4.out (by omega) g 0 40 N c 0 40 N rfl rfl rfl (by omega) (by omega) (by omega) I4.out I3n.out w4 R4.out)
  go_wp2_with fail
  refine HC.out.mono ?_; rintro e w5 ⟨rfl, l5, hm, hs, hr, hb⟩
  have M5 := Lib.hid (M4.out.trans (hm.wide (Nat.zero_le _) (by omega)))
  have I5 := Lib.hid hs
  have R5 := Lib.hid hr
  have B5 := Lib.hid (B4.out.trans hb)
  have L5 := Lib.hid (show l5.length = N by rw [hm.len]; exact L4.out)
  clear hm hs hr hb HC
  go_wp2
  rw [rounds_succ]
  go_wp2
  exact bodyPost_ret (v := .tuple #[]) (by simp [results, Tryd.results26, go_sem]) rfl ⟨rfl, l5, M5.out, I5.out, R5.out, B5.out⟩

set_option maxRecDepth 100000 in
set_option maxHeartbeats 8000000 in
theorem stable_f (l : List Vc) (hN : l.length = 60) (g c : Nat) (w : World) (hR : Row w g l) :
    Calls Tryd.prog 26 #[.slice (some ⟨g, 0, none⟩) 60 c, .int .i64 60, cmpF] w (SrtG 0 60 g l w) := by
  have R0 := Lib.hid hR
  have L0 := Lib.hid hN
  clear hR hN
  have B0 := Lib.hid (Below.refl g w)
  have M0 := Lib.hid (Srt.Moved.refl 0 60 l)
  go_enter Tryd.func26, Tryd.ntmps26
  go_wp2
  refine wp_loop_rounds 5 ?_
  rw [rounds_succ]
  have HC := Lib.hid (insert_at l 60 L0.out (by omega) g 0 20 c 0 20 rfl rfl (by omega) (by omega) w R0.out)
  go_wp2_with fail
  refine HC.out.mono ?_; rintro e w1 ⟨rfl, l1, hm, hs, hr, hb⟩
  have M1 := Lib.hid (M0.out.trans (hm.wide (Nat.zero_le _) (by omega)))
  have I1 := Lib.hid hs
  have R1 := Lib.hid hr
  have B1 := Lib.hid (B0.out.trans hb)
  have L1 := Lib.hid (show l1.length = 60 by rw [hm.len]; exact L0.out)
  clear hm hs hr hb HC
  go_wp2
  rw [rounds_succ]
  have HC := Lib.hid (insert_at l1 60 L1.out (by omega) g 20 40 c 20 40 rfl rfl (by omega) (by omega) w1 R1.out)
  go_wp2_with fail
  refine HC.out.mono ?_; rintro e w2 ⟨rfl, l2, hm, hs, hr, hb⟩
  have M2 := Lib.hid (M1.out.trans (hm.wide (Nat.zero_le _) (by omega)))
  have I2 := Lib.hid hs
  have I1n := Lib.hid (Srt.Inc.moved I1.out hm (by omega))
  have R2 := Lib.hid hr
  have B2 := Lib.hid (B1.out.trans hb)
  have L2 := Lib.hid (show l2.length = 60 by rw [hm.len]; exact L1.out)
  clear hm hs hr hb HC
  go_wp2
  rw [rounds_succ]
  have HC := Lib.hid (insert_at l2 60 L2.out (by omega) g 40 60 c 40 60 rfl rfl (by omega) (by omega) w2 R2.out)
  go_wp2_with fail
  refine HC.out.mono ?_; rintro e w3 ⟨rfl, l3, hm, hs, hr, hb⟩
  have M3 := Lib.hid (M2.out.trans (hm.wide (Nat.zero_le _) (by omega)))
  have I3 := Lib.hid hs
  have I2n := Lib.hid (Srt.Inc.moved I2.out hm (by omega))
  have I1nn := Lib.hid (Srt.Inc.moved I1n.out hm (by omega))
  have R3 := Lib.hid hr
  have B3 := Lib.hid (B2.out.trans hb)
  have L3 := Lib.hid (show l3.length = 60 by rw [hm.len]; exact L2.out)
  clear hm hs hr hb HC
  go_wp2
  rw [rounds_succ]
  have HC := Lib.hid (insert_at l3 60 L3.out (by omega) g 60 60 c 60 60 rfl rfl (by omega) (by omega) w3 R3.out)
  go_wp2_with fail
  refine HC.out.mono ?_; rintro e w4 ⟨rfl, l4, hm, hs, hr, hb⟩
  have M4 := Lib.hid (M3.out.trans (hm.wide (Nat.zero_le _) (by omega)))
  have I4 := Lib.hid hs
  have I3n := Lib.hid (Srt.Inc.moved I3.out hm (by omega))
  have I2nn := Lib.hid (Srt.Inc.moved I2n.out hm (by omega))
  have I1nnn := Lib.hid (Srt.Inc.moved I1nn.out hm (by omega))
  have R4 := Lib.hid hr
  have B4 := Lib.hid (B3.out.trans hb)
  have L4 := Lib.hid (show l4.length = 60 by rw [hm.len]; exact L3.out)
  clear hm hs hr hb HC
  go_wp2
  refine wp_loop_rounds 4 ?_
  rw [rounds_succ]
  go_wp2
  refine wp_loop_rounds 4 ?_
  rw [rounds_succ]
  have HC := Lib.hid (merge_at l4 60 L4.out (by omega) g 0 20 40 c 0 20 40 rfl rfl rfl (by omega) (by omega) (by omega) I1nnn.out I2nn.out w4 R4.out)
  go_wp2_with fail
  refine HC.out.mono ?_; rintro e w5 ⟨rfl, l5, hm, hs, hr, hb⟩
  have M5 := Lib.hid (M4.out.trans (hm.wide (Nat.zero_le _) (by omega)))
  have I5 := Lib.hid hs
  have I4n := Lib.hid (Srt.Inc.moved I4.out hm (by omega))
  have I3nn := Lib.hid (Srt.Inc.moved I3n.out hm (by omega))
  have R5 := Lib.hid hr
  have B5 := Lib.hid (B4.out.trans hb)
  have L5 := Lib.hid (show l5.length = 60 by rw [hm.len]; exact L4.out)
  clear hm hs hr hb HC
  go_wp2
  rw [rounds_succ]
  go_wp2
  rw [rounds_succ]
  go_wp2
  refine wp_loop_rounds 4 ?_
  rw [rounds_succ]
  have HC := Lib.hid (merge_at l5 60 L5.out (by omega) g 0 40 60 c 0 40 60 rfl rfl rfl (by omega) (by omega) (by omega) I5.out I3nn.out w5 R5.out)
  go_wp2_with fail
  refine HC.out.mono ?_; rintro e w6 ⟨rfl, l6, hm, hs, hr, hb⟩
  have M6 := Lib.hid (M5.out.trans (hm.wide (Nat.zero_le _) (by omega)))
  have I6 := Lib.hid hs
  have I4nn := Lib.hid (Srt.Inc.moved I4n.out hm (by omega))
  have R6 := Lib.hid hr
  have B6 := Lib.hid (B5.out.trans hb)
  have L6 := Lib.hid (show l6.length = 60 by rw [hm.len]; exact L5.out)
  clear hm hs hr hb HC
  go_wp2
  rw [rounds_succ]
  go_wp2
  exact bodyPost_ret (v := .tuple #[]) (by simp [results, Tryd.results26, go_sem]) rfl ⟨rfl, l6, M6.out, I6.out, R6.out, B6.out⟩

theorem stable_any (l : List Vc) (hl : l.length ≤ 60) (g c : Nat) (w : World) (hR : Row w g l) :
    Calls Tryd.prog 26 #[.slice (some ⟨g, 0, none⟩) l.length c, .int .i64 l.length, cmpF] w (SrtG 0 l.length g l w) := by
  obtain ⟨N, hN⟩ : ∃ N, l.length = N := ⟨_, rfl⟩
  rw [hN] at hl
  rw [hN]
  rcases (show N < 20 ∨ N = 20 ∨ (20 < N ∧ N < 40) ∨ N = 40 ∨ (40 < N ∧ N < 60) ∨ N = 60 by omega) with h | h | ⟨h, h2⟩ | h | ⟨h, h2⟩ | h
  · exact stable_a l N hN h g c w hR
  · subst h; exact stable_b l hN g c w hR
  · exact stable_c l N hN h h2 g c w hR
  · subst h; exact stable_d l hN g c w hR
  · exact stable_e l N hN h h2 g c w hR
  · subst h; exact stable_f l hN g c w hR

set_option maxRecDepth 20000 in
set_option maxHeartbeats 4000000 in
theorem sortStable_any (l : List Vc) (hl : l.length ≤ 60) (g c : Nat) (w : World) (hR : Row w g l) :
    Calls Tryd.prog 18 #[.slice (some ⟨g, 0, none⟩) l.length c, cmpF] w (SrtG 0 l.length g l w) := by
  have HC := Lib.hid (stable_any l hl g c w hR)
  clear hR hl
  go_enter Tryd.func18, Tryd.ntmps18
  go_wp2_with fail
  refine HC.out.mono ?_; rintro e w1 ⟨rfl, l2, hm, hs, hr, hb⟩
  have HF : Hid (SrtG 0 l.length g l w (.returned (.tuple #[])) w1) := Lib.hid ⟨rfl, l2, hm, hs, hr, hb⟩
  clear hm hs hr hb
  go_wp2
  exact bodyPost_ret (v := .tuple #[]) (by simp [results, Tryd.results18, go_sem]) rfl HF.out

end Pre
end Go.Proofs.YtkggphonoihidaaDoor
