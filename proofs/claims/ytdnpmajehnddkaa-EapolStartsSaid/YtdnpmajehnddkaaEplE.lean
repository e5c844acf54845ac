/-
  What eapol's functions Read, Start and Wrap, and the document's answers beside them, answer for every argument; and that they change nothing that was there.
-/
import Derived.Test.YtdnpmajehnddkaaEplD
namespace Go.Proofs.Ytdnpmajehnddkaa
open Go.RowKit
namespace Epl
open Oct Mac Eth

abbrev Epo.val (x : Epo) : Value := ep x.v x.t x.b

theorem extract_eq (s : ByteArray) (N : Nat) (h : 4 + N ≤ s.size) : cutE s.size 4 N = 0 ∧ cutS s 4 N = s.extract 4 (4 + N) := by
  have e : cutE s.size 4 N = 0 := by rw [cutE_zero]; omega
  refine ⟨e, ?_⟩
  unfold cutS
  rw [if_pos e]
  rfl

theorem cut_short (s : ByteArray) (N : Nat) (h4 : 4 ≤ s.size) (h : s.size < 4 + N) : cutE s.size 4 N = 2 := by
  unfold cutE
  rw [if_neg (by omega), if_pos (by omega)]

theorem read_any (s : ByteArray) (w : World) (hs : s.size ≤ 9223372036854775807) :
    Calls Try.prog 9 #[.string s] w fun e w' => e = .returned (.tuple #[(eVal s).val, .int .i64 (eErr s)]) ∧ Below w.heap.size w w' := by
  by_cases h4 : 4 ≤ s.size
  case neg =>
    have he : eErr s = 2 := by unfold eErr; rw [if_pos (by omega)]
    have hv : eVal s = zeroE := by unfold eVal; rw [if_pos (by rw [he]; decide)]
    rw [he, hv]
    exact read_short s w (by omega)
  have l0 := n1_lt s 0
  have l1 := n1_lt s 1
  have l2 := n2_lt s 2
  have q0 : s[0].toNat = n1 s 0 := (n1_at s 0 (by omega)).symm
  have q1 : s[1].toNat = n1 s 1 := (n1_at s 1 (by omega)).symm
  by_cases ht : 3 < n1 s 1
  · have he : eErr s = 10 := by unfold eErr; rw [if_neg (by omega), if_pos ht]
    have hv : eVal s = zeroE := by unfold eVal; rw [if_pos (by rw [he]; decide)]
    rw [he, hv]
    exact read_type s (n1 s 0) (n1 s 1) w h4 (by omega) q0 q1 l0 l1 ht 
  by_cases hN : 1024 < n2 s 2
  · have he : eErr s = 4 := by unfold eErr; rw [if_neg (by omega), if_neg ht, if_pos hN]
    have hv : eVal s = zeroE := by unfold eVal; rw [if_pos (by rw [he]; decide)]
    rw [he, hv]
    exact read_long s (n1 s 0) (n1 s 1) (n2 s 2) _ w h4 (by omega) q0 q1 l0 l1 (by omega) hN l2 (Lib.hid fun w => get_any s 2 2 w (by omega) (by omega))
  have HC := fun w => cut_any s 4 (n2 s 2) w (by omega) (by omega)
  by_cases hz : s.size < 4 + n2 s 2
  · have he : eErr s = 2 := by unfold eErr; rw [if_neg (by omega), if_neg ht, if_neg hN, if_pos hz]
    have hv : eVal s = zeroE := by unfold eVal; rw [if_pos (by rw [he]; decide)]
    rw [he, hv]
    rw [cut_short s (n2 s 2) h4 hz] at HC
    exact read_cut s (n1 s 0) (n1 s 1) (n2 s 2) _ _ _ w h4 (by omega) q0 q1 l0 l1 (by omega) (by omega) (by decide) (Lib.hid fun w => get_any s 2 2 w (by omega) (by omega)) (Lib.hid HC)
  obtain ⟨x1, x2⟩ := extract_eq s (n2 s 2) (by omega)
  rw [x1, x2] at HC
  by_cases t1 : n1 s 1 = 1
  · have HC := HC
    have HR := fun w => right_any (n1 s 0) (n1 s 1) ⟨#[]⟩ w (by first | exact Nat.zero_le _ | (rw [ByteArray.size_extract]; omega))
    by_cases h0 : n1 s 0 = 0
    · have hr : rightE (n1 s 0) (n1 s 1) ⟨#[]⟩ = false := by unfold rightE; rw [decide_eq_false_iff_not]; omega
      rw [hr] at HR
      have he : eErr s = 3 := by unfold eErr; rw [if_neg (by omega), if_neg (by omega), if_neg (by omega), if_neg (by omega), if_pos h0]
      have hv : eVal s = zeroE := by unfold eVal; rw [if_pos (by rw [he]; decide)]
      rw [he, hv]
      exact read_one0 s (n1 s 0) (n1 s 1) (n2 s 2) _ _ w h4 (by omega) q0 q1 l0 l1 (by omega) (by omega) (by simp; omega) (Lib.hid fun w => get_any s 2 2 w (by omega) (by omega)) (Lib.hid HC) (Lib.hid HR)
    · have he : eErr s = 0 := by unfold eErr; rw [if_neg (by omega), if_neg (by omega), if_neg (by omega), if_neg (by omega), if_neg h0]
      have hv : eVal s = ⟨n1 s 0, n1 s 1, ⟨#[]⟩⟩ := by unfold eVal; rw [if_neg (by simp [he]), if_pos (by omega)]
      have hr := eVal_right s he
      rw [hv] at hr
      rw [he, hv]
      rw [hr] at HR
      exact read_one s (n1 s 0) (n1 s 1) (n2 s 2) _ _ w h4 (by omega) q0 q1 l0 l1 (by omega) (by omega) (by simp; omega) (Lib.hid fun w => get_any s 2 2 w (by omega) (by omega)) (Lib.hid HC) (Lib.hid HR)
  by_cases t2 : n1 s 1 = 2
  · have HC := HC
    have HR := fun w => right_any (n1 s 0) (n1 s 1) ⟨#[]⟩ w (by first | exact Nat.zero_le _ | (rw [ByteArray.size_extract]; omega))
    by_cases h0 : n1 s 0 = 0
    · have hr : rightE (n1 s 0) (n1 s 1) ⟨#[]⟩ = false := by unfold rightE; rw [decide_eq_false_iff_not]; omega
      rw [hr] at HR
      have he : eErr s = 3 := by unfold eErr; rw [if_neg (by omega), if_neg (by omega), if_neg (by omega), if_neg (by omega), if_pos h0]
      have hv : eVal s = zeroE := by unfold eVal; rw [if_pos (by rw [he]; decide)]
      rw [he, hv]
      exact read_two0 s (n1 s 0) (n1 s 1) (n2 s 2) _ _ w h4 (by omega) q0 q1 l0 l1 (by omega) (by omega) (by simp; omega) (by simp; omega) (Lib.hid fun w => get_any s 2 2 w (by omega) (by omega)) (Lib.hid HC) (Lib.hid HR)
    · have he : eErr s = 0 := by unfold eErr; rw [if_neg (by omega), if_neg (by omega), if_neg (by omega), if_neg (by omega), if_neg h0]
      have hv : eVal s = ⟨n1 s 0, n1 s 1, ⟨#[]⟩⟩ := by unfold eVal; rw [if_neg (by simp [he]), if_pos (by omega)]
      have hr := eVal_right s he
      rw [hv] at hr
      rw [he, hv]
      rw [hr] at HR
      exact read_two s (n1 s 0) (n1 s 1) (n2 s 2) _ _ w h4 (by omega) q0 q1 l0 l1 (by omega) (by omega) (by simp; omega) (by simp; omega) (Lib.hid fun w => get_any s 2 2 w (by omega) (by omega)) (Lib.hid HC) (Lib.hid HR)
  · have HC := HC
    have HR := fun w => right_any (n1 s 0) (n1 s 1) (s.extract 4 (4 + n2 s 2)) w (by first | exact Nat.zero_le _ | (rw [ByteArray.size_extract]; omega))
    by_cases h0 : n1 s 0 = 0
    · have hr : rightE (n1 s 0) (n1 s 1) (s.extract 4 (4 + n2 s 2)) = false := by unfold rightE; rw [decide_eq_false_iff_not]; omega
      rw [hr] at HR
      have he : eErr s = 3 := by unfold eErr; rw [if_neg (by omega), if_neg (by omega), if_neg (by omega), if_neg (by omega), if_pos h0]
      have hv : eVal s = zeroE := by unfold eVal; rw [if_pos (by rw [he]; decide)]
      rw [he, hv]
      exact read_body0 s (n1 s 0) (n1 s 1) (n2 s 2) _ _ w h4 (by omega) q0 q1 l0 l1 (by omega) (by omega) (by simp; omega) (by simp; omega) (Lib.hid fun w => get_any s 2 2 w (by omega) (by omega)) (Lib.hid HC) (Lib.hid HR)
    · have he : eErr s = 0 := by unfold eErr; rw [if_neg (by omega), if_neg (by omega), if_neg (by omega), if_neg (by omega), if_neg h0]
      have hv : eVal s = ⟨n1 s 0, n1 s 1, (s.extract 4 (4 + n2 s 2))⟩ := by unfold eVal; rw [if_neg (by simp [he]), if_neg (by omega)]
      have hr := eVal_right s he
      rw [hv] at hr
      rw [he, hv]
      rw [hr] at HR
      exact read_body s (n1 s 0) (n1 s 1) (n2 s 2) _ _ w h4 (by omega) q0 q1 l0 l1 (by omega) (by omega) (by simp; omega) (by simp; omega) (Lib.hid fun w => get_any s 2 2 w (by omega) (by omega)) (Lib.hid HC) (Lib.hid HR)

theorem start_any (w : World) : Calls Try.prog 15 #[] w fun e w' => e = .returned (ep 1 1 ⟨#[]⟩) ∧ Below w.heap.size w w' := by
  go_enter Try.func15, Try.ntmps15
  go_wp2
  refine bodyPost_ret (v := ep 1 1 ⟨#[]⟩) ?_ rfl ⟨rfl, ?_⟩
  · simp [results, Try.results15, go_sem]
  · exact (Below.refl _ _).alloc (Nat.le_refl _) _

set_option maxHeartbeats 1000000 in
theorem wrap_wrong (x y : Int) (v t : Int) (b : ByteArray) (w : World)
    (HB : Hid (∀ w, Calls Try.prog 7 #[ep v t b] w fun e w' => e = .returned (.tuple #[.string ⟨#[]⟩, .int .i64 1]) ∧ Below w.heap.size w w')) :
    Calls Try.prog 11 #[.int .u64 x, .int .u64 y, ep v t b] w fun e w' => e = .returned (.tuple #[fr 0 0 false 0 0 0 ⟨#[]⟩, .int .i64 1]) ∧ Below w.heap.size w w' := by
  go_enter Try.func11, Try.ntmps11
  go_wp2_with fail
  refine (HB.out _).mono ?_; rintro e w1 ⟨rfl, hb1⟩
  obtain ⟨hc, hf⟩ := bcell hb1
  have hz1 : w.heap.size + 1 < w1.heap.size := by have := hb1.size; simp at this; omega
  have HS := cell_set
  go_wp2_with fail
  refine bodyPost_ret (v := .tuple #[fr 0 0 false 0 0 0 ⟨#[]⟩, .int .i64 1]) ?_ rfl ⟨rfl, ?_⟩
  · simp [results, Try.results11, go_sem, hc, HS]
  · iterate 7 refine Below.setCell ?_ (by simp) _
    exact then_below (box_below2 w _ _) hb1

set_option maxHeartbeats 1000000 in
theorem wrap_yes (x y : Int) (v t : Int) (b X : ByteArray) (w : World)
    (HB : Hid (∀ w, Calls Try.prog 7 #[ep v t b] w fun e w' => e = .returned (.tuple #[.string X, .int .i64 0]) ∧ Below w.heap.size w w'))
    (HR : Hid (∀ w, Calls Try.prog 23 #[fr y x false 0 0 34958 X] w fun e w' => e = .returned (.bool true) ∧ Below w.heap.size w w')) :
    Calls Try.prog 11 #[.int .u64 x, .int .u64 y, ep v t b] w fun e w' => e = .returned (.tuple #[fr y x false 0 0 34958 X, .int .i64 0]) ∧ Below w.heap.size w w' := by
  go_enter Try.func11, Try.ntmps11
  go_wp2_with fail
  refine (HB.out _).mono ?_; rintro e w1 ⟨rfl, hb1⟩
  obtain ⟨hc, hf⟩ := bcell hb1
  have hz1 : w.heap.size + 1 < w1.heap.size := by have := hb1.size; simp at this; omega
  have HS := cell_set
  go_wp2_with fail
  refine (HR.out _).mono ?_; rintro e w2 ⟨rfl, hb2⟩
  obtain ⟨hc2, hf2⟩ := bcell hb2
  have hz2 : w1.heap.size < w2.heap.size := by have := hb2.size; simp at this; omega
  have hz3 : w.heap.size < w1.heap.size := by omega
  have HR2 : Has w2 (w.heap.size + 1) 0 0 false 0 0 0 ⟨#[]⟩ := by
    have h := Has.alloc (w.alloc (Obj.cells #[Value.int IntKind.i64 v, Value.int IntKind.i64 t, Value.string b] 23)) 0 0 false 0 0 0 ⟨#[]⟩
    rw [World.size_alloc] at h
    exact ((h.keep hb1).more _).keep hb2
  obtain ⟨r0, r1, r2, r3, r4, r5, r6⟩ := HR2
  go_wp2_with fail
  refine bodyPost_ret (v := .tuple #[fr y x false 0 0 34958 X, .int .i64 0]) ?_ rfl ⟨rfl, ?_⟩
  · simp [results, Try.results11, go_sem, HS, r0, r1, r2, r3, r4, r5, r6]
  · iterate 7 refine Below.setCell ?_ (by simp) _
    exact then_below (then_below (then_below (box_below2 w _ _) hb1) (box_below w1 _)) hb2

set_option maxHeartbeats 1000000 in
theorem wrap_no (x y : Int) (v t : Int) (b X : ByteArray) (w : World)
    (HB : Hid (∀ w, Calls Try.prog 7 #[ep v t b] w fun e w' => e = .returned (.tuple #[.string X, .int .i64 0]) ∧ Below w.heap.size w w'))
    (HR : Hid (∀ w, Calls Try.prog 23 #[fr y x false 0 0 34958 X] w fun e w' => e = .returned (.bool false) ∧ Below w.heap.size w w')) :
    Calls Try.prog 11 #[.int .u64 x, .int .u64 y, ep v t b] w fun e w' => e = .returned (.tuple #[fr 0 0 false 0 0 0 ⟨#[]⟩, .int .i64 1]) ∧ Below w.heap.size w w' := by
  go_enter Try.func11, Try.ntmps11
  go_wp2_with fail
  refine (HB.out _).mono ?_; rintro e w1 ⟨rfl, hb1⟩
  obtain ⟨hc, hf⟩ := bcell hb1
  have hz1 : w.heap.size + 1 < w1.heap.size := by have := hb1.size; simp at this; omega
  have HS := cell_set
  go_wp2_with fail
  refine (HR.out _).mono ?_; rintro e w2 ⟨rfl, hb2⟩
  obtain ⟨hc2, hf2⟩ := bcell hb2
  have hz2 : w1.heap.size < w2.heap.size := by have := hb2.size; simp at this; omega
  have hz3 : w.heap.size < w1.heap.size := by omega
  have HR2 : Has w2 (w.heap.size + 1) 0 0 false 0 0 0 ⟨#[]⟩ := by
    have h := Has.alloc (w.alloc (Obj.cells #[Value.int IntKind.i64 v, Value.int IntKind.i64 t, Value.string b] 23)) 0 0 false 0 0 0 ⟨#[]⟩
    rw [World.size_alloc] at h
    exact ((h.keep hb1).more _).keep hb2
  obtain ⟨r0, r1, r2, r3, r4, r5, r6⟩ := HR2
  go_wp2_with fail
  refine bodyPost_ret (v := .tuple #[fr 0 0 false 0 0 0 ⟨#[]⟩, .int .i64 1]) ?_ rfl ⟨rfl, ?_⟩
  · simp [results, Try.results11, go_sem, HS, r0, r1, r2, r3, r4, r5, r6]
  · iterate 7 refine Below.setCell ?_ (by simp) _
    exact then_below (then_below (then_below (box_below2 w _ _) hb1) (box_below w1 _)) hb2

theorem rread_any (s : ByteArray) (w : World) (hs : s.size ≤ 9223372036854775807) :
    Calls Try.prog 10 #[.string s] w fun e w' => e = .returned (.tuple #[(eVal s).val, .int .i64 (eErr s)]) ∧ Below w.heap.size w w' := by
  by_cases h4 : 4 ≤ s.size
  case neg =>
    have he : eErr s = 2 := by unfold eErr; rw [if_pos (by omega)]
    have hv : eVal s = zeroE := by unfold eVal; rw [if_pos (by rw [he]; decide)]
    rw [he, hv]
    exact rread_short s w (by omega)
  have l0 := n1_lt s 0
  have l1 := n1_lt s 1
  have l2 := n2_lt s 2
  by_cases ht : 3 < n1 s 1
  · have he : eErr s = 10 := by unfold eErr; rw [if_neg (by omega), if_pos ht]
    have hv : eVal s = zeroE := by unfold eVal; rw [if_pos (by rw [he]; decide)]
    rw [he, hv]
    exact rread_type s (n1 s 0) (n1 s 1) (n2 s 2) _ _ _ w h4 (by omega) l0 l1 l2 ht (Lib.hid fun w => rget_any s 0 1 w (by omega)) (Lib.hid fun w => rget_any s 1 1 w (by omega)) (Lib.hid fun w => rget_any s 2 2 w (by omega)) 
  by_cases hN : 1024 < n2 s 2
  · have he : eErr s = 4 := by unfold eErr; rw [if_neg (by omega), if_neg ht, if_pos hN]
    have hv : eVal s = zeroE := by unfold eVal; rw [if_pos (by rw [he]; decide)]
    rw [he, hv]
    exact rread_long s (n1 s 0) (n1 s 1) (n2 s 2) _ _ _ w h4 (by omega) l0 l1 l2 (by omega) hN (Lib.hid fun w => rget_any s 0 1 w (by omega)) (Lib.hid fun w => rget_any s 1 1 w (by omega)) (Lib.hid fun w => rget_any s 2 2 w (by omega)) 
  have HC := fun w => rcut_any s 4 (n2 s 2) w (by omega) (by omega)
  by_cases hz : s.size < 4 + n2 s 2
  · have he : eErr s = 2 := by unfold eErr; rw [if_neg (by omega), if_neg ht, if_neg hN, if_pos hz]
    have hv : eVal s = zeroE := by unfold eVal; rw [if_pos (by rw [he]; decide)]
    rw [he, hv]
    rw [cut_short s (n2 s 2) h4 hz] at HC
    exact rread_cut s (n1 s 0) (n1 s 1) (n2 s 2) _ _ _ _ w h4 (by omega) l0 l1 l2 (by omega) (by omega) (Lib.hid fun w => rget_any s 0 1 w (by omega)) (Lib.hid fun w => rget_any s 1 1 w (by omega)) (Lib.hid fun w => rget_any s 2 2 w (by omega)) (Lib.hid HC)
  obtain ⟨x1, x2⟩ := extract_eq s (n2 s 2) (by omega)
  rw [x1, x2] at HC
  by_cases t1 : n1 s 1 = 1
  · have HC := HC
    have HR := fun w => rright_any (n1 s 0) (n1 s 1) ⟨#[]⟩ w (by first | exact Nat.zero_le _ | (rw [ByteArray.size_extract]; omega))
    by_cases h0 : n1 s 0 = 0
    · have hr : rightE (n1 s 0) (n1 s 1) ⟨#[]⟩ = false := by unfold rightE; rw [decide_eq_false_iff_not]; omega
      rw [hr] at HR
      have he : eErr s = 3 := by unfold eErr; rw [if_neg (by omega), if_neg (by omega), if_neg (by omega), if_neg (by omega), if_pos h0]
      have hv : eVal s = zeroE := by unfold eVal; rw [if_pos (by rw [he]; decide)]
      rw [he, hv]
      exact rread_one0 s (n1 s 0) (n1 s 1) (n2 s 2) _ _ _ _ w h4 (by omega) l0 l1 l2 (by omega) (by omega) (by simp; omega) (Lib.hid fun w => rget_any s 0 1 w (by omega)) (Lib.hid fun w => rget_any s 1 1 w (by omega)) (Lib.hid fun w => rget_any s 2 2 w (by omega)) (Lib.hid HC) (Lib.hid HR)
    · have he : eErr s = 0 := by unfold eErr; rw [if_neg (by omega), if_neg (by omega), if_neg (by omega), if_neg (by omega), if_neg h0]
      have hv : eVal s = ⟨n1 s 0, n1 s 1, ⟨#[]⟩⟩ := by unfold eVal; rw [if_neg (by simp [he]), if_pos (by omega)]
      have hr := eVal_right s he
      rw [hv] at hr
      rw [he, hv]
      rw [hr] at HR
      exact rread_one s (n1 s 0) (n1 s 1) (n2 s 2) _ _ _ _ w h4 (by omega) l0 l1 l2 (by omega) (by omega) (by simp; omega) (Lib.hid fun w => rget_any s 0 1 w (by omega)) (Lib.hid fun w => rget_any s 1 1 w (by omega)) (Lib.hid fun w => rget_any s 2 2 w (by omega)) (Lib.hid HC) (Lib.hid HR)
  by_cases t2 : n1 s 1 = 2
  · have HC := HC
    have HR := fun w => rright_any (n1 s 0) (n1 s 1) ⟨#[]⟩ w (by first | exact Nat.zero_le _ | (rw [ByteArray.size_extract]; omega))
    by_cases h0 : n1 s 0 = 0
    · have hr : rightE (n1 s 0) (n1 s 1) ⟨#[]⟩ = false := by unfold rightE; rw [decide_eq_false_iff_not]; omega
      rw [hr] at HR
      have he : eErr s = 3 := by unfold eErr; rw [if_neg (by omega), if_neg (by omega), if_neg (by omega), if_neg (by omega), if_pos h0]
      have hv : eVal s = zeroE := by unfold eVal; rw [if_pos (by rw [he]; decide)]
      rw [he, hv]
      exact rread_two0 s (n1 s 0) (n1 s 1) (n2 s 2) _ _ _ _ w h4 (by omega) l0 l1 l2 (by omega) (by omega) (by simp; omega) (by simp; omega) (Lib.hid fun w => rget_any s 0 1 w (by omega)) (Lib.hid fun w => rget_any s 1 1 w (by omega)) (Lib.hid fun w => rget_any s 2 2 w (by omega)) (Lib.hid HC) (Lib.hid HR)
    · have he : eErr s = 0 := by unfold eErr; rw [if_neg (by omega), if_neg (by omega), if_neg (by omega), if_neg (by omega), if_neg h0]
      have hv : eVal s = ⟨n1 s 0, n1 s 1, ⟨#[]⟩⟩ := by unfold eVal; rw [if_neg (by simp [he]), if_pos (by omega)]
      have hr := eVal_right s he
      rw [hv] at hr
      rw [he, hv]
      rw [hr] at HR
      exact rread_two s (n1 s 0) (n1 s 1) (n2 s 2) _ _ _ _ w h4 (by omega) l0 l1 l2 (by omega) (by omega) (by simp; omega) (by simp; omega) (Lib.hid fun w => rget_any s 0 1 w (by omega)) (Lib.hid fun w => rget_any s 1 1 w (by omega)) (Lib.hid fun w => rget_any s 2 2 w (by omega)) (Lib.hid HC) (Lib.hid HR)
  · have HC := HC
    have HR := fun w => rright_any (n1 s 0) (n1 s 1) (s.extract 4 (4 + n2 s 2)) w (by first | exact Nat.zero_le _ | (rw [ByteArray.size_extract]; omega))
    by_cases h0 : n1 s 0 = 0
    · have hr : rightE (n1 s 0) (n1 s 1) (s.extract 4 (4 + n2 s 2)) = false := by unfold rightE; rw [decide_eq_false_iff_not]; omega
      rw [hr] at HR
      have he : eErr s = 3 := by unfold eErr; rw [if_neg (by omega), if_neg (by omega), if_neg (by omega), if_neg (by omega), if_pos h0]
      have hv : eVal s = zeroE := by unfold eVal; rw [if_pos (by rw [he]; decide)]
      rw [he, hv]
      exact rread_body0 s (n1 s 0) (n1 s 1) (n2 s 2) _ _ _ _ w h4 (by omega) l0 l1 l2 (by omega) (by omega) (by simp; omega) (by simp; omega) (Lib.hid fun w => rget_any s 0 1 w (by omega)) (Lib.hid fun w => rget_any s 1 1 w (by omega)) (Lib.hid fun w => rget_any s 2 2 w (by omega)) (Lib.hid HC) (Lib.hid HR)
    · have he : eErr s = 0 := by unfold eErr; rw [if_neg (by omega), if_neg (by omega), if_neg (by omega), if_neg (by omega), if_neg h0]
      have hv : eVal s = ⟨n1 s 0, n1 s 1, (s.extract 4 (4 + n2 s 2))⟩ := by unfold eVal; rw [if_neg (by simp [he]), if_neg (by omega)]
      have hr := eVal_right s he
      rw [hv] at hr
      rw [he, hv]
      rw [hr] at HR
      exact rread_body s (n1 s 0) (n1 s 1) (n2 s 2) _ _ _ _ w h4 (by omega) l0 l1 l2 (by omega) (by omega) (by simp; omega) (by simp; omega) (Lib.hid fun w => rget_any s 0 1 w (by omega)) (Lib.hid fun w => rget_any s 1 1 w (by omega)) (Lib.hid fun w => rget_any s 2 2 w (by omega)) (Lib.hid HC) (Lib.hid HR)

theorem rstart_any (w : World) : Calls Try.prog 16 #[] w fun e w' => e = .returned (ep 1 1 ⟨#[]⟩) ∧ Below w.heap.size w w' := by
  go_enter Try.func16, Try.ntmps16
  go_wp2
  refine bodyPost_ret (v := ep 1 1 ⟨#[]⟩) ?_ rfl ⟨rfl, ?_⟩
  · simp [results, Try.results16, go_sem]
  · exact (Below.refl _ _).alloc (Nat.le_refl _) _

set_option maxHeartbeats 1000000 in
theorem rwrap_wrong (x y : Int) (v t : Int) (b : ByteArray) (w : World)
    (HB : Hid (∀ w, Calls Try.prog 8 #[ep v t b] w fun e w' => e = .returned (.tuple #[.string ⟨#[]⟩, .int .i64 1]) ∧ Below w.heap.size w w')) :
    Calls Try.prog 12 #[.int .u64 x, .int .u64 y, ep v t b] w fun e w' => e = .returned (.tuple #[fr 0 0 false 0 0 0 ⟨#[]⟩, .int .i64 1]) ∧ Below w.heap.size w w' := by
  go_enter Try.func12, Try.ntmps12
  go_wp2_with fail
  refine (HB.out _).mono ?_; rintro e w1 ⟨rfl, hb1⟩
  obtain ⟨hc, hf⟩ := bcell hb1
  have hz1 : w.heap.size + 1 < w1.heap.size := by have := hb1.size; simp at this; omega
  have HS := cell_set
  go_wp2_with fail
  refine bodyPost_ret (v := .tuple #[fr 0 0 false 0 0 0 ⟨#[]⟩, .int .i64 1]) ?_ rfl ⟨rfl, ?_⟩
  · simp [results, Try.results12, go_sem, hc, HS]
  · iterate 7 refine Below.setCell ?_ (by simp) _
    exact then_below (box_below2 w _ _) hb1

set_option maxHeartbeats 1000000 in
theorem rwrap_yes (x y : Int) (v t : Int) (b X : ByteArray) (w : World)
    (HB : Hid (∀ w, Calls Try.prog 8 #[ep v t b] w fun e w' => e = .returned (.tuple #[.string X, .int .i64 0]) ∧ Below w.heap.size w w'))
    (HR : Hid (∀ w, Calls Try.prog 24 #[fr y x false 0 0 34958 X] w fun e w' => e = .returned (.bool true) ∧ Below w.heap.size w w')) :
    Calls Try.prog 12 #[.int .u64 x, .int .u64 y, ep v t b] w fun e w' => e = .returned (.tuple #[fr y x false 0 0 34958 X, .int .i64 0]) ∧ Below w.heap.size w w' := by
  go_enter Try.func12, Try.ntmps12
  go_wp2_with fail
  refine (HB.out _).mono ?_; rintro e w1 ⟨rfl, hb1⟩
  obtain ⟨hc, hf⟩ := bcell hb1
  have hz1 : w.heap.size + 1 < w1.heap.size := by have := hb1.size; simp at this; omega
  have HS := cell_set
  go_wp2_with fail
  refine (HR.out _).mono ?_; rintro e w2 ⟨rfl, hb2⟩
  obtain ⟨hc2, hf2⟩ := bcell hb2
  have hz2 : w1.heap.size < w2.heap.size := by have := hb2.size; simp at this; omega
  have hz3 : w.heap.size < w1.heap.size := by omega
  have HR2 : Has w2 (w.heap.size + 1) 0 0 false 0 0 0 ⟨#[]⟩ := by
    have h := Has.alloc (w.alloc (Obj.cells #[Value.int IntKind.i64 v, Value.int IntKind.i64 t, Value.string b] 23)) 0 0 false 0 0 0 ⟨#[]⟩
    rw [World.size_alloc] at h
    exact ((h.keep hb1).more _).keep hb2
  obtain ⟨r0, r1, r2, r3, r4, r5, r6⟩ := HR2
  go_wp2_with fail
  refine bodyPost_ret (v := .tuple #[fr y x false 0 0 34958 X, .int .i64 0]) ?_ rfl ⟨rfl, ?_⟩
  · simp [results, Try.results12, go_sem, HS, r0, r1, r2, r3, r4, r5, r6]
  · iterate 7 refine Below.setCell ?_ (by simp) _
    exact then_below (then_below (then_below (box_below2 w _ _) hb1) (box_below w1 _)) hb2

set_option maxHeartbeats 1000000 in
theorem rwrap_no (x y : Int) (v t : Int) (b X : ByteArray) (w : World)
    (HB : Hid (∀ w, Calls Try.prog 8 #[ep v t b] w fun e w' => e = .returned (.tuple #[.string X, .int .i64 0]) ∧ Below w.heap.size w w'))
    (HR : Hid (∀ w, Calls Try.prog 24 #[fr y x false 0 0 34958 X] w fun e w' => e = .returned (.bool false) ∧ Below w.heap.size w w')) :
    Calls Try.prog 12 #[.int .u64 x, .int .u64 y, ep v t b] w fun e w' => e = .returned (.tuple #[fr 0 0 false 0 0 0 ⟨#[]⟩, .int .i64 1]) ∧ Below w.heap.size w w' := by
  go_enter Try.func12, Try.ntmps12
  go_wp2_with fail
  refine (HB.out _).mono ?_; rintro e w1 ⟨rfl, hb1⟩
  obtain ⟨hc, hf⟩ := bcell hb1
  have hz1 : w.heap.size + 1 < w1.heap.size := by have := hb1.size; simp at this; omega
  have HS := cell_set
  go_wp2_with fail
  refine (HR.out _).mono ?_; rintro e w2 ⟨rfl, hb2⟩
  obtain ⟨hc2, hf2⟩ := bcell hb2
  have hz2 : w1.heap.size < w2.heap.size := by have := hb2.size; simp at this; omega
  have hz3 : w.heap.size < w1.heap.size := by omega
  have HR2 : Has w2 (w.heap.size + 1) 0 0 false 0 0 0 ⟨#[]⟩ := by
    have h := Has.alloc (w.alloc (Obj.cells #[Value.int IntKind.i64 v, Value.int IntKind.i64 t, Value.string b] 23)) 0 0 false 0 0 0 ⟨#[]⟩
    rw [World.size_alloc] at h
    exact ((h.keep hb1).more _).keep hb2
  obtain ⟨r0, r1, r2, r3, r4, r5, r6⟩ := HR2
  go_wp2_with fail
  refine bodyPost_ret (v := .tuple #[fr 0 0 false 0 0 0 ⟨#[]⟩, .int .i64 1]) ?_ rfl ⟨rfl, ?_⟩
  · simp [results, Try.results12, go_sem, HS, r0, r1, r2, r3, r4, r5, r6]
  · iterate 7 refine Below.setCell ?_ (by simp) _
    exact then_below (then_below (then_below (box_below2 w _ _) hb1) (box_below w1 _)) hb2

/-- What Wrap answers. -/
def wErr (x y : Nat) (v t : Int) (b : ByteArray) : Int := if rightE v t b = true ∧ x < 281474976710656 ∧ y < 281474976710656 then 0 else 1
def wVal (x y : Nat) (v t : Int) (b : ByteArray) : Value := if rightE v t b = true ∧ x < 281474976710656 ∧ y < 281474976710656 then fr y x false 0 0 34958 (wireE v.toNat t.toNat b) else fr 0 0 false 0 0 0 ⟨#[]⟩

theorem wrap_any (x y : Nat) (v t : Int) (b : ByteArray) (w : World) (hb : b.size ≤ 9223372036854775807) :
    Calls Try.prog 11 #[.int .u64 x, .int .u64 y, ep v t b] w fun e w' => e = .returned (.tuple #[wVal x y v t b, .int .i64 (wErr x y v t b)]) ∧ Below w.heap.size w w' := by
  have HB := fun w => bytes_any v t b w hb
  unfold bTxt bErr at HB
  unfold wVal wErr
  cases hr : rightE v t b
  · rw [hr] at HB
    rw [if_neg (by simp), if_neg (by simp)]
    exact wrap_wrong x y v t b w (Lib.hid HB)
  · rw [hr] at HB
    simp only [if_true] at HB
    obtain ⟨a, c, rfl, rfl, h1, h2, h3, h4⟩ := nats v t b hr
    have hw := wireE_size a c b
    simp only [Int.toNat_natCast] at HB ⊢
    have HR := fun w => Eth.right_any y x false 0 0 34958 (wireE a c b) w (by omega)
    have hq : rightF y x false 0 0 34958 (wireE a c b) = decide (x < 281474976710656 ∧ y < 281474976710656) := by
      unfold rightF
      rw [decide_eq_decide]
      simp
      omega
    rw [hq] at HR
    by_cases hm : x < 281474976710656 ∧ y < 281474976710656
    · rw [decide_eq_true hm] at HR
      rw [if_pos ⟨trivial, hm⟩, if_pos ⟨trivial, hm⟩]
      exact wrap_yes x y a c b _ w (Lib.hid HB) (Lib.hid HR)
    · rw [decide_eq_false hm] at HR
      rw [if_neg (fun h => hm h.2), if_neg (fun h => hm h.2)]
      exact wrap_no x y a c b _ w (Lib.hid HB) (Lib.hid HR)

theorem rwrap_any (x y : Nat) (v t : Int) (b : ByteArray) (w : World) (hb : b.size ≤ 9223372036854775807) :
    Calls Try.prog 12 #[.int .u64 x, .int .u64 y, ep v t b] w fun e w' => e = .returned (.tuple #[wVal x y v t b, .int .i64 (wErr x y v t b)]) ∧ Below w.heap.size w w' := by
  have HB := fun w => rbytes_any v t b w hb
  unfold bTxt bErr at HB
  unfold wVal wErr
  cases hr : rightE v t b
  · rw [hr] at HB
    rw [if_neg (by simp), if_neg (by simp)]
    exact rwrap_wrong x y v t b w (Lib.hid HB)
  · rw [hr] at HB
    simp only [if_true] at HB
    obtain ⟨a, c, rfl, rfl, h1, h2, h3, h4⟩ := nats v t b hr
    have hw := wireE_size a c b
    simp only [Int.toNat_natCast] at HB ⊢
    have HR := fun w => Eth.rright_any y x false 0 0 34958 (wireE a c b) w (by omega)
    have hq : rightF y x false 0 0 34958 (wireE a c b) = decide (x < 281474976710656 ∧ y < 281474976710656) := by
      unfold rightF
      rw [decide_eq_decide]
      simp
      omega
    rw [hq] at HR
    by_cases hm : x < 281474976710656 ∧ y < 281474976710656
    · rw [decide_eq_true hm] at HR
      rw [if_pos ⟨trivial, hm⟩, if_pos ⟨trivial, hm⟩]
      exact rwrap_yes x y a c b _ w (Lib.hid HB) (Lib.hid HR)
    · rw [decide_eq_false hm] at HR
      rw [if_neg (fun h => hm h.2), if_neg (fun h => hm h.2)]
      exact rwrap_no x y a c b _ w (Lib.hid HB) (Lib.hid HR)

end Epl
end Go.Proofs.Ytdnpmajehnddkaa
