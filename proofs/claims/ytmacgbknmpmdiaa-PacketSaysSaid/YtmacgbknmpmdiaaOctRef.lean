/-
  What the document's own answers for layer 1 (package tipstaffref01) answer: the same as octet's functions, for every argument (texts up to a length that the theorem names).
-/
import Derived.Test.YtmacgbknmpmdiaaOct2
import Derived.Lib.MinMax
namespace Go.Proofs.Ytmacgbknmpmdiaa
open Go.RowKit
namespace Oct

set_option maxHeartbeats 400000 in
theorem rput_core (n : Nat) (hn : n < 18446744073709551616) (width : Int) (k : Nat) (hk : k ≤ 8) (hw : width < 0 ∧ k = 0 ∨ 0 ≤ width ∧ width ≤ 8 ∧ width = k ∨ 8 < width ∧ k = 8) (w : World) :
    Calls Try.prog 26 #[.int .u64 n, .int .i64 width] w fun e w' => e = .returned (.string ⟨(putL n k).toArray⟩) ∧ Below w.heap.size w w' := by
  obtain ⟨i0, hi, hz0, hz1, hz2⟩ := info_parts info5
  have e1 : max 0 (min width 8) = (k : Int) := by omega
  have E1 := Lib.hid e1
  clear e1 hw
  go_enter Try.func26, Try.ntmps26
  go_wp2_with (at_make; refine wpList_make_full _ rfl (.tmp 10) (.tmp 10) 56 rfl w.heap.size 5 i0 (.int .u8 0) 1 Try.underlying56 hi hz0 hz1 .i64 .i64 _ _ k rfl rfl ?h1 ?h2 ?h3 ?h4 (Nat.le_refl _) ?_)
  case h1 => have := E1.out; omega
  case h2 => have := E1.out; omega
  case h3 => rw [hz2]; omega
  case h4 => unfold maxLen; omega
  rw [made_zeros]
  intro w1 hown hgrow
  rw [E1.out]
  go_wp2
  go_loopw [0, 6] (fun nn i wr => ∃ (m j : Nat) (T : List UInt8), j ≤ k ∧ m < 18446744073709551616 ∧ nn = .int .u64 m ∧ i = .int .i64 ((j : Int) - 1) ∧ putL m j ++ T = putL n k ∧
    wr.ownsRow w.heap.size 5 1 (.slice (some ⟨w.heap.size, 0, none⟩) k k) k (bv (List.replicate j 0 ++ T)) ∧ Below w.heap.size w wr) (fun _ i _ => (intOf i + 1).toNat)
  case atStart => exact ⟨n, k, [], Nat.le_refl _, hn, rfl, rfl, by simp, by simpa using hown, Below.grown (Below.refl _ _) hgrow (Nat.le_refl _) (by simp)⟩
  case round =>
    obtain ⟨m, j, T, hj, hm, rfl, rfl, hT, ho, hb⟩ := hrel
    cases j with
    | zero =>
      simp only [putL, List.nil_append, List.replicate_zero] at hT ho
      subst hT
      have hcv := conv_back ho
      rw [show (((0 : Nat) : Int) - 1) = -1 from rfl]
      go_wp2
      go_ret
      exact ⟨rfl, hb⟩
    | succ j =>
      have HT := Lib.hid hT
      clear hT
      rw [show (((j + 1 : Nat) : Int) - 1) = (j : Int) by omega]
      have hfz := ho.frozenAt j
      have hcl : wr.cell? ⟨w.heap.size, j, none⟩ = some (.int .u8 0) := by rw [ho.cellAt j (by omega)]; simp [bv, List.getElem?_append]
      have hst := ho.stored j (.int .u8 ((m : Int) % 256))
      have Hst := Lib.hid hst
      clear hst
      go_wp2
      go_roundw
      case rel =>
        refine ⟨m / 256, j, UInt8.ofNat m :: T, by omega, by omega, by go_num, by go_num, ?_, ?_, ?_⟩
        · have := HT.out
          rw [← this, putL]; simp
        · have := Hst.out.1
          rw [← put_round, put_set] at this
          exact this
        · exact hb.grown Hst.out.2 hb.size (by simp)
      case measure => simp [intOf]

theorem rput_any (n : Nat) (hn : n < 18446744073709551616) (width : Int) (w : World) :
    Calls Try.prog 26 #[.int .u64 n, .int .i64 width] w fun e w' => e = .returned (.string ⟨(putL n (clampW width)).toArray⟩) ∧ Below w.heap.size w w' :=
  rput_core n hn width (clampW width) (clampW_le width) (by unfold clampW; omega) w

theorem cut_take (s : ByteArray) (a n k : Nat) (h : k < n) (h' : a + n ≤ s.size) : (s.extract a (a + n)).data.toList.take (k + 1) = (s.extract a (a + n)).data.toList.take k ++ [s[a + k]] := by
  have hz : k < (s.extract a (a + n)).size := by simp; omega
  rw [take_snoc _ k hz]
  congr 2
  exact ByteArray.getElem_extract ..

set_option maxHeartbeats 400000 in
theorem rget_any (s : ByteArray) (a width : Int) (w : World) (hs : s.size ≤ 9223372036854775807) :
    Calls Try.prog 28 #[.string s, .int .i64 a, .int .i64 width] w fun e w' => e = .returned (.tuple #[.int .u64 ((getR s a width).1 : Int), .int .i64 (getR s a width).2]) ∧ w = w' := by
  by_cases h1 : a < 0 ∨ (s.size : Int) < a ∨ width < 1 ∨ 8 < width
  · have e1 : getR s a width = (0, 1) := by
      unfold getR
      split
      · rfl
      · have e : cutE s.size a width = 1 := by unfold cutE; rw [if_pos (by omega)]
        rw [e]; rfl
    rw [e1]; clear e1
    rcases h1 with h1 | h1 | h1 | h1
    · go_enter Try.func28, Try.ntmps28
      go_wp2
      go_ret2
      exact ⟨rfl, rfl⟩
    all_goals
      by_cases g1 : a < 0
      · go_enter Try.func28, Try.ntmps28
        go_wp2
        go_ret2
        exact ⟨rfl, rfl⟩
      · by_cases g2 : (s.size : Int) < a
        · go_enter Try.func28, Try.ntmps28
          go_wp2
          go_ret2
          exact ⟨rfl, rfl⟩
        · go_enter Try.func28, Try.ntmps28
          go_wp2
          go_ret2
          exact ⟨rfl, rfl⟩
  · obtain ⟨A, rfl⟩ : ∃ A : Nat, a = A := ⟨a.toNat, by omega⟩
    obtain ⟨K, rfl⟩ : ∃ K : Nat, width = K := ⟨width.toNat, by omega⟩
    have h2 : A ≤ s.size := by omega
    have h3 : 1 ≤ K := by omega
    have h4 : K ≤ 8 := by omega
    clear h1
    by_cases h5 : (s.size : Int) - A < K
    · have e1 : getR s A K = (0, 2) := by
        unfold getR
        have e : cutE s.size A K = 2 := by unfold cutE; rw [if_neg (by omega), if_pos h5]
        rw [if_neg (by omega), e]; rfl
      rw [e1]; clear e1
      go_enter Try.func28, Try.ntmps28
      go_wp2
      go_ret2
      exact ⟨rfl, rfl⟩
    · have e0 : cutE s.size A K = 0 := cutE_zero.2 (by omega)
      have e1 : getR s A K = (getL 0 (s.extract A (A + K)).data.toList, 0) := by
        unfold getR
        rw [if_neg (by omega), if_neg (by simp [e0])]
        simp only [cutS, e0, if_true, Int.toNat_natCast]
        rw [show ((A : Int) + K).toNat = A + K by omega]
      rw [e1]; clear e1 e0
      go_enter Try.func28, Try.ntmps28
      go_wp2
      go_loop [8, 33] (fun n i => ∃ k : Nat, k ≤ K ∧ i = .int .i64 k ∧ n = .int .u64 (getL 0 ((s.extract A (A + K)).data.toList.take k) : Nat)) (fun _ i => K - (intOf i).toNat)
      case atStart => exact ⟨0, Nat.zero_le _, rfl, rfl⟩
      case round =>
        obtain ⟨k, hk, rfl, rfl⟩ := hrel
        by_cases hlt : k < K
        · have hg := getL_take_lt (s.extract A (A + K)) k (by omega)
          have hb := s[A + k].toNat_lt
          have HS := Lib.hid (cut_take s A K k hlt (by omega))
          have HL : Hid (getL 0 ((s.extract A (A + K)).data.toList.take (k + 1)) = getL 0 ((s.extract A (A + K)).data.toList.take k) * 256 + s[A + k].toNat) := Lib.hid (by rw [HS.out, getL_snoc])
          clear HS
          generalize getL 0 ((s.extract A (A + K)).data.toList.take k) = m at *
          go_wp2
          go_round
          case rel => exact ⟨k + 1, by omega, by go_num, by rw [HL.out, ← or_low m _ (by omega) hb]⟩
          case measure => simp [intOf]; omega
        · rw [List.take_of_length_le (by simp; omega)]
          go_wp2
          go_ret2
          exact ⟨rfl, rfl⟩

theorem runhex_cells (x : List UInt8) (a b : UInt8) (g0 : 0 ≤ unD a) (g1 : unD a ≤ 15) (h0 : 0 ≤ unD b) (h1 : unD b ≤ 15) :
    bv x ++ [Value.int .u8 (16 * unD a + unD b)] = bv (x ++ [UInt8.ofNat (16 * (unD a).toNat + (unD b).toNat)]) := by
  simp only [bv, List.map_append, List.map_cons, List.map_nil]
  congr 3
  simp
  omega

end Oct
end Go.Proofs.Ytmacgbknmpmdiaa
