/-
  What the document's own answers for layer 1 (package tipstaffref01) answer: the same as octet's functions, for every argument (texts up to a length that the theorem names).
-/
import Derived.Test.YtjljfigppbahfaaDoorOct2
namespace Go.Proofs.YtjljfigppbahfaaDoor
open Go.RowKit
namespace Oct

set_option maxHeartbeats 400000 in
theorem rput_core (n : Nat) (hn : n < 18446744073709551616) (width : Int) (k : Nat) (hk : k ≤ 8) (hw : width < 0 ∧ k = 0 ∨ 0 ≤ width ∧ width ≤ 8 ∧ width = k ∨ 8 < width ∧ k = 8) (w : World) :
    Calls Tryd.prog 34 #[.int .u64 n, .int .i64 width] w fun e w' => e = .returned (.string ⟨(putL n k).toArray⟩) ∧ Below w.heap.size w w' := by
  obtain ⟨i0, hi, hz0, hz1, hz2⟩ := info_parts info5
  have e1 : max 0 (min width 8) = (k : Int) := by omega
  have E1 := Lib.hid e1
  clear e1 hw
  go_enter Tryd.func34, Tryd.ntmps34
  go_wp2_with (at_make; refine wpList_make_full _ rfl (.tmp 10) (.tmp 10) 48 rfl w.heap.size 5 i0 (.int .u8 0) 1 Tryd.underlying48 hi hz0 hz1 .i64 .i64 _ _ k rfl rfl ?h1 ?h2 ?h3 ?h4 (Nat.le_refl _) ?_)
  case h1 => have := E1.out; omega
  case h2 => have := E1.out; omega
  case h3 => rw [hz2]; omega
  case h4 => unfold maxLen; omega
  rw [made_zeros]
  intro w1 hown hgrow
  rw [E1.out]
  go_wp2
  go_loopw [0, 6] (fun nn i wr => ∃ (m j : Nat) (T : List UInt8), j ≤ k ∧ m < 18446744073709551616 ∧ nn = .int .u64 m ∧ i = .int .i64 ((j : Int) - 1) ∧ putL m j ++ T = putL n k ∧
    wr.ownsRow w.heap.size 5 1 (.slice (some ⟨w.heap.size, 0, none⟩) k k) k (bv (List.replicate j 0 ++ T)) ∧ Below w.heap.size w wr) (fun _ i _ => (intOf i + 1).toNat)
  case atStart => exact ⟨n, k, [], Nat.le_refl _, hn, rfl, rfl, by simp, by simpa using hown, Below.grown (Below.refl _ _) hgrow (Nat.le_refl _) (by simp)⟩
  case round =>
    obtain ⟨m, j, T, hj, hm, rfl, rfl, hT, ho, hb⟩ := hrel
    cases j with
    | zero =>
      simp only [putL, List.nil_append, List.replicate_zero] at hT ho
      subst hT
      have hcv := conv_back ho
      rw [show (((0 : Nat) : Int) - 1) = -1 from rfl]
      go_wp2
      go_ret
      exact ⟨rfl, hb⟩
    | succ j =>
      have HT := Lib.hid hT
      clear hT
      rw [show (((j + 1 : Nat) : Int) - 1) = (j : Int) by omega]
      have hfz := ho.frozenAt j
      have hcl : wr.cell? ⟨w.heap.size, j, none⟩ = some (.int .u8 0) := by rw [ho.cellAt j (by omega)]; simp [bv, List.getElem?_append]
      have hst := ho.stored j (.int .u8 ((m : Int) % 256))
      have Hst := Lib.hid hst
      clear hst
      go_wp2
      go_roundw
      case rel =>
        refine ⟨m / 256, j, UInt8.ofNat m :: T, by omega, by omega, by go_num, by go_num, ?_, ?_, ?_⟩
        · have := HT.out
          rw [← this, putL]; simp
        · have := Hst.out.1
          rw [← put_round, put_set] at this
          exact this
        · exact hb.grown Hst.out.2 hb.size (by simp)
      case measure => simp [intOf]

theorem rput_any (n : Nat) (hn : n < 18446744073709551616) (width : Int) (w : World) :
    Calls Tryd.prog 34 #[.int .u64 n, .int .i64 width] w fun e w' => e = .returned (.string ⟨(putL n (clampW width)).toArray⟩) ∧ Below w.heap.size w w' :=
  rput_core n hn width (clampW width) (clampW_le width) (by unfold clampW; omega) w

theorem cut_take (s : ByteArray) (a n k : Nat) (h : k < n) (h' : a + n ≤ s.size) : (s.extract a (a + n)).data.toList.take (k + 1) = (s.extract a (a + n)).data.toList.take k ++ [s[a + k]] := by
  have hz : k < (s.extract a (a + n)).size := by simp; omega
  rw [take_snoc _ k hz]
  congr 2
  exact ByteArray.getElem_extract ..

set_option maxHeartbeats 400000 in
theorem rget_any (s : ByteArray) (a width : Int) (w : World) (hs : s.size ≤ 9223372036854775807) :
    Calls Tryd.prog 32 #[.string s, .int .i64 a, .int .i64 width] w fun e w' => e = .returned (.tuple #[.int .u64 ((getR s a width).1 : Int), .int .i64 (getR s a width).2]) ∧ w = w' := by
  by_cases h1 : a < 0 ∨ (s.size : Int) < a ∨ width < 1 ∨ 8 < width
  · have e1 : getR s a width = (0, 1) := by
      unfold getR
      split
      · rfl
      · have e : cutE s.size a width = 1 := by unfold cutE; rw [if_pos (by omega)]
        rw [e]; rfl
    rw [e1]; clear e1
    rcases h1 with h1 | h1 | h1 | h1
    · go_enter Tryd.func32, Tryd.ntmps32
      go_wp2
      go_ret2
      exact ⟨rfl, rfl⟩
    all_goals
      by_cases g1 : a < 0
      · go_enter Tryd.func32, Tryd.ntmps32
        go_wp2
        go_ret2
        exact ⟨rfl, rfl⟩
      · by_cases g2 : (s.size : Int) < a
        · go_enter Tryd.func32, Tryd.ntmps32
          go_wp2
          go_ret2
          exact ⟨rfl, rfl⟩
        · go_enter Tryd.func32, Tryd.ntmps32
          go_wp2
          go_ret2
          exact ⟨rfl, rfl⟩
  · obtain ⟨A, rfl⟩ : ∃ A : Nat, a = A := ⟨a.toNat, by omega⟩
    obtain ⟨K, rfl⟩ : ∃ K : Nat, width = K := ⟨width.toNat, by omega⟩
    have h2 : A ≤ s.size := by omega
    have h3 : 1 ≤ K := by omega
    have h4 : K ≤ 8 := by omega
    clear h1
    by_cases h5 : (s.size : Int) - A < K
    · have e1 : getR s A K = (0, 2) := by
        unfold getR
        have e : cutE s.size A K = 2 := by unfold cutE; rw [if_neg (by omega), if_pos h5]
        rw [if_neg (by omega), e]; rfl
      rw [e1]; clear e1
      go_enter Tryd.func32, Tryd.ntmps32
      go_wp2
      go_ret2
      exact ⟨rfl, rfl⟩
    · have e0 : cutE s.size A K = 0 := cutE_zero.2 (by omega)
      have e1 : getR s A K = (getL 0 (s.extract A (A + K)).data.toList, 0) := by
        unfold getR
        rw [if_neg (by omega), if_neg (by simp [e0])]
        simp only [cutS, e0, if_true, Int.toNat_natCast]
        rw [show ((A : Int) + K).toNat = A + K by omega]
      rw [e1]; clear e1 e0
      go_enter Tryd.func32, Tryd.ntmps32
      go_wp2
      go_loop [8, 33] (fun n i => ∃ k : Nat, k ≤ K ∧ i = .int .i64 k ∧ n = .int .u64 (getL 0 ((s.extract A (A + K)).data.toList.take k) : Nat)) (fun _ i => K - (intOf i).toNat)
      case atStart => exact ⟨0, Nat.zero_le _, rfl, rfl⟩
      case round =>
        obtain ⟨k, hk, rfl, rfl⟩ := hrel
        by_cases hlt : k < K
        · have hg := getL_take_lt (s.extract A (A + K)) k (by omega)
          have hb := s[A + k].toNat_lt
          have HS := Lib.hid (cut_take s A K k hlt (by omega))
          have HL : Hid (getL 0 ((s.extract A (A + K)).data.toList.take (k + 1)) = getL 0 ((s.extract A (A + K)).data.toList.take k) * 256 + s[A + k].toNat) := Lib.hid (by rw [HS.out, getL_snoc])
          clear HS
          generalize getL 0 ((s.extract A (A + K)).data.toList.take k) = m at *
          go_wp2
          go_round
          case rel => exact ⟨k + 1, by omega, by go_num, by rw [HL.out, ← or_low m _ (by omega) hb]⟩
          case measure => simp [intOf]; omega
        · rw [List.take_of_length_le (by simp; omega)]
          go_wp2
          go_ret2
          exact ⟨rfl, rfl⟩

set_option maxHeartbeats 400000 in
theorem rhex_any (s : ByteArray) (w : World) (hs : s.size ≤ 1048576) :
    Calls Tryd.prog 37 #[.string s] w fun e w' => e = .returned (.string ⟨(hexL s.data.toList).toArray⟩) ∧ Below w.heap.size w w' := by
  obtain ⟨i0, hi, hz0, hz1, hz2⟩ := info_parts info5
  go_enter Tryd.func37, Tryd.ntmps37
  go_wp2_with (at_make; refine wpList_make_own _ rfl (.const (.int .i64 0)) (.tmp 7) 48 rfl w.heap.size 5 i0 (.int .u8 0) 1 Tryd.underlying48 hi hz0 hz1 .i64 .i64 _ (2 * s.size) rfl rfl ?h1 ?h3 ?h4 (Nat.le_refl _) ?_)
  case h1 => omega
  case h3 => rw [hz2]; omega
  case h4 => unfold maxLen; omega
  intro w1 hown hgrow
  go_wp2
  go_loopw [3, 11] (fun v i wr => ∃ k : Nat, k ≤ s.size ∧ i = .int .i64 k ∧ v = .slice (some ⟨w.heap.size, 0, none⟩) (2 * k) (2 * s.size) ∧
      wr.ownsRow w.heap.size 5 1 (.slice (some ⟨w.heap.size, 0, none⟩) (2 * k) (2 * s.size)) (2 * k) (bv (hexL (s.data.toList.take k))) ∧ Below w.heap.size w wr) (fun _ i _ => s.size - (intOf i).toNat)
  case atStart => exact ⟨0, Nat.zero_le _, rfl, rfl, by simpa [hexL, bv] using hown, Below.grown (Below.refl _ _) hgrow (Nat.le_refl _) (by simp)⟩
  case round =>
    obtain ⟨k, hk, rfl, rfl, ho, hb⟩ := hrel
    by_cases hlt : k < s.size
    · have hb8 := s[k].toNat_lt
      have q1 : (0 : Int) ≤ (s[k].toNat : Int) / 16 := by omega
      have q2 : (s[k].toNat : Int) / 16 < 16 := by omega
      have q3 : (0 : Int) ≤ (s[k].toNat : Int) % 16 := by omega
      have q4 : (s[k].toNat : Int) % 16 < 16 := by omega
      have q5 := u8_and15 (x := (s[k].toNat : Int)) (by omega) (by omega)
      have HO := Lib.hid ho
      clear ho
      have hk2 : 2 * k + 2 ≤ 2 * s.size := by omega
      go_wp2
      go_region_law (refine step_append_two rfl (.tmp 14) (.tmp 25) 48 rfl w.heap.size 5 i0 Tryd.underlying48 hi hz1 w.heap.size (2 * k) (2 * s.size) _ (by simp [Act.eval]) HO.out (by simp [Act.eval]) rfl rfl hk2 ?_; intro w2 ho2 hg2)
      all_goals
        rw [dig_get, dig_get, hex_step s k hlt] at ho2
        have HO2 := Lib.hid ho2
        have HG2 := Lib.hid hg2
        clear ho2 hg2
        go_wp2
        go_roundw
        case rel => exact ⟨k + 1, by omega, by go_num, rfl, HO2.out, (((hb.alloc hb.size _).drew).grown HG2.out (by have := hb.size; simp; omega) (by simp))⟩
        case measure => simp [intOf]; omega
    · rw [List.take_of_length_le (by simpa using Nat.le_of_not_lt hlt)] at ho
      have hcv := conv_back ho
      go_wp2
      go_ret
      exact ⟨rfl, hb⟩

set_option maxHeartbeats 400000 in
theorem rdigit_any (c : UInt8) (w : World) :
    Calls Tryd.prog 40 #[.int .u8 (c.toNat : Int)] w fun e w' => e = .returned (.int .i64 (unD c)) ∧ w = w' := by
  have hc := c.toNat_lt
  by_cases h1 : 48 ≤ c.toNat ∧ c.toNat ≤ 57
  · have e1 : unD c = (c.toNat : Int) - 48 := by unfold unD; rw [if_pos h1]
    rw [e1]; clear e1
    obtain ⟨h1, h2⟩ := h1
    go_enter Tryd.func40, Tryd.ntmps40
    go_wp2
    go_ret
    exact ⟨rfl, rfl⟩
  · by_cases h2 : 97 ≤ c.toNat ∧ c.toNat ≤ 102
    · have e1 : unD c = (c.toNat : Int) - 97 + 10 := by unfold unD; rw [if_neg h1, if_pos h2]; omega
      rw [e1]; clear e1
      obtain ⟨h2, h3⟩ := h2
      clear h1
      go_enter Tryd.func40, Tryd.ntmps40
      go_wp2
      go_ret
      exact ⟨rfl, rfl⟩
    · have e1 : unD c = -1 := by unfold unD; rw [if_neg h1, if_neg h2]
      rw [e1]; clear e1
      rcases (show c.toNat < 48 ∨ (57 < c.toNat ∧ c.toNat < 97) ∨ 102 < c.toNat by omega) with h | ⟨h, h'⟩ | h
      all_goals
        clear h1 h2
        go_enter Tryd.func40, Tryd.ntmps40
        go_wp2
        go_ret
        exact ⟨rfl, rfl⟩

theorem rdigit_same (c : UInt8) (w : World) :
    Calls Tryd.prog 40 #[.int .u8 (c.toNat : Int)] w fun e w' => e = .returned (.int .i64 (unD c)) ∧ w' = w :=
  (rdigit_any c w).mono fun _ _ ⟨he, hw⟩ => ⟨he, hw.symm⟩

theorem runhex_cells (x : List UInt8) (a b : UInt8) (g0 : 0 ≤ unD a) (g1 : unD a ≤ 15) (h0 : 0 ≤ unD b) (h1 : unD b ≤ 15) :
    bv x ++ [Value.int .u8 (16 * unD a + unD b)] = bv (x ++ [UInt8.ofNat (16 * (unD a).toNat + (unD b).toNat)]) := by
  simp only [bv, List.map_append, List.map_cons, List.map_nil]
  congr 3
  simp
  omega

set_option maxHeartbeats 400000 in
theorem runhex_even (s : ByteArray) (w : World) (hs : s.size ≤ 1048576) (h2 : s.size % 2 = 0) :
    Calls Tryd.prog 30 #[.string s] w fun e w' => e = .returned (.tuple #[.string (unhexS s), .int .i64 (unhexE s)]) ∧ Below w.heap.size w w' := by
  obtain ⟨i0, hi, hz0, hz1, hz2⟩ := info_parts info5
  obtain ⟨n, hn⟩ : ∃ n, s.size = 2 * n := ⟨s.size / 2, by omega⟩
  have q1 : ((s.size : Int) % 2 != 0) = false := by rw [hn]; simp
  have q2 : (s.size : Int) / 2 = n := by rw [hn]; omega
  have HN := Lib.hid hn
  clear hn h2
  go_enter Tryd.func30, Tryd.ntmps30
  go_wp2_with (at_make; refine wpList_make_own _ rfl (.const (.int .i64 0)) (.tmp 14) 48 rfl w.heap.size 5 i0 (.int .u8 0) 1 Tryd.underlying48 hi hz0 hz1 .i64 .i64 _ n rfl rfl ?h1 ?h3 ?h4 (Nat.le_refl _) ?_)
  case h1 => have := HN.out; omega
  case h3 => have := HN.out; rw [hz2]; omega
  case h4 => have := HN.out; unfold maxLen; omega
  intro w1 hown hgrow
  go_wp2
  go_loopw [4, 5] (fun v i wr => ∃ (k : Nat) (x : List UInt8), k ≤ n ∧ i = .int .i64 (2 * (k : Int)) ∧ v = .slice (some ⟨w.heap.size, 0, none⟩) k n ∧ Aside (unhexL (s.data.toList.take (2 * k)) = some x) ∧
      wr.ownsRow w.heap.size 5 1 (.slice (some ⟨w.heap.size, 0, none⟩) k n) k (bv x) ∧ Below w.heap.size w wr) (fun _ i _ => s.size - (intOf i).toNat)
  case atStart => exact ⟨0, [], Nat.zero_le _, rfl, rfl, rfl, by simpa [bv] using hown, Below.grown (Below.refl _ _) hgrow (Nat.le_refl _) (by simp)⟩
  case round =>
    obtain ⟨k, x, hk, rfl, rfl, HX, ho, hb⟩ := hrel
    by_cases hlt : k < n
    · have hl2 : 2 * k + 2 ≤ s.size := by have := HN.out; omega
      have HO := Lib.hid ho
      clear ho
      go_wp2_with fail
      have z1 : IntKind.i64.wrap (2 * (k : Int) + 1) = 2 * (k : Int) + 1 := IntWalk.i64_in _ (by omega)
      have z2 : (2 * (k : Int) + 1).toNat = 2 * k + 1 := by omega
      have z3 : (2 * (k : Int)).toNat = 2 * k := by omega
      have z4 : 0 ≤ 2 * (k : Int) + 1 := by omega
      have z5 : 2 * (k : Int) + 1 < s.size := by omega
      have z6 : 0 ≤ 2 * (k : Int) := by omega
      have z7 : 2 * (k : Int) < s.size := by omega
      go_quiet ((go_at_call 40; exact Calls.quiet_of_same (rdigit_same _ _)))
      have ho3 : (wr.drewN nq).ownsRow w.heap.size 5 1 (.slice (some ⟨w.heap.size, 0, none⟩) k n) k (bv x) := HO.out
      have hb3 := below_drewN hb nq
      generalize wr.drewN nq = w3 at *
      have hr1 := unD_range s[2 * k]
      have hr2 := unD_range s[2 * k + 1]
      have HF := Lib.hid (And.intro (fun h => unhex_bad s n HN.out (unhex_none _ k _ _ _ x (drop_two s k hl2) HX.out h)) (unhex_next s k hl2 x HX.out))
      generalize s[2 * k] = a at *
      generalize s[2 * k + 1] = b at *
      clear z1 z2 z3
      by_cases d1 : unD a < 0
      · have HU := Lib.hid (HF.out.1 (.inl d1))
        go_wp2
        go_ret2
        exact ⟨by rw [HU.out.1, HU.out.2]; rfl, hb3⟩
      · have d1' : decide (unD a < 0) = false := by simpa using d1
        by_cases d2 : unD b < 0
        · have HU := Lib.hid (HF.out.1 (.inr d2))
          go_wp2
          go_ret2
          exact ⟨by rw [HU.out.1, HU.out.2]; rfl, hb3⟩
        · have HU := Lib.hid (HF.out.2 d1 d2)
          have HO3 := Lib.hid ho3
          clear ho3
          go_wp2_with (at_builtin; refine wpList_append_fits _ rfl (.tmp 37) (.tmp 43) 48 rfl w.heap.size 5 i0 1 Tryd.underlying48 hi hz1 w.heap.size k n _ rfl (HO3.out.alloc _) ⟨w3.heap.size, 0, none⟩ 1 1 _ rfl rfl (cell_one_new _ _ _) ?c2 ?c3 ?_)
          case c2 => rfl
          case c3 => omega
          intro w4 ho4 hg4
          rw [runhex_cells x a b (by omega) hr1.2 (by omega) hr2.2] at ho4
          have HO4 := Lib.hid ho4
          have HG4 := Lib.hid hg4
          clear ho4 hg4
          go_wp2
          go_roundw
          case rel => exact ⟨k + 1, _, by omega, by go_num, rfl, HU.out, HO4.out, (hb3.alloc hb3.size _).grown HG4.out (by have := hb3.size; simp; omega) (by simp)⟩
          case measure => simp [intOf]; omega
    · have hk : k = n := by omega
      subst hk
      have HU := Lib.hid (unhex_good s k HN.out x (by have := HX.out; rwa [List.take_of_length_le (by have := HN.out; simp; omega)] at this))
      have hcv := conv_back ho
      have hnl : ¬ (2 * (k : Int) < s.size) := by have := HN.out; omega
      go_wp2
      go_ret2
      exact ⟨by rw [HU.out.1, HU.out.2]; rfl, hb⟩

set_option maxHeartbeats 400000 in
theorem runhex_any (s : ByteArray) (w : World) (hs : s.size ≤ 1048576) :
    Calls Tryd.prog 30 #[.string s] w fun e w' => e = .returned (.tuple #[.string (unhexS s), .int .i64 (unhexE s)]) ∧ Below w.heap.size w w' := by
  by_cases h2 : s.size % 2 = 0
  · exact runhex_even s w hs h2
  · have e1 : unhexS s = ByteArray.empty := by unfold unhexS; rw [unhexL_odd _ (by simpa using h2)]; rfl
    have e2 : unhexE s = 2 := by unfold unhexE; rw [if_pos h2]
    rw [e1, e2]; clear e1 e2
    have q1 : ((s.size : Int) % 2 != 0) = true := by simp; omega
    clear h2
    go_enter Tryd.func30, Tryd.ntmps30
    go_wp2
    go_ret2
    exact ⟨rfl, Below.refl _ _⟩

end Oct
end Go.Proofs.YtjljfigppbahfaaDoor
