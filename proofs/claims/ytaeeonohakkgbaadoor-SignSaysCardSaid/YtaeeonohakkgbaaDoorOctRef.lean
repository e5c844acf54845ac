/-
  What the document's own answers for layer 1 (package tipstaffref01) answer: the same as octet's functions, for every argument (texts up to a length that the theorem names).
-/
import Derived.Test.YtaeeonohakkgbaaDoorOct2
import Derived.Lib.MinMax
namespace Go.Proofs.YtaeeonohakkgbaaDoor
open Go.RowKit
namespace Oct

set_option maxHeartbeats 400000 in
theorem rput_core (n : Nat) (hn : n < 18446744073709551616) (width : Int) (k : Nat) (hk : k ≤ 8) (hw : width < 0 ∧ k = 0 ∨ 0 ≤ width ∧ width ≤ 8 ∧ width = k ∨ 8 < width ∧ k = 8) (w : World) :
    Calls Tryd.prog 48 #[.int .u64 n, .int .i64 width] w fun e w' => e = .returned (.string ⟨(putL n k).toArray⟩) ∧ Below w.heap.size w w' := by
  obtain ⟨i0, hi, hz0, hz1, hz2⟩ := info_parts info5
  have e1 : max 0 (min width 8) = (k : Int) := by omega
  have E1 := Lib.hid e1
  clear e1 hw
  go_enter Tryd.func48, Tryd.ntmps48
  go_wp2_with (at_make; refine wpList_make_full _ rfl (.tmp 10) (.tmp 10) 55 rfl w.heap.size 5 i0 (.int .u8 0) 1 Tryd.underlying55 hi hz0 hz1 .i64 .i64 _ _ k rfl rfl ?h1 ?h2 ?h3 ?h4 (Nat.le_refl _) ?_)
  case h1 => have := E1.out; omega
  case h2 => have := E1.out; omega
  case h3 => rw [hz2]; omega
  case h4 => unfold maxLen; omega
  rw [made_zeros]
  intro w1 hown hgrow
  rw [E1.out]
  go_wp2
  go_loopw [0, 6] (fun nn i wr => ∃ (m j : Nat) (T : List UInt8), j ≤ k ∧ m < 18446744073709551616 ∧ nn = .int .u64 m ∧ i = .int .i64 ((j : Int) - 1) ∧ putL m j ++ T = putL n k ∧
    wr.ownsRow w.heap.size 5 1 (.slice (some ⟨w.heap.size, 0, none⟩) k k) k (bv (List.replicate j 0 ++ T)) ∧ Below w.heap.size w wr) (fun _ i _ => (intOf i + 1).toNat)
  case atStart => exact ⟨n, k, [], Nat.le_refl _, hn, rfl, rfl, by simp, by simpa using hown, Below.grown (Below.refl _ _) hgrow (Nat.le_refl _) (by simp)⟩
  case round =>
    obtain ⟨m, j, T, hj, hm, rfl, rfl, hT, ho, hb⟩ := hrel
    cases j with
    | zero =>
      simp only [putL, List.nil_append, List.replicate_zero] at hT ho
      subst hT
      have hcv := conv_back ho
      rw [show (((0 : Nat) : Int) - 1) = -1 from rfl]
      go_wp2
      go_ret
      exact ⟨rfl, hb⟩
    | succ j =>
      have HT := Lib.hid hT
      clear hT
      rw [show (((j + 1 : Nat) : Int) - 1) = (j : Int) by omega]
      have hfz := ho.frozenAt j
      have hcl : wr.cell? ⟨w.heap.size, j, none⟩ = some (.int .u8 0) := by rw [ho.cellAt j (by omega)]; simp [bv, List.getElem?_append]
      have hst := ho.stored j (.int .u8 ((m : Int) % 256))
      have Hst := Lib.hid hst
      clear hst
      go_wp2
      go_roundw
      case rel =>
        refine ⟨m / 256, j, UInt8.ofNat m :: T, by omega, by omega, by go_num, by go_num, ?_, ?_, ?_⟩
        · have := HT.out
          rw [← this, putL]; simp
        · have := Hst.out.1
          rw [← put_round, put_set] at this
          exact this
        · exact hb.grown Hst.out.2 hb.size (by simp)
      case measure => simp [intOf]

theorem rput_any (n : Nat) (hn : n < 18446744073709551616) (width : Int) (w : World) :
    Calls Tryd.prog 48 #[.int .u64 n, .int .i64 width] w fun e w' => e = .returned (.string ⟨(putL n (clampW width)).toArray⟩) ∧ Below w.heap.size w w' :=
  rput_core n hn width (clampW width) (clampW_le width) (by unfold clampW; omega) w

theorem cut_take (s : ByteArray) (a n k : Nat) (h : k < n) (h' : a + n ≤ s.size) : (s.extract a (a + n)).data.toList.take (k + 1) = (s.extract a (a + n)).data.toList.take k ++ [s[a + k]] := by
  have hz : k < (s.extract a (a + n)).size := by simp; omega
  rw [take_snoc _ k hz]
  congr 2
  exact ByteArray.getElem_extract ..

set_option maxRecDepth 100000 in
set_option maxHeartbeats 400000 in
theorem rpad_any (s : ByteArray) (n : Int) (w : World) (hs : s.size ≤ 1048576) :
    Calls Tryd.prog 28 #[.string s, .int .i64 n] w fun e w' => e = .returned (.string (padS s n)) ∧ Below w.heap.size w w' := by
  by_cases h1 : min n 9216 ≤ s.size
  · rw [padS_none s n h1]
    by_cases h2 : 9216 < n
    · have h3 : 9216 ≤ s.size := by omega
      go_enter Tryd.func28, Tryd.ntmps28
      go_wp2
      go_ret
      exact ⟨rfl, Below.refl _ _⟩
    · have h3 : n ≤ s.size := by omega
      go_enter Tryd.func28, Tryd.ntmps28
      go_wp2
      go_ret
      exact ⟨rfl, Below.refl _ _⟩
  · obtain ⟨i0, hi, hz0, hz1, hz2⟩ := info_parts info5
    obtain ⟨c, hc⟩ : ∃ c : Nat, min n 9216 - s.size = c := ⟨(min n 9216 - s.size).toNat, by omega⟩
    have e1 : padS s n = s ++ ⟨(List.replicate c 0).toArray⟩ := by
      unfold padS
      rw [hc]; rfl
    rw [e1]; clear e1
    have hc' : c ≤ 9216 := by omega
    obtain ⟨L, hL⟩ : ∃ L, List.replicate c (0 : UInt8) = L := ⟨_, rfl⟩
    rw [hL]
    have hll : L.length ≤ 9216 := by rw [← hL]; simpa using hc'
    have HL := Lib.hid hL
    clear hL
    by_cases h2 : 9216 < n
    all_goals
      have E2 := Lib.hid hc
      clear hc
      go_enter Tryd.func28, Tryd.ntmps28
      go_wp2_with (at_make; refine wpList_make_full _ rfl (.tmp 16) (.tmp 16) 55 rfl w.heap.size 5 i0 (.int .u8 0) 1 Tryd.underlying55 hi hz0 hz1 .i64 .i64 _ _ c rfl rfl ?h1 ?h2 ?h3 ?h4 (Nat.le_refl _) ?_)
      case h1 => have := E2.out; omega
      case h2 => have := E2.out; omega
      case h3 => first | (rw [hz2]; omega) | omega
      case h4 => unfold maxLen; omega
      rw [made_zeros, HL.out]
      intro w1 hown hgrow
      have hcv := conv_back hown
      go_wp2
      go_ret
      exact ⟨rfl, Below.grown (Below.refl _ _) hgrow (Nat.le_refl _) (by simp)⟩

set_option maxHeartbeats 400000 in
theorem rsame_drew (s t : ByteArray) (w : World) (hs : s.size ≤ 9223372036854775807) :
    Calls Tryd.prog 40 #[.string s, .string t] w fun e w' => e = .returned (.bool (s.data.toList == t.data.toList)) ∧ ∃ n, w' = w.drewN n := by
  by_cases hl : s.size = t.size
  · have hne : ((s.size : Int) != (t.size : Int)) = false := by simp [hl]
    go_enter Tryd.func40, Tryd.ntmps40
    have HL := Lib.hid hl
    clear hl
    go_wp2
    go_loopw [5, 14] (fun d i wr => ∃ k m : Nat, k ≤ s.size ∧ i = .int .i64 k ∧ m < 256 ∧ d = .int .u8 (m : Int) ∧ (m = 0 ↔ s.data.toList.take k = t.data.toList.take k) ∧ ∃ n, wr = w.drewN n) (fun _ i _ => s.size - (intOf i).toNat)
    case atStart => exact ⟨0, 0, Nat.zero_le _, rfl, by omega, rfl, by simp, 0, rfl⟩
    case round =>
      obtain ⟨k, m, hk, rfl, hm, rfl, hmt, nd, rfl⟩ := hrel
      by_cases hlt : k < s.size
      · have hlt' : k < t.size := by have := HL.out; omega
        have HM := Lib.hid hmt
        clear hmt
        go_wp2
        go_quiet (fail)
        go_wp2
        obtain ⟨x, hx, hxe, hx0⟩ := same_byte m s[k].toNat t[k].toNat hm s[k].toNat_lt t[k].toNat_lt
        go_roundw
        case rel => exact ⟨k + 1, x, by omega, by go_num, hx, by rw [hxe], by rw [hx0, HM.out, same_step s t k hlt hlt'], _, rfl⟩
        case measure => simp [intOf]; omega
      · rw [List.take_of_length_le (by simpa using Nat.le_of_not_lt hlt), List.take_of_length_le (by have := HL.out; simp; omega)] at hmt
        by_cases h0 : m = 0
        · have e1 : (s.data.toList == t.data.toList) = true := by simpa using hmt.1 h0
          have e2 : ((m : Int) == 0) = true := by simpa using h0
          clear hmt h0
          have E1 := Lib.hid e1; clear e1
          go_wp2
          go_ret
          exact ⟨by rw [E1.out]; rfl, _, rfl⟩
        · have e1 : (s.data.toList == t.data.toList) = false := by simpa using fun h => h0 (hmt.2 h)
          have e2 : ((m : Int) == 0) = false := by simpa using h0
          clear hmt h0
          have E1 := Lib.hid e1; clear e1
          go_wp2
          go_ret
          exact ⟨by rw [E1.out]; rfl, _, rfl⟩
  · have hne : ((s.size : Int) != (t.size : Int)) = true := by simp; omega
    have e1 : (s.data.toList == t.data.toList) = false := by
      simp only [beq_eq_false_iff_ne, ne_eq]
      intro h
      exact hl (by have := congrArg List.length h; simpa using this)
    rw [e1]; clear e1 hl
    go_enter Tryd.func40, Tryd.ntmps40
    go_wp2
    go_ret
    exact ⟨rfl, 0, rfl⟩

theorem rsame_any (s t : ByteArray) (w : World) (hs : s.size ≤ 9223372036854775807) :
    Calls Tryd.prog 40 #[.string s, .string t] w fun e w' => e = .returned (.bool (s.data.toList == t.data.toList)) ∧ Below w.heap.size w w' :=
  (rsame_drew s t w hs).mono fun _ _ ⟨he, n, hw⟩ => ⟨he, hw ▸ below_drewN (Below.refl _ _) n⟩

theorem runhex_cells (x : List UInt8) (a b : UInt8) (g0 : 0 ≤ unD a) (g1 : unD a ≤ 15) (h0 : 0 ≤ unD b) (h1 : unD b ≤ 15) :
    bv x ++ [Value.int .u8 (16 * unD a + unD b)] = bv (x ++ [UInt8.ofNat (16 * (unD a).toNat + (unD b).toNat)]) := by
  simp only [bv, List.map_append, List.map_cons, List.map_nil]
  congr 3
  simp
  omega

end Oct
end Go.Proofs.YtaeeonohakkgbaaDoor
