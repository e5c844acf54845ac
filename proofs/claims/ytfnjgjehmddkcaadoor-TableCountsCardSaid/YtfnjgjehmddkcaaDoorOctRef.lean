/-
  What the document's own answers for layer 1 (package tipstaffref01) answer: the same as octet's functions, for every argument (texts up to a length that the theorem names).
-/
import Derived.Test.YtfnjgjehmddkcaaDoorOct2
import Derived.Lib.MinMax
namespace Go.Proofs.YtfnjgjehmddkcaaDoor
open Go.RowKit
namespace Oct

set_option maxRecDepth 40000 in
set_option maxHeartbeats 400000 in
theorem rput_core (n : Nat) (hn : n < 18446744073709551616) (width : Int) (k : Nat) (hk : k ≤ 8) (hw : width < 0 ∧ k = 0 ∨ 0 ≤ width ∧ width ≤ 8 ∧ width = k ∨ 8 < width ∧ k = 8) (w : World) :
    Calls Tryd.prog 63 #[.int .u64 n, .int .i64 width] w fun e w' => e = .returned (.string ⟨(putL n k).toArray⟩) ∧ Below w.heap.size w w' := by
  obtain ⟨i0, hi, hz0, hz1, hz2⟩ := info_parts info5
  have e1 : max 0 (min width 8) = (k : Int) := by omega
  have E1 := Lib.hid e1
  clear e1 hw
  go_enter Tryd.func63, Tryd.ntmps63
  go_wp2_with (at_make; refine wpList_make_full _ rfl (.tmp 10) (.tmp 10) 50 rfl w.heap.size 5 i0 (.int .u8 0) 1 Tryd.underlying50 hi hz0 hz1 .i64 .i64 _ _ k rfl rfl ?h1 ?h2 ?h3 ?h4 (Nat.le_refl _) ?_)
  case h1 => have := E1.out; omega
  case h2 => have := E1.out; omega
  case h3 => rw [hz2]; omega
  case h4 => unfold maxLen; omega
  rw [made_zeros]
  intro w1 hown hgrow
  rw [E1.out]
  go_wp2
  go_loopw [0, 6] (fun nn i wr => ∃ (m j : Nat) (T : List UInt8), j ≤ k ∧ m < 18446744073709551616 ∧ nn = .int .u64 m ∧ i = .int .i64 ((j : Int) - 1) ∧ putL m j ++ T = putL n k ∧
    wr.ownsRow w.heap.size 5 1 (.slice (some ⟨w.heap.size, 0, none⟩) k k) k (bv (List.replicate j 0 ++ T)) ∧ Below w.heap.size w wr) (fun _ i _ => (intOf i + 1).toNat)
  case atStart => exact ⟨n, k, [], Nat.le_refl _, hn, rfl, rfl, by simp, by simpa using hown, Below.grown (Below.refl _ _) hgrow (Nat.le_refl _) (by simp)⟩
  case round =>
    obtain ⟨m, j, T, hj, hm, rfl, rfl, hT, ho, hb⟩ := hrel
    cases j with
    | zero =>
      simp only [putL, List.nil_append, List.replicate_zero] at hT ho
      subst hT
      have hcv := conv_back ho
      rw [show (((0 : Nat) : Int) - 1) = -1 from rfl]
      go_wp2
      go_ret
      exact ⟨rfl, hb⟩
    | succ j =>
      have HT := Lib.hid hT
      clear hT
      rw [show (((j + 1 : Nat) : Int) - 1) = (j : Int) by omega]
      have hfz := ho.frozenAt j
      have hcl : wr.cell? ⟨w.heap.size, j, none⟩ = some (.int .u8 0) := by rw [ho.cellAt j (by omega)]; simp [bv, List.getElem?_append]
      have hst := ho.stored j (.int .u8 ((m : Int) % 256))
      have Hst := Lib.hid hst
      clear hst
      go_wp2
      go_roundw
      case rel =>
        refine ⟨m / 256, j, UInt8.ofNat m :: T, by omega, by omega, by go_num, by go_num, ?_, ?_, ?_⟩
        · have := HT.out
          rw [← this, putL]; simp
        · have := Hst.out.1
          rw [← put_round, put_set] at this
          exact this
        · exact hb.grown Hst.out.2 hb.size (by simp)
      case measure => simp [intOf]

theorem rput_any (n : Nat) (hn : n < 18446744073709551616) (width : Int) (w : World) :
    Calls Tryd.prog 63 #[.int .u64 n, .int .i64 width] w fun e w' => e = .returned (.string ⟨(putL n (clampW width)).toArray⟩) ∧ Below w.heap.size w w' :=
  rput_core n hn width (clampW width) (clampW_le width) (by unfold clampW; omega) w

theorem cut_take (s : ByteArray) (a n k : Nat) (h : k < n) (h' : a + n ≤ s.size) : (s.extract a (a + n)).data.toList.take (k + 1) = (s.extract a (a + n)).data.toList.take k ++ [s[a + k]] := by
  have hz : k < (s.extract a (a + n)).size := by simp; omega
  rw [take_snoc _ k hz]
  congr 2
  exact ByteArray.getElem_extract ..

set_option maxRecDepth 40000 in
set_option maxHeartbeats 400000 in
theorem rhex_any (s : ByteArray) (w : World) (hs : s.size ≤ 1048576) :
    Calls Tryd.prog 52 #[.string s] w fun e w' => e = .returned (.string ⟨(hexL s.data.toList).toArray⟩) ∧ Below w.heap.size w w' := by
  obtain ⟨i0, hi, hz0, hz1, hz2⟩ := info_parts info5
  go_enter Tryd.func52, Tryd.ntmps52
  go_wp2_with (at_make; refine wpList_make_own _ rfl (.const (.int .i64 0)) (.tmp 7) 50 rfl w.heap.size 5 i0 (.int .u8 0) 1 Tryd.underlying50 hi hz0 hz1 .i64 .i64 _ (2 * s.size) rfl rfl ?h1 ?h3 ?h4 (Nat.le_refl _) ?_)
  case h1 => omega
  case h3 => rw [hz2]; omega
  case h4 => unfold maxLen; omega
  intro w1 hown hgrow
  go_wp2
  go_loopw [3, 11] (fun v i wr => ∃ k : Nat, k ≤ s.size ∧ i = .int .i64 k ∧ v = .slice (some ⟨w.heap.size, 0, none⟩) (2 * k) (2 * s.size) ∧
      wr.ownsRow w.heap.size 5 1 (.slice (some ⟨w.heap.size, 0, none⟩) (2 * k) (2 * s.size)) (2 * k) (bv (hexL (s.data.toList.take k))) ∧ Below w.heap.size w wr) (fun _ i _ => s.size - (intOf i).toNat)
  case atStart => exact ⟨0, Nat.zero_le _, rfl, rfl, by simpa [hexL, bv] using hown, Below.grown (Below.refl _ _) hgrow (Nat.le_refl _) (by simp)⟩
  case round =>
    obtain ⟨k, hk, rfl, rfl, ho, hb⟩ := hrel
    by_cases hlt : k < s.size
    · have hb8 := s[k].toNat_lt
      have q1 : (0 : Int) ≤ (s[k].toNat : Int) / 16 := by omega
      have q2 : (s[k].toNat : Int) / 16 < 16 := by omega
      have q3 : (0 : Int) ≤ (s[k].toNat : Int) % 16 := by omega
      have q4 : (s[k].toNat : Int) % 16 < 16 := by omega
      have q5 := u8_and15 (x := (s[k].toNat : Int)) (by omega) (by omega)
      have HO := Lib.hid ho
      clear ho
      have hk2 : 2 * k + 2 ≤ 2 * s.size := by omega
      go_wp2
      go_region_law (refine step_append_two rfl (.tmp 14) (.tmp 25) 50 rfl w.heap.size 5 i0 Tryd.underlying50 hi hz1 w.heap.size (2 * k) (2 * s.size) _ (by simp [Act.eval]) HO.out (by simp [Act.eval]) rfl rfl hk2 ?_; intro w2 ho2 hg2)
      all_goals
        rw [dig_get, dig_get, hex_step s k hlt] at ho2
        have HO2 := Lib.hid ho2
        have HG2 := Lib.hid hg2
        clear ho2 hg2
        go_wp2
        go_roundw
        case rel => exact ⟨k + 1, by omega, by go_num, rfl, HO2.out, (((hb.alloc hb.size _).drew).grown HG2.out (by have := hb.size; simp; omega) (by simp))⟩
        case measure => simp [intOf]; omega
    · rw [List.take_of_length_le (by simpa using Nat.le_of_not_lt hlt)] at ho
      have hcv := conv_back ho
      go_wp2
      go_ret
      exact ⟨rfl, hb⟩

theorem runhex_cells (x : List UInt8) (a b : UInt8) (g0 : 0 ≤ unD a) (g1 : unD a ≤ 15) (h0 : 0 ≤ unD b) (h1 : unD b ≤ 15) :
    bv x ++ [Value.int .u8 (16 * unD a + unD b)] = bv (x ++ [UInt8.ofNat (16 * (unD a).toNat + (unD b).toNat)]) := by
  simp only [bv, List.map_append, List.map_cons, List.map_nil]
  congr 3
  simp
  omega

end Oct
end Go.Proofs.YtfnjgjehmddkcaaDoor
