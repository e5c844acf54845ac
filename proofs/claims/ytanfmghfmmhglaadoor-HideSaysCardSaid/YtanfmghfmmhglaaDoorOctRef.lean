/-
  What the document's own answers for layer 1 (package tipstaffref01) answer: the same as octet's functions, for every argument (texts up to a length that the theorem names).
-/
import Derived.Test.YtanfmghfmmhglaaDoorOct2
import Derived.Lib.MinMax
namespace Go.Proofs.YtanfmghfmmhglaaDoor
open Go.RowKit
namespace Oct

theorem cut_take (s : ByteArray) (a n k : Nat) (h : k < n) (h' : a + n ≤ s.size) : (s.extract a (a + n)).data.toList.take (k + 1) = (s.extract a (a + n)).data.toList.take k ++ [s[a + k]] := by
  have hz : k < (s.extract a (a + n)).size := by simp; omega
  rw [take_snoc _ k hz]
  congr 2
  exact ByteArray.getElem_extract ..

set_option maxRecDepth 100000 in
set_option maxHeartbeats 400000 in
theorem rpad_any (s : ByteArray) (n : Int) (w : World) (hs : s.size ≤ 1048576) :
    Calls Tryd.prog 17 #[.string s, .int .i64 n] w fun e w' => e = .returned (.string (padS s n)) ∧ Below w.heap.size w w' := by
  by_cases h1 : min n 9216 ≤ s.size
  · rw [padS_none s n h1]
    by_cases h2 : 9216 < n
    · have h3 : 9216 ≤ s.size := by omega
      go_enter Tryd.func17, Tryd.ntmps17
      go_wp2
      go_ret
      exact ⟨rfl, Below.refl _ _⟩
    · have h3 : n ≤ s.size := by omega
      go_enter Tryd.func17, Tryd.ntmps17
      go_wp2
      go_ret
      exact ⟨rfl, Below.refl _ _⟩
  · obtain ⟨i0, hi, hz0, hz1, hz2⟩ := info_parts info5
    obtain ⟨c, hc⟩ : ∃ c : Nat, min n 9216 - s.size = c := ⟨(min n 9216 - s.size).toNat, by omega⟩
    have e1 : padS s n = s ++ ⟨(List.replicate c 0).toArray⟩ := by
      unfold padS
      rw [hc]; rfl
    rw [e1]; clear e1
    have hc' : c ≤ 9216 := by omega
    obtain ⟨L, hL⟩ : ∃ L, List.replicate c (0 : UInt8) = L := ⟨_, rfl⟩
    rw [hL]
    have hll : L.length ≤ 9216 := by rw [← hL]; simpa using hc'
    have HL := Lib.hid hL
    clear hL
    by_cases h2 : 9216 < n
    all_goals
      have E2 := Lib.hid hc
      clear hc
      go_enter Tryd.func17, Tryd.ntmps17
      go_wp2_with (at_make; refine wpList_make_full _ rfl (.tmp 16) (.tmp 16) 30 rfl w.heap.size 5 i0 (.int .u8 0) 1 Tryd.underlying30 hi hz0 hz1 .i64 .i64 _ _ c rfl rfl ?h1 ?h2 ?h3 ?h4 (Nat.le_refl _) ?_)
      case h1 => have := E2.out; omega
      case h2 => have := E2.out; omega
      case h3 => first | (rw [hz2]; omega) | omega
      case h4 => unfold maxLen; omega
      rw [made_zeros, HL.out]
      intro w1 hown hgrow
      have hcv := conv_back hown
      go_wp2
      go_ret
      exact ⟨rfl, Below.grown (Below.refl _ _) hgrow (Nat.le_refl _) (by simp)⟩

theorem runhex_cells (x : List UInt8) (a b : UInt8) (g0 : 0 ≤ unD a) (g1 : unD a ≤ 15) (h0 : 0 ≤ unD b) (h1 : unD b ≤ 15) :
    bv x ++ [Value.int .u8 (16 * unD a + unD b)] = bv (x ++ [UInt8.ofNat (16 * (unD a).toNat + (unD b).toNat)]) := by
  simp only [bv, List.map_append, List.map_cons, List.map_nil]
  congr 3
  simp
  omega

end Oct
end Go.Proofs.YtanfmghfmmhglaaDoor
