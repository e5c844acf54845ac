/-
  What package digest's Constant, and the document's Constant, by and word, answer, for every argument, in every memory that holds the tables as the program's text lays them.
-/
import Derived.Test.YtanfmghfmmhglaaDoorDigA
import Derived.Test.YtanfmghfmmhglaaDoorWhole
namespace Go.Proofs.YtanfmghfmmhglaaDoor
open Go.RowKit
namespace Dig

/-- The memory holds the tables of constants and of turns. -/
def Home (w : World) : Prop := (∀ j : Nat, j < 64 → w.cell? ⟨1, j, none⟩ = some (.int .u32 (kAt j : Nat))) ∧ (∀ j : Nat, j < 16 → w.cell? ⟨0, j, none⟩ = some (.int .i64 ((tL.getD j 0 : Nat) : Int))) ∧
  1 < w.heap.size ∧ 0 < w.heap.size

theorem Home.below {w w' : World} (h : Home w) (hb : Below w.heap.size w w') : Home w' := by
  obtain ⟨h1, h2, h3, h4⟩ := h
  refine ⟨fun j hj => ?_, fun j hj => ?_, Nat.lt_of_lt_of_le h3 hb.size, Nat.lt_of_lt_of_le h4 hb.size⟩
  · rw [hb.cell (p := ⟨1, j, none⟩) h3]; exact h1 j hj
  · rw [hb.cell (p := ⟨0, j, none⟩) h4]; exact h2 j hj

set_option maxHeartbeats 400000 in
/-- Constant(i). -/
theorem const_any (i : Int) (w : World) (h : Home w) :
    Calls Tryd.prog 52 #[.int .i64 i] w fun e w' => e = .returned (.int .u32 (constN i)) ∧ w = w' := by
  by_cases h1 : i < 0
  · have e1 : constN i = 0 := by unfold constN; rw [if_neg (by omega)]
    rw [e1]; clear e1
    go_enter Tryd.func52, Tryd.ntmps52
    go_wp2
    go_ret
    exact ⟨rfl, rfl⟩
  · by_cases h2 : 64 ≤ i
    · have e1 : constN i = 0 := by unfold constN; rw [if_neg (by omega)]
      rw [e1]; clear e1
      go_enter Tryd.func52, Tryd.ntmps52
      go_wp2
      go_ret
      exact ⟨rfl, rfl⟩
    · obtain ⟨k, rfl⟩ := Int.eq_ofNat_of_zero_le (by omega : 0 ≤ i)
      have hk : k < 64 := by omega
      have e1 : constN k = kAt k := by unfold constN; rw [if_pos (by omega)]; simp
      rw [e1]; clear e1
      have hc := h.1 k hk
      generalize kAt k = K at *
      clear h
      go_enter Tryd.func52, Tryd.ntmps52
      go_wp2
      go_ret
      exact ⟨rfl, rfl⟩

def kV : List Value := [.int .u32 3614090360, .int .u32 3905402710, .int .u32 606105819, .int .u32 3250441966, .int .u32 4118548399, .int .u32 1200080426, .int .u32 2821735955, .int .u32 4249261313, .int .u32 1770035416, .int .u32 2336552879, .int .u32 4294925233, .int .u32 2304563134, .int .u32 1804603682, .int .u32 4254626195, .int .u32 2792965006, .int .u32 1236535329, .int .u32 4129170786, .int .u32 3225465664, .int .u32 643717713, .int .u32 3921069994, .int .u32 3593408605, .int .u32 38016083, .int .u32 3634488961, .int .u32 3889429448, .int .u32 568446438, .int .u32 3275163606, .int .u32 4107603335, .int .u32 1163531501, .int .u32 2850285829, .int .u32 4243563512, .int .u32 1735328473, .int .u32 2368359562, .int .u32 4294588738, .int .u32 2272392833, .int .u32 1839030562, .int .u32 4259657740, .int .u32 2763975236, .int .u32 1272893353, .int .u32 4139469664, .int .u32 3200236656, .int .u32 681279174, .int .u32 3936430074, .int .u32 3572445317, .int .u32 76029189, .int .u32 3654602809, .int .u32 3873151461, .int .u32 530742520, .int .u32 3299628645, .int .u32 4096336452, .int .u32 1126891415, .int .u32 2878612391, .int .u32 4237533241, .int .u32 1700485571, .int .u32 2399980690, .int .u32 4293915773, .int .u32 2240044497, .int .u32 1873313359, .int .u32 4264355552, .int .u32 2734768916, .int .u32 1309151649, .int .u32 4149444226, .int .u32 3174756917, .int .u32 718787259, .int .u32 3951481745]
def zV : List Value := [.int .u32 0, .int .u32 0, .int .u32 0, .int .u32 0, .int .u32 0, .int .u32 0, .int .u32 0, .int .u32 0, .int .u32 0, .int .u32 0, .int .u32 0, .int .u32 0, .int .u32 0, .int .u32 0, .int .u32 0, .int .u32 0, .int .u32 0, .int .u32 0, .int .u32 0, .int .u32 0, .int .u32 0, .int .u32 0, .int .u32 0, .int .u32 0, .int .u32 0, .int .u32 0, .int .u32 0, .int .u32 0, .int .u32 0, .int .u32 0, .int .u32 0, .int .u32 0, .int .u32 0, .int .u32 0, .int .u32 0, .int .u32 0, .int .u32 0, .int .u32 0, .int .u32 0, .int .u32 0, .int .u32 0, .int .u32 0, .int .u32 0, .int .u32 0, .int .u32 0, .int .u32 0, .int .u32 0, .int .u32 0, .int .u32 0, .int .u32 0, .int .u32 0, .int .u32 0, .int .u32 0, .int .u32 0, .int .u32 0, .int .u32 0, .int .u32 0, .int .u32 0, .int .u32 0, .int .u32 0, .int .u32 0, .int .u32 0, .int .u32 0, .int .u32 0]

theorem kV_map : kV = kL.map fun k => .int .u32 (k : Int) := rfl

theorem kV_at (k : Nat) (hk : k < 64) : kV[k]? = some (.int .u32 (kAt k : Nat)) := by
  have hl : k < kL.length := hk
  rw [kV_map, List.getElem?_map, kAt, List.getD_eq_getElem?_getD, List.getElem?_eq_getElem hl]
  rfl

theorem kV_one : ∀ v ∈ kV, v.oneCell' = true := by
  intro v hv
  simp only [kV, List.mem_cons, List.not_mem_nil, or_false] at hv
  rcases hv with rfl | rfl | rfl | rfl | rfl | rfl | rfl | rfl | rfl | rfl | rfl | rfl | rfl | rfl | rfl | rfl | rfl | rfl | rfl | rfl | rfl | rfl | rfl | rfl | rfl | rfl | rfl | rfl | rfl | rfl | rfl | rfl | rfl | rfl | rfl | rfl | rfl | rfl | rfl | rfl | rfl | rfl | rfl | rfl | rfl | rfl | rfl | rfl | rfl | rfl | rfl | rfl | rfl | rfl | rfl | rfl | rfl | rfl | rfl | rfl | rfl | rfl | rfl | rfl <;> rfl

theorem info_k : (Tryd.prog.info? 77).map (·.size) = some 64 := by kernel_rfl

set_option maxRecDepth 100000 in
set_option maxHeartbeats 4000000 in
theorem rconst_low (i : Int) (w : World) (h1 : i < 0) :
    Calls Tryd.prog 37 #[.int .i64 i] w fun e w' => e = .returned (.int .u32 (0)) ∧ Below w.heap.size w w' := by
  go_enter Tryd.func37, Tryd.ntmps37
  go_wp2_with (refine Bx.step_new (W := w) (op := ⟨none, _, _, _, _, _⟩) rfl 77 (.tmp 3) (.tmp 4) rfl zV kV _ rfl rfl rfl info_k kV_one ?_)
  go_ret
  exact ⟨rfl, Bx.box_below _ _⟩

set_option maxRecDepth 100000 in
set_option maxHeartbeats 4000000 in
theorem rconst_high (i : Int) (w : World) (h1 : ¬ i < 0) (h2 : 63 < i) :
    Calls Tryd.prog 37 #[.int .i64 i] w fun e w' => e = .returned (.int .u32 (0)) ∧ Below w.heap.size w w' := by
  go_enter Tryd.func37, Tryd.ntmps37
  go_wp2_with (refine Bx.step_new (W := w) (op := ⟨none, _, _, _, _, _⟩) rfl 77 (.tmp 3) (.tmp 4) rfl zV kV _ rfl rfl rfl info_k kV_one ?_)
  go_ret
  exact ⟨rfl, Bx.box_below _ _⟩

set_option maxRecDepth 100000 in
set_option maxHeartbeats 4000000 in
theorem rconst_at (k K : Nat) (w : World) (hk : k < 64) (hc : (w.alloc (.cells kV.toArray 77)).cell? ⟨w.heap.size, k, none⟩ = some (.int .u32 K)) :
    Calls Tryd.prog 37 #[.int .i64 k] w fun e w' => e = .returned (.int .u32 (K)) ∧ Below w.heap.size w w' := by
  go_enter Tryd.func37, Tryd.ntmps37
  go_wp2_with (refine Bx.step_new (W := w) (op := ⟨none, _, _, _, _, _⟩) rfl 77 (.tmp 3) (.tmp 4) rfl zV kV _ rfl rfl rfl info_k kV_one ?_)
  go_ret
  exact ⟨rfl, Bx.box_below _ _⟩

/-- The document's Constant. -/
theorem rconst_any (i : Int) (w : World) :
    Calls Tryd.prog 37 #[.int .i64 i] w fun e w' => e = .returned (.int .u32 (constN i)) ∧ Below w.heap.size w w' := by
  by_cases h1 : i < 0
  · have e1 : constN i = 0 := by unfold constN; rw [if_neg (by omega)]
    rw [e1]
    exact rconst_low i w h1
  · by_cases h2 : 63 < i
    · have e1 : constN i = 0 := by unfold constN; rw [if_neg (by omega)]
      rw [e1]
      exact rconst_high i w h1 h2
    · obtain ⟨k, rfl⟩ := Int.eq_ofNat_of_zero_le (by omega : 0 ≤ i)
      have hk : k < 64 := by omega
      have e1 : constN k = kAt k := by unfold constN; rw [if_pos (by omega)]; simp
      rw [e1]
      exact rconst_at k _ w hk (Bx.Blk.new w kV _ k _ (kV_at k hk))

def tV : List Value := [.int .i64 7, .int .i64 12, .int .i64 17, .int .i64 22, .int .i64 5, .int .i64 9, .int .i64 14, .int .i64 20, .int .i64 4, .int .i64 11, .int .i64 16, .int .i64 23, .int .i64 6, .int .i64 10, .int .i64 15, .int .i64 21]

theorem tV_map : tV = tL.map fun k => .int .i64 (k : Int) := rfl

theorem tV_at (k : Nat) (hk : k < 16) : tV[k]? = some (.int .i64 ((tL.getD k 0 : Nat) : Int)) := by
  have hl : k < tL.length := hk
  rw [tV_map, List.getElem?_map, List.getD_eq_getElem?_getD, List.getElem?_eq_getElem hl]
  rfl

set_option maxRecDepth 100000 in
set_option maxHeartbeats 400000 in
/-- The document's by. -/
theorem rby_any (i : Nat) (hi : i < 64) (w : World) :
    Calls Tryd.prog 40 #[.int .i64 i] w fun e w' => e = .returned (.int .i64 (byN i)) ∧ Below w.heap.size w w' := by
  have hk : i / 16 * 4 + i % 4 < 16 := by omega
  have hc : (w.alloc (.cells tV.toArray 78)).cell? ⟨w.heap.size, i / 16 * 4 + i % 4, none⟩ = some (.int .i64 (byN i : Nat)) := Bx.Blk.new w tV _ _ _ (tV_at _ hk)
  rw [show tV.toArray = #[.int .i64 7, .int .i64 12, .int .i64 17, .int .i64 22, .int .i64 5, .int .i64 9, .int .i64 14, .int .i64 20, .int .i64 4, .int .i64 11, .int .i64 16, .int .i64 23, .int .i64 6, .int .i64 10, .int .i64 15, .int .i64 21] from rfl] at hc
  obtain ⟨B, hB⟩ : ∃ B, B = byN i := ⟨_, rfl⟩
  rw [← hB] at hc ⊢
  clear hB
  go_enter Tryd.func40, Tryd.ntmps40
  go_wp2
  go_ret
  exact ⟨rfl, Bx.box_below _ _⟩

end Dig
end Go.Proofs.YtanfmghfmmhglaaDoor
