/-
  What octet.Pad and octet.Unhex answer, for every argument (texts up to a length that the theorem names), and that they change nothing that was there.
-/
import Derived.Test.YtbighadkcmhplaaOct
import Derived.Test.YtbighadkcmhplaaShelf
import Derived.Deep.LoopGhost
namespace Go.Proofs.Ytbighadkcmhplaa
open Go.RowKit
namespace Oct

/-- A text with bytes 0 behind it. -/
def padS (s : ByteArray) (n : Int) : ByteArray := s ++ ⟨(List.replicate (min n 9216 - s.size).toNat 0).toArray⟩

theorem padS_none (s : ByteArray) (n : Int) (h : min n 9216 ≤ s.size) : padS s n = s := by
  unfold padS
  rw [show (min n 9216 - s.size).toNat = 0 by omega]
  apply ByteArray.ext
  simp

/-- Unhex's answer. -/
def unhexS (s : ByteArray) : ByteArray := ⟨((unhexL s.data.toList).getD []).toArray⟩
def unhexE (s : ByteArray) : Int := if s.size % 2 ≠ 0 then 2 else if unhexL s.data.toList = none then 3 else 0

theorem bytes_at (s : ByteArray) (a cap j : Nat) (hj : j < 2) (h : a + 2 ≤ s.size) : (bytesRow (s.extract a (a + 2)) cap)[j]? = some (.int .u8 ((s[a + j]'(by omega)).toNat : Int)) := by
  have hz : (s.extract a (a + 2)).data.size = 2 := by
    have : (s.extract a (a + 2)).size = 2 := by simp; omega
    exact this
  unfold bytesRow
  rw [Array.getElem?_append_left (by simp; omega), Array.getElem?_map]
  have e : (s.extract a (a + 2)).data[j]? = some (s[a + j]'(by omega)) := by
    rw [ByteArray.data_extract, Array.getElem?_extract]
    rw [if_pos (by have : s.data.size = s.size := rfl; omega)]
    exact Array.getElem?_eq_getElem (by have : s.data.size = s.size := rfl; omega)
  rw [e]
  rfl

theorem unhex_bad (s : ByteArray) (n : Nat) (hn : s.size = 2 * n) (h : unhexL s.data.toList = none) : unhexS s = ByteArray.empty ∧ unhexE s = 3 := by
  refine ⟨by unfold unhexS; rw [h]; rfl, ?_⟩
  unfold unhexE
  rw [if_neg (by omega), if_pos h]

theorem unhex_good (s : ByteArray) (n : Nat) (hn : s.size = 2 * n) (v : List UInt8) (h : unhexL s.data.toList = some v) : unhexS s = ⟨v.toArray⟩ ∧ unhexE s = 0 := by
  refine ⟨by unfold unhexS; rw [h]; rfl, ?_⟩
  unfold unhexE
  rw [if_neg (by omega), if_neg (by rw [h]; simp)]

theorem or_first (d : Int) (h0 : 0 ≤ d) (h1 : d ≤ 15) : bits .or .u8 0 d = d := by
  have := u8_or 0 d (by omega) (by omega) h0 (by omega)
  rw [this]; simp; omega

theorem or_second (c d : Int) (g0 : 0 ≤ c) (g1 : c ≤ 15) (h0 : 0 ≤ d) (h1 : d ≤ 15) : bits .or .u8 (c * 16) d = c * 16 + d := by
  rw [u8_or _ d (by omega) (by omega) h0 (by omega)]
  have : (c * 16).toNat ||| d.toNat = 16 * c.toNat + d.toNat := by
    rw [show (c * 16).toNat = 2 ^ 4 * c.toNat by omega, ← Nat.two_pow_add_eq_or_of_lt (by omega)]
  rw [this]; omega

theorem unhex_cells (v : List UInt8) (k g : Nat) (hv : v.length = k) (X : Value) (c d : Int) (g0 : 0 ≤ c) (g1 : c ≤ 15) (h0 : 0 ≤ d) (h1 : d ≤ 15) :
    ((bv (v ++ List.replicate (g + 1) 0)).set k X).set k (.int .u8 (c * 16 + d)) = bv ((v ++ [UInt8.ofNat (16 * c.toNat + d.toNat)]) ++ List.replicate g 0) := by
  rw [List.set_set]
  have e : (.int .u8 (c * 16 + d) : Value) = .int .u8 ((UInt8.ofNat (16 * c.toNat + d.toNat)).toNat : Int) := by
    congr 1
    simp
    omega
  rw [e]
  unfold bv
  rw [← List.map_set (f := fun b : UInt8 => Value.int .u8 (b.toNat : Int)), List.set_append_right _ _ (by omega), hv, Nat.sub_self, List.replicate_succ]
  simp

theorem own_lt {w : World} {base g n cap : Nat} {xs : List Value} {e : TypeId} (h : w.ownsRow base e 1 (.slice (some ⟨g, 0, none⟩) n cap) n xs) : g < w.heap.size := by
  rcases h.2 with ⟨h', _⟩ | ⟨g', cap', cur, h', _, hg, _⟩
  · simp at h'
  · simp only [Value.slice.injEq, Option.some.injEq, Addr.mk.injEq, and_true, true_and] at h'
    obtain ⟨rfl, rfl⟩ := h'
    exact (Array.getElem?_eq_some_iff.1 hg).1

theorem unhex_none (l : List UInt8) (k : Nat) (a b : UInt8) (r v : List UInt8) (h : l.drop (2 * k) = a :: b :: r) (hv : unhexL (l.take (2 * k)) = some v) (hab : unD a < 0 ∨ unD b < 0) : unhexL l = none := by
  have hl : 2 * k ≤ l.length := by
    have := congrArg List.length h
    simp at this; omega
  have e := unhexL_append (l.take (2 * k)) (l.drop (2 * k)) (by simp; omega)
  rw [List.take_append_drop, hv, h] at e
  rw [e]
  simp [unhexL, hab]

theorem drop_two (s : ByteArray) (k : Nat) (h : 2 * k + 2 ≤ s.size) : s.data.toList.drop (2 * k) = s[2 * k] :: s[2 * k + 1] :: s.data.toList.drop (2 * k + 2) := by
  rw [List.drop_eq_getElem_cons (by simp; omega), List.drop_eq_getElem_cons (by simp; omega)]
  rfl

theorem unhex_next (s : ByteArray) (k : Nat) (h : 2 * k + 2 ≤ s.size) (v : List UInt8) (hv : unhexL (s.data.toList.take (2 * k)) = some v) (h1 : ¬ unD s[2 * k] < 0) (h2 : ¬ unD s[2 * k + 1] < 0) :
    unhexL (s.data.toList.take (2 * (k + 1))) = some (v ++ [UInt8.ofNat (16 * (unD s[2 * k]).toNat + (unD s[2 * k + 1]).toNat)]) := by
  have e0 : s.data.toList.take (2 * (k + 1)) = s.data.toList.take (2 * k) ++ [s[2 * k], s[2 * k + 1]] := by
    rw [show 2 * (k + 1) = 2 * k + 1 + 1 by omega, take_snoc s (2 * k + 1) (by omega), take_snoc s (2 * k) (by omega), List.append_assoc]; rfl
  rw [e0, unhexL_append _ _ (by simp; omega), hv]
  simp [unhexL, h1, h2]

theorem unhexL_odd (l : List UInt8) (h : l.length % 2 ≠ 0) : unhexL l = none := by
  cases hl : unhexL l with
  | none => rfl
  | some x => have := unhexL_length l x hl; omega

end Oct
end Go.Proofs.Ytbighadkcmhplaa
