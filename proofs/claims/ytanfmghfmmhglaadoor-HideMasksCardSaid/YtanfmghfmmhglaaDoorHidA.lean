/-
  What hide.Mask, hide.Blocks and hide.turned and the document's own answers answer, and that they change nothing that was there.
-/
import Derived.Test.YtanfmghfmmhglaaDoorOct
import Derived.Test.YtanfmghfmmhglaaDoorRow
import Derived.Test.YtanfmghfmmhglaaDoorHidNum
import Derived.Lib.MinMax
import Derived.Deep.OwnRows
import Derived.RegionTactic
namespace Go.Proofs.YtanfmghfmmhglaaDoor
open Go.RowKit
namespace Hd
open Oct Fr Dig

/-- The bytes that stand behind k rounds. -/
def midM (l : List UInt8) (k : Nat) : List UInt8 := l.take k ++ List.replicate (l.length - k) 0

theorem midM_at (l : List UInt8) (k : Nat) (hk : k < l.length) : (bv (midM l k))[k]? = some (.int .u8 0) := by
  unfold bv midM
  rw [List.getElem?_map, List.getElem?_append_right (by simp; omega), List.getElem?_replicate]
  rw [if_pos (by simp; omega)]
  rfl

theorem midM_set (l : List UInt8) (k : Nat) (hk : k < l.length) : (bv (midM l k)).set k (.int .u8 (l[k].toNat : Int)) = bv (midM l (k + 1)) := by
  unfold bv midM
  rw [← List.map_set (f := fun b : UInt8 => Value.int .u8 (b.toNat : Int)), List.set_append_right _ _ (by simp; omega)]
  have hl : k - (l.take k).length = 0 := by simp; omega
  rw [hl, show l.length - k = (l.length - (k + 1)) + 1 by omega, List.replicate_succ, List.set_cons_zero, List.take_succ_eq_append_getElem hk]
  congr 1
  simp only [List.append_assoc, List.singleton_append]

theorem made_get (v : Value) (n j : Nat) (h : j < n) : (madeCells #[v] n)[j]? = some v := by
  unfold madeCells
  rw [Array.getElem?_map, Array.getElem?_range, if_pos h]
  simp [Nat.mod_one]

/-- make([]byte, n). -/
theorem new_zeros (n : Nat) (hn : n ≤ 1048576) (w : World) : ∃ w1 : World,
    (Instr.makeSlice 30 (.int .i64 (n : Int)) (.int .i64 (n : Int))).run Tryd.prog w = .ok (.slice (some ⟨w.heap.size, 0, none⟩) n n) w1 ∧ Row w1 w.heap.size (bv (List.replicate n 0)) ∧ Below w.heap.size w w1 := by
  have hm := run_make_row' (P := Tryd.prog) 30 5 (.int .u8 0) 1 Tryd.underlying30 info5 rfl .i64 .i64 n (by omega) (by omega) w
  refine ⟨_, hm, ⟨by simp, fun j v hj => ?_⟩, Below.alloc (Below.refl _ w) (Nat.le_refl _) _⟩
  have hjn : j < n := by have := (List.getElem?_eq_some_iff.1 hj).1; simpa [bv] using this
  have hv : v = .int .u8 0 := by simp [bv, hjn] at hj; exact hj.symm
  subst hv
  refine ⟨?_, ?_⟩
  · rw [World.cell?_alloc_new]
    exact made_get (.int .u8 0) n j hjn
  · simp

/-- string(b), b a row of bytes. -/
theorem back_row {w : World} {g cap n : Nat} {l : List UInt8} (h : Row w g (bv l)) (hn : l.length = n) :
    (convert 30 9 (.slice (some ⟨g, 0, none⟩) n cap)).run Tryd.prog w = .ok (.string ⟨l.toArray⟩) w := by
  subst hn
  refine run_convert_bytes_back w 30 9 5 ⟨g, 0, none⟩ cap l Tryd.underlying30 Tryd.underlying5 Tryd.underlying9 fun j hj => ?_
  have := h.cell (j := j) (v := .int .u8 (l[j].toNat : Int)) (by simp [bv, hj])
  cases j with
  | zero => simpa [Addr.add, bv, hj] using this
  | succ j => simpa [Addr.add, bv, hj] using this

theorem xor_byte (a x : UInt8) : bits .xor .u8 (a.toNat : Int) (x.toNat : Int) = ((a ^^^ x).toNat : Int) := by
  rw [u8_xor_nat _ _ a.toNat_lt x.toNat_lt, UInt8.toNat_xor]

theorem maskB_mk (a b : ByteArray) : maskB a b = ⟨(midM (maskB a b).data.toList (min a.size b.size)).toArray⟩ := by
  have h : (maskB a b).data.toList.length = min a.size b.size := by have := maskB_size a b; simpa using! this
  unfold midM
  rw [← h, List.take_length, Nat.sub_self, List.replicate_zero, List.append_nil]

theorem maskL_at (a b : ByteArray) (k : Nat) (h : k < (maskB a b).data.toList.length) (ha : k < a.size) (hb : k < b.size) : (maskB a b).data.toList[k] = a[k] ^^^ b[k] := by
  have h1 : (List.zipWith (· ^^^ ·) a.data.toList b.data.toList)[k]? = some (a[k] ^^^ b[k]) := by
    rw [List.getElem?_zipWith, List.getElem?_eq_getElem (by simpa using! ha), List.getElem?_eq_getElem (by simpa using! hb)]
    rfl
  have h2 := List.getElem?_eq_getElem h
  exact Option.some.inj (h2.symm.trans h1)

set_option maxHeartbeats 400000 in
theorem mask_any (a b : ByteArray) (w : World) (ha : a.size ≤ 1048576) (hb : b.size ≤ 1048576) :
    Calls Tryd.prog 11 #[.string a, .string b] w fun e w' => e = .returned (.string (maskB a b)) ∧ Below w.heap.size w w' := by
  obtain ⟨n, hn⟩ : ∃ n, min a.size b.size = n := ⟨_, rfl⟩
  have hmin : min (a.size : Int) (b.size : Int) = (n : Int) := by omega
  obtain ⟨w1, hmk, hr, hb1⟩ := new_zeros n (by omega) w
  have HE := Lib.hid (maskB_mk a b)
  have hl : (maskB a b).data.toList.length = n := by have := maskB_size a b; rw [hn] at this; simpa using! this
  have HX := Lib.hid (maskL_at a b)
  rw [HE.out, hn]
  obtain ⟨l, hL⟩ : ∃ l, (maskB a b).data.toList = l := ⟨_, rfl⟩
  rw [hL] at HX hl ⊢
  clear HE hL
  have HR := Lib.hid hr
  have HB := Lib.hid hb1
  have han : n ≤ a.size := by omega
  have hbn : n ≤ b.size := by omega
  clear hr hb1 hn
  go_enter Tryd.func11, Tryd.ntmps11
  go_wp2
  go_loopw [15] (fun i wr => ∃ k : Nat, k ≤ n ∧ i = .int .i64 k ∧ Hid (Row wr w.heap.size (bv (midM l k))) ∧ Hid (Below w.heap.size w wr)) (fun i _ => n - (intOf i).toNat)
  case atStart => exact ⟨0, by omega, rfl, Lib.hid (by have := HR.out; simpa [midM, hl] using this), HB⟩
  case round =>
    obtain ⟨k, hk, rfl, HR2, HB2⟩ := hrel
    by_cases hlt : k < n
    · have hkl : k < l.length := by omega
      have hka : k < a.size := by omega
      have hkb : k < b.size := by omega
      have hcl := HR2.out.cell (midM_at l k hkl)
      have hfz := HR2.out.frozen (midM_at l k hkl)
      have hxr := xor_byte a[k] b[k]
      have HS := Lib.hid (midM_set l k hkl)
      rw [HX.out k hkl hka hkb] at HS
      go_wp2
      go_region
      go_wp2
      go_roundw
      case rel =>
        refine ⟨k + 1, by omega, by go_num, Lib.hid ?_, Lib.hid ((HB2.out.setCell (p := ⟨w.heap.size, k, none⟩) (Nat.le_refl _) _).drew)⟩
        have := HR2.out.setCell k (.int .u8 ((a[k] ^^^ b[k]).toNat : Int))
        rw [HS.out] at this
        exact this
      case measure => simp [intOf]; omega
    · obtain rfl : k = n := by omega
      have hbk := back_row (cap := k) (n := k) HR2.out (by simp [midM, hl])
      go_wp2
      go_ret
      exact ⟨rfl, HB2.out⟩

set_option maxHeartbeats 400000 in
theorem rmask_any (a b : ByteArray) (w : World) (ha : a.size ≤ 1048576) (hb : b.size ≤ 1048576) :
    Calls Tryd.prog 12 #[.string a, .string b] w fun e w' => e = .returned (.string (maskB a b)) ∧ Below w.heap.size w w' := by
  obtain ⟨n, hn⟩ : ∃ n, min a.size b.size = n := ⟨_, rfl⟩
  have hmin : min (a.size : Int) (b.size : Int) = (n : Int) := by omega
  obtain ⟨w1, hmk, hr, hb1⟩ := new_zeros n (by omega) w
  have HE := Lib.hid (maskB_mk a b)
  have hl : (maskB a b).data.toList.length = n := by have := maskB_size a b; rw [hn] at this; simpa using! this
  have HX := Lib.hid (maskL_at a b)
  rw [HE.out, hn]
  obtain ⟨l, hL⟩ : ∃ l, (maskB a b).data.toList = l := ⟨_, rfl⟩
  rw [hL] at HX hl ⊢
  clear HE hL
  have HR := Lib.hid hr
  have HB := Lib.hid hb1
  have han : n ≤ a.size := by omega
  have hbn : n ≤ b.size := by omega
  clear hr hb1 hn
  go_enter Tryd.func12, Tryd.ntmps12
  go_wp2
  go_loopw [15] (fun i wr => ∃ k : Nat, k ≤ n ∧ i = .int .i64 k ∧ Hid (Row wr w.heap.size (bv (midM l k))) ∧ Hid (Below w.heap.size w wr)) (fun i _ => n - (intOf i).toNat)
  case atStart => exact ⟨0, by omega, rfl, Lib.hid (by have := HR.out; simpa [midM, hl] using this), HB⟩
  case round =>
    obtain ⟨k, hk, rfl, HR2, HB2⟩ := hrel
    by_cases hlt : k < n
    · have hkl : k < l.length := by omega
      have hka : k < a.size := by omega
      have hkb : k < b.size := by omega
      have hcl := HR2.out.cell (midM_at l k hkl)
      have hfz := HR2.out.frozen (midM_at l k hkl)
      have hxr := xor_byte a[k] b[k]
      have HS := Lib.hid (midM_set l k hkl)
      rw [HX.out k hkl hka hkb] at HS
      go_wp2
      go_region
      go_wp2
      go_roundw
      case rel =>
        refine ⟨k + 1, by omega, by go_num, Lib.hid ?_, Lib.hid ((HB2.out.setCell (p := ⟨w.heap.size, k, none⟩) (Nat.le_refl _) _).drew)⟩
        have := HR2.out.setCell k (.int .u8 ((a[k] ^^^ b[k]).toNat : Int))
        rw [HS.out] at this
        exact this
      case measure => simp [intOf]; omega
    · obtain rfl : k = n := by omega
      have hbk := back_row (cap := k) (n := k) HR2.out (by simp [midM, hl])
      go_wp2
      go_ret
      exact ⟨rfl, HB2.out⟩

/-- P12.2. -/
def blkN (n : Int) : Int := (min (max n 1) 128 + 15) / 16

theorem blkN_low (n : Int) : 1 ≤ blkN n := by unfold blkN; omega
theorem blkN_high (n : Int) : blkN n ≤ 8 := by unfold blkN; omega

theorem blocks_any (n : Int) (w : World) :
    Calls Tryd.prog 13 #[.int .i64 n] w fun e w' => e = .returned (.int .i64 (blkN n)) ∧ w = w' := by
  have HB : Hid (blkN n = (min (max n 1) 128 + 15) / 16) := Lib.hid rfl
  obtain ⟨m, hm⟩ : ∃ m, min (max n 1) 128 = m := ⟨_, rfl⟩
  rw [hm] at HB
  have h1 : 1 ≤ m := by omega
  have h2 : m ≤ 128 := by omega
  go_enter Tryd.func13, Tryd.ntmps13
  go_wp2
  go_ret
  refine ⟨?_, rfl⟩
  rw [HB.out]
  show Ending.returned (Value.int .i64 ((m + 16 - 1) / 16)) = _
  rw [show (m + 16 - 1 : Int) = m + 15 by omega]

theorem rblocks_any (n : Int) (w : World) :
    Calls Tryd.prog 14 #[.int .i64 n] w fun e w' => e = .returned (.int .i64 (blkN n)) ∧ w = w' := by
  by_cases h1 : n ≤ 0
  · have e : blkN n = 1 := by unfold blkN; omega
    rw [e]
    go_enter Tryd.func14, Tryd.ntmps14
    go_wp2
    go_ret
    exact ⟨rfl, rfl⟩
  · by_cases h2 : 128 < n
    · have e : blkN n = 8 := by unfold blkN; omega
      rw [e]
      go_enter Tryd.func14, Tryd.ntmps14
      go_wp2
      go_ret
      exact ⟨rfl, rfl⟩
    · have e : blkN n = (n + 15) / 16 := by unfold blkN; omega
      rw [e]
      clear e
      go_enter Tryd.func14, Tryd.ntmps14
      go_wp2
      go_ret
      exact ⟨rfl, rfl⟩

end Hd
end Go.Proofs.YtanfmghfmmhglaaDoor
