/-
  What keyed.masked and the document's own answer: a text, each byte exclusively or'ed with one; and that they change nothing that was there.
-/
import Derived.Test.YtaeeonohakkgbaaDoorOct
import Derived.Test.YtaeeonohakkgbaaDoorRow
import Derived.Test.YtaeeonohakkgbaaDoorDigNum
import Derived.Laws.BitsAllLaws
namespace Go.Proofs.YtaeeonohakkgbaaDoor
open Go.RowKit
namespace Key
open Oct Fr Dig

/-- A text, each byte exclusively or'ed with one. -/
def maskS (x : UInt8) (s : ByteArray) : ByteArray := ⟨(s.data.toList.map (· ^^^ x)).toArray⟩

theorem maskS_size (x : UInt8) (s : ByteArray) : (maskS x s).size = s.size := by
  show (s.data.toList.map (· ^^^ x)).toArray.size = s.size
  simp

/-- The bytes that stand behind k rounds. -/
def midL (x : UInt8) (l : List UInt8) (k : Nat) : List UInt8 := (l.take k).map (· ^^^ x) ++ l.drop k

theorem midL_at (x : UInt8) (l : List UInt8) (k : Nat) (hk : k < l.length) : (bv (midL x l k))[k]? = some (.int .u8 (l[k].toNat : Int)) := by
  unfold bv midL
  rw [List.getElem?_map, List.getElem?_append_right (by simp; omega)]
  simp [hk, show min k l.length = k by omega]

theorem midL_set (x : UInt8) (l : List UInt8) (k : Nat) (hk : k < l.length) : (bv (midL x l k)).set k (.int .u8 ((l[k] ^^^ x).toNat : Int)) = bv (midL x l (k + 1)) := by
  unfold bv midL
  rw [← List.map_set (f := fun b : UInt8 => Value.int .u8 (b.toNat : Int)), List.set_append_right _ _ (by simp; omega)]
  have hl : k - ((l.take k).map (· ^^^ x)).length = 0 := by simp; omega
  rw [hl, List.drop_eq_getElem_cons hk, List.set_cons_zero, List.take_succ_eq_append_getElem hk]
  congr 1
  simp only [List.map_append, List.map_cons, List.map_nil, List.append_assoc, List.singleton_append]

theorem xor_byte (a x : UInt8) : bits .xor .u8 (a.toNat : Int) (x.toNat : Int) = ((a ^^^ x).toNat : Int) := by
  rw [u8_xor_nat _ _ a.toNat_lt x.toNat_lt, UInt8.toNat_xor]

/-- []byte of a text. -/
theorem new_bytes (s : ByteArray) (w : World) : ∃ (cap : Nat) (w1 : World),
    (convert 9 55 (.string s)).run Tryd.prog w = .ok (.slice (some ⟨w.heap.size, 0, none⟩) s.size cap) w1 ∧ Row w1 w.heap.size (bv s.data.toList) ∧ Below w.heap.size w w1 := by
  have hrun := run_bytes_of_string (P := Tryd.prog) w 9 55 5 s Tryd.underlying9 Tryd.underlying55 Tryd.underlying5
  refine ⟨_, _, hrun, ⟨?_, ?_⟩, ?_⟩
  · simp
  · intro j v hj
    have hjl : j < s.size := by
      have := (List.getElem?_eq_some_iff.1 hj).1
      simpa [bv] using this
    generalize grownCap w s.size 0 5 = cap
    have hb : (bytesRow s cap)[j]? = some v := by
      unfold bytesRow
      rw [Array.getElem?_append_left (by simpa using hjl), ← hj]
      unfold bv
      simp
    refine ⟨?_, ?_⟩
    · have := World.cell?_alloc_mark w.drew (bytesRow s cap) 5 ((bytesRow s cap).size, (bytesRow s cap).size + 1) j
      rw [show w.drew.heap.size = w.heap.size from rfl] at this
      rw [this, hb]
    · have := World.frozen?_alloc_mark w.drew (bytesRow s cap) 5 (bytesRow s cap).size ((bytesRow s cap).size + 1) j
      rw [show w.drew.heap.size = w.heap.size from rfl] at this
      rw [this]
      have hz : s.size ≤ (bytesRow s cap).size := by
        unfold bytesRow
        rw [Array.size_append, Array.size_map]
        exact Nat.le_add_right _ _
      simp
      omega
  · exact Below.alloc (Below.refl _ w).drew (Nat.le_refl _) _

/-- string(b), b a row of bytes. -/
theorem back_bytes {w : World} {g cap : Nat} {l : List UInt8} (h : Row w g (bv l)) :
    (convert 55 9 (.slice (some ⟨g, 0, none⟩) l.length cap)).run Tryd.prog w = .ok (.string ⟨l.toArray⟩) w := by
  refine run_convert_bytes_back w 55 9 5 ⟨g, 0, none⟩ cap l Tryd.underlying55 Tryd.underlying5 Tryd.underlying9 fun j hj => ?_
  have := h.cell (j := j) (v := .int .u8 (l[j].toNat : Int)) (by simp [bv, hj])
  cases j with
  | zero => simpa [Addr.add, bv, hj] using this
  | succ j => simpa [Addr.add, bv, hj] using this

theorem midL_length (x : UInt8) (l : List UInt8) (k : Nat) (hk : k ≤ l.length) : (midL x l k).length = l.length := by
  unfold midL
  simp
  omega

set_option maxHeartbeats 400000 in
theorem masked_any (s : ByteArray) (x : UInt8) (m : Int) (hx : (x.toNat : Int) = m) (w : World) (hs : s.size ≤ 1048576) :
    Calls Tryd.prog 68 #[.string s, .int .u8 m] w fun e w' => e = .returned (.string (maskS x s)) ∧ Below w.heap.size w w' := by
  subst hx
  obtain ⟨cap, w1, hcv, hr, hb⟩ := new_bytes s w
  have hl : s.data.toList.length = s.size := by simp
  have HR := Lib.hid hr
  have HB := Lib.hid hb
  have HE : Hid (maskS x s = ⟨(midL x s.data.toList s.size).toArray⟩) := Lib.hid (by unfold maskS midL; rw [List.take_of_length_le (by omega), List.drop_eq_nil_of_le (by omega), List.append_nil])
  rw [HE.out]
  clear HE hr hb
  generalize s.data.toList = l at *
  obtain ⟨n, hn⟩ : ∃ n, s.size = n := ⟨_, rfl⟩
  rw [hn] at hcv hl hs ⊢
  clear hn
  subst hl
  go_enter Tryd.func68, Tryd.ntmps68
  go_wp2
  go_loopw [11] (fun i wr => ∃ k : Nat, k ≤ l.length ∧ i = .int .i64 k ∧ Hid (Row wr w.heap.size (bv (midL x l k))) ∧ Hid (Below w.heap.size w wr)) (fun i _ => l.length - (intOf i).toNat)
  case atStart => exact ⟨0, by omega, rfl, Lib.hid (by have := HR.out; simpa [midL] using this), HB⟩
  case round =>
    obtain ⟨k, hk, rfl, HR2, HB2⟩ := hrel
    by_cases hlt : k < l.length
    · have hcl := HR2.out.cell (midL_at x l k hlt)
      have hfz := HR2.out.frozen (midL_at x l k hlt)
      have hxr := xor_byte l[k] x
      have HS := Lib.hid (midL_set x l k hlt)
      generalize l[k] = a at *
      go_wp2
      go_roundw
      case rel =>
        refine ⟨k + 1, by omega, by go_num, Lib.hid ?_, Lib.hid (HB2.out.setCell (p := ⟨w.heap.size, k, none⟩) (Nat.le_refl _) _)⟩
        have := HR2.out.setCell k (.int .u8 ((a ^^^ x).toNat : Int))
        rw [HS.out] at this
        exact this
      case measure => simp [intOf]; omega
    · obtain rfl : k = l.length := by omega
      have hml := midL_length x l l.length (Nat.le_refl _)
      have hbk := back_bytes (cap := cap) HR2.out
      rw [hml] at hbk
      clear hml
      go_wp2
      go_ret
      exact ⟨rfl, HB2.out⟩

set_option maxHeartbeats 400000 in
theorem with_any (s : ByteArray) (x : UInt8) (m : Int) (hx : (x.toNat : Int) = m) (w : World) (hs : s.size ≤ 1048576) :
    Calls Tryd.prog 50 #[.string s, .int .u8 m] w fun e w' => e = .returned (.string (maskS x s)) ∧ Below w.heap.size w w' := by
  subst hx
  obtain ⟨cap, w1, hcv, hr, hb⟩ := new_bytes s w
  have hl : s.data.toList.length = s.size := by simp
  have HR := Lib.hid hr
  have HB := Lib.hid hb
  have HE : Hid (maskS x s = ⟨(midL x s.data.toList s.size).toArray⟩) := Lib.hid (by unfold maskS midL; rw [List.take_of_length_le (by omega), List.drop_eq_nil_of_le (by omega), List.append_nil])
  rw [HE.out]
  clear HE hr hb
  generalize s.data.toList = l at *
  obtain ⟨n, hn⟩ : ∃ n, s.size = n := ⟨_, rfl⟩
  rw [hn] at hcv hl hs ⊢
  clear hn
  subst hl
  go_enter Tryd.func50, Tryd.ntmps50
  go_wp2
  go_loopw [11] (fun i wr => ∃ k : Nat, k ≤ l.length ∧ i = .int .i64 k ∧ Hid (Row wr w.heap.size (bv (midL x l k))) ∧ Hid (Below w.heap.size w wr)) (fun i _ => l.length - (intOf i).toNat)
  case atStart => exact ⟨0, by omega, rfl, Lib.hid (by have := HR.out; simpa [midL] using this), HB⟩
  case round =>
    obtain ⟨k, hk, rfl, HR2, HB2⟩ := hrel
    by_cases hlt : k < l.length
    · have hcl := HR2.out.cell (midL_at x l k hlt)
      have hfz := HR2.out.frozen (midL_at x l k hlt)
      have hxr := xor_byte l[k] x
      have HS := Lib.hid (midL_set x l k hlt)
      generalize l[k] = a at *
      go_wp2
      go_roundw
      case rel =>
        refine ⟨k + 1, by omega, by go_num, Lib.hid ?_, Lib.hid (HB2.out.setCell (p := ⟨w.heap.size, k, none⟩) (Nat.le_refl _) _)⟩
        have := HR2.out.setCell k (.int .u8 ((a ^^^ x).toNat : Int))
        rw [HS.out] at this
        exact this
      case measure => simp [intOf]; omega
    · obtain rfl : k = l.length := by omega
      have hml := midL_length x l l.length (Nat.le_refl _)
      have hbk := back_bytes (cap := cap) HR2.out
      rw [hml] at hbk
      clear hml
      go_wp2
      go_ret
      exact ⟨rfl, HB2.out⟩

end Key
end Go.Proofs.YtaeeonohakkgbaaDoor
