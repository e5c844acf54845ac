/-
  Packets as plain data (no program): which are right, their bytes, what bytes say, an attribute put in, and a type taken out.
-/
import Derived.Test.YtaeeonohakkgbaaDoorAttNum
namespace Go.Proofs.YtaeeonohakkgbaaDoor
namespace Pac
open Oct Att

def rightP (c i : Int) (a : ByteArray) (l : List At) : Bool := decide ((1 ≤ c ∧ c ≤ 255) ∧ (0 ≤ i ∧ i ≤ 255) ∧ a.size = 16) && decide (bytesE l = 0 ∧ (bytesT l).size ≤ 4076)

/-- The text of n in k bytes. -/
def num (n k : Nat) : ByteArray := ⟨(putL n k).toArray⟩

def wireP (c i : Int) (a : ByteArray) (l : List At) : ByteArray := num c.toNat 1 ++ num i.toNat 1 ++ num (20 + (bytesT l).size) 2 ++ a ++ bytesT l

def errP (c i : Int) (a : ByteArray) (l : List At) : Int := if rightP c i a l = true then 0 else 1
def txtP (c i : Int) (a : ByteArray) (l : List At) : ByteArray := if rightP c i a l = true then wireP c i a l else ⟨#[]⟩

/-- A byte of a text. -/
def bAt (s : ByteArray) (k : Nat) : Nat := (s.data.toList.getD k 0).toNat

/-- What a text says: the error, and the packet. -/
structure Rd where
  e : Int
  c : Int
  i : Int
  a : ByteArray
  l : List At

def noR (e : Int) : Rd := ⟨e, 0, 0, ⟨#[]⟩, []⟩

def longN (s : ByteArray) : Nat := bAt s 2 * 256 + bAt s 3

def readP (s : ByteArray) : Rd :=
  if s.size < 20 then noR 2
  else if 4096 < longN s then noR 4
  else if longN s < 20 ∨ bAt s 0 < 1 then noR 3
  else if s.size < longN s then noR 2
  else if (readL 64 (s.extract 20 (longN s)).data.toList []).1 = 0 then ⟨0, bAt s 0, bAt s 1, s.extract 4 20, (readL 64 (s.extract 20 (longN s)).data.toList []).2⟩
  else noR (readL 64 (s.extract 20 (longN s)).data.toList []).1

theorem right_iff {c i : Int} {a : ByteArray} {l : List At} : rightP c i a l = true ↔ ((1 ≤ c ∧ c ≤ 255) ∧ (0 ≤ i ∧ i ≤ 255) ∧ a.size = 16) ∧ bytesE l = 0 ∧ (bytesT l).size ≤ 4076 := by
  simp only [rightP, Bool.and_eq_true, decide_eq_true_eq]

theorem bAt_get (s : ByteArray) (k : Nat) (h : k < s.size) : bAt s k = s[k].toNat := by
  have e : s.data.toList[k]? = some s[k] := by
    rw [List.getElem?_eq_getElem (by rw [size_list]; exact h), Array.getElem_toList]
    rfl
  unfold bAt
  rw [List.getD_eq_getElem?_getD, e]
  rfl

theorem bAt_lt (s : ByteArray) (k : Nat) : bAt s k < 256 := UInt8.toNat_lt _

theorem num_size (n k : Nat) : (num n k).size = k := by
  show (putL n k).toArray.size = k
  rw [List.size_toArray, putL_length]

theorem wire_list (c i : Int) (a : ByteArray) (l : List At) : (wireP c i a l).data.toList = UInt8.ofNat c.toNat :: UInt8.ofNat i.toNat :: (putL (20 + (bytesT l).size) 2 ++ (a.data.toList ++ (bytesT l).data.toList)) := by
  simp [wireP, num, putL]

theorem put_two (n : Nat) : putL n 2 = [UInt8.ofNat (n / 256), UInt8.ofNat n] := by
  simp [putL]

theorem wire_size (c i : Int) (a : ByteArray) (l : List At) : (wireP c i a l).size = 4 + a.size + (bytesT l).size := by
  simp [wireP, ByteArray.size_append, num_size]

theorem bAt_append (s t : ByteArray) (k : Nat) (h : k < s.size) : bAt (s ++ t) k = bAt s k := by
  unfold bAt
  rw [ByteArray.data_append, Array.toList_append, List.getD_eq_getElem?_getD, List.getD_eq_getElem?_getD, List.getElem?_append_left (by rw [size_list]; exact h)]

theorem wire_c (c i : Int) (a : ByteArray) (l : List At) (h : 0 ≤ c ∧ c ≤ 255) : (bAt (wireP c i a l) 0 : Int) = c := by
  unfold bAt
  rw [wire_list]
  simp
  omega

theorem wire_i (c i : Int) (a : ByteArray) (l : List At) (h : 0 ≤ i ∧ i ≤ 255) : (bAt (wireP c i a l) 1 : Int) = i := by
  unfold bAt
  rw [wire_list]
  simp
  omega

theorem wire_long (c i : Int) (a : ByteArray) (l : List At) (h : (bytesT l).size ≤ 4076) : longN (wireP c i a l) = 20 + (bytesT l).size := by
  unfold longN bAt
  rw [wire_list, put_two]
  simp
  omega

theorem extract_eq {s t : ByteArray} {a b : Nat} (h : (s.data.toList.drop a).take (b - a) = t.data.toList) : s.extract a b = t := by
  apply ByteArray.ext
  apply Array.toList_inj.1
  rw [list_extract, h]

/-- What is written is read, whatever stands behind it. -/
theorem read_wire {c i : Int} {a : ByteArray} {l : List At} (h : rightP c i a l = true) (s : ByteArray) : readP (wireP c i a l ++ s) = ⟨0, c, i, a, l⟩ := by
  obtain ⟨⟨⟨hc, hc2⟩, ⟨hi, hi2⟩, ha⟩, hl, hz⟩ := right_iff.1 h
  have hw := wire_size c i a l
  have hsz : (wireP c i a l ++ s).size = (wireP c i a l).size + s.size := ByteArray.size_append
  have b0 : (bAt (wireP c i a l ++ s) 0 : Int) = c := by rw [bAt_append _ _ _ (by omega), wire_c _ _ _ _ (by omega)]
  have b1 : (bAt (wireP c i a l ++ s) 1 : Int) = i := by rw [bAt_append _ _ _ (by omega), wire_i _ _ _ _ (by omega)]
  have bl : longN (wireP c i a l ++ s) = 20 + (bytesT l).size := by
    rw [← wire_long c i a l hz]
    unfold longN
    rw [bAt_append _ _ _ (by omega), bAt_append _ _ _ (by omega)]
  have el : (wireP c i a l ++ s).data.toList = UInt8.ofNat c.toNat :: UInt8.ofNat i.toNat :: (putL (20 + (bytesT l).size) 2 ++ (a.data.toList ++ ((bytesT l).data.toList ++ s.data.toList))) := by
    rw [ByteArray.data_append, Array.toList_append, wire_list]
    simp
  have ea : (wireP c i a l ++ s).extract 4 20 = a := by
    apply extract_eq
    rw [el, put_two]
    show (a.data.toList ++ ((bytesT l).data.toList ++ s.data.toList)).take 16 = _
    rw [← ha, ← size_list, List.take_left]
  have et : (wireP c i a l ++ s).extract 20 (20 + (bytesT l).size) = bytesT l := by
    apply extract_eq
    rw [el, put_two]
    show ((a.data.toList ++ ((bytesT l).data.toList ++ s.data.toList)).drop 16).take _ = _
    rw [← ha, ← size_list a, List.drop_left, show 20 + (bytesT l).size - 20 = (bytesT l).data.toList.length by rw [size_list]; omega, List.take_left]
  unfold readP
  rw [if_neg (by omega), bl, if_neg (by omega), if_neg (by omega), if_neg (by omega), et, read_bytes hl, if_pos rfl, ea, b0, b1]

theorem bAt_list (s : ByteArray) (h : 20 ≤ s.size) : s.data.toList.take 4 = [UInt8.ofNat (bAt s 0), UInt8.ofNat (bAt s 1), UInt8.ofNat (bAt s 2), UInt8.ofNat (bAt s 3)] := by
  unfold bAt
  obtain ⟨⟨l⟩⟩ := s
  match l, h with
  | b0 :: b1 :: b2 :: b3 :: l, _ => simp

/-- What is read is written so. -/
theorem wire_read {s : ByteArray} {c i : Int} {a : ByteArray} {l : List At} (h : readP s = ⟨0, c, i, a, l⟩) : rightP c i a l = true ∧ longN s ≤ s.size ∧ (wireP c i a l).size = longN s ∧ s.extract 0 (longN s) = wireP c i a l := by
  unfold readP at h
  split at h
  · simp [noR] at h
  split at h
  · simp [noR] at h
  split at h
  · simp [noR] at h
  split at h
  · simp [noR] at h
  split at h
  · rename_i h1 h2 h3 h4 h5
    injection h with e0 e1 e2 e3 e4
    have b0 := bAt_lt s 0
    have b1 := bAt_lt s 1
    have ha : a.size = 16 := by rw [← e3, ByteArray.size_extract]; omega
    obtain ⟨g1, g2⟩ := bytes_read (s := s.extract 20 (longN s)) (x := l) (Prod.ext h5 e4)
    have gs : (bytesT l).size = longN s - 20 := by rw [g2, ByteArray.size_extract]; omega
    have hr : rightP c i a l = true := right_iff.2 ⟨⟨by omega, by omega, ha⟩, g1, by omega⟩
    have hw := wire_size c i a l
    refine ⟨hr, by omega, by omega, ?_⟩
    apply extract_eq
    rw [wire_list, put_two, gs]
    have e5 : s.data.toList.take (longN s) = s.data.toList.take 4 ++ ((s.data.toList.drop 4).take 16 ++ (s.data.toList.drop 20).take (longN s - 20)) := by
      conv => lhs; rw [show longN s = 4 + (16 + (longN s - 20)) by omega]
      rw [List.take_add, List.take_add, List.drop_drop]
    have e6 : a.data.toList = (s.data.toList.drop 4).take 16 := by rw [← e3, list_extract]
    have e7 : (bytesT l).data.toList = (s.data.toList.drop 20).take (longN s - 20) := by rw [g2, list_extract]
    rw [List.drop_zero, Nat.sub_zero, e5, e6, e7, bAt_list s (by omega), ← e1, ← e2, show 20 + (longN s - 20) = bAt s 2 * 256 + bAt s 3 by unfold longN at *; omega]
    have b2 := bAt_lt s 2
    have b3 := bAt_lt s 3
    have e8 : (bAt s 2 * 256 + bAt s 3) / 256 = bAt s 2 := by omega
    have e9 : UInt8.ofNat (bAt s 2 * 256 + bAt s 3) = UInt8.ofNat (bAt s 3) := by
      apply UInt8.toNat.inj
      rw [UInt8.toNat_ofNat', UInt8.toNat_ofNat']
      omega
    rw [e8, e9, Int.toNat_natCast, Int.toNat_natCast]
    rfl
  · rename_i h5
    injection h with h1
    exact absurd h1 h5

/-- No packet is read of fewer bytes than it has. -/
theorem read_cut {c i : Int} {a : ByteArray} {l : List At} (h : rightP c i a l = true) (k : Nat) (hk : k < (wireP c i a l).size) : readP ((wireP c i a l).extract 0 k) = noR 2 := by
  obtain ⟨⟨⟨hc, hc2⟩, ⟨hi, hi2⟩, ha⟩, hl, hz⟩ := right_iff.1 h
  have hw := wire_size c i a l
  have hs : ((wireP c i a l).extract 0 k).size = k := by rw [ByteArray.size_extract]; omega
  have b : ∀ j, j < 20 → 20 ≤ k → bAt ((wireP c i a l).extract 0 k) j = bAt (wireP c i a l) j := by
    intro j h1 h2
    unfold bAt
    rw [list_extract, List.drop_zero, List.getD_eq_getElem?_getD, List.getD_eq_getElem?_getD, List.getElem?_take_of_lt (by omega)]
  unfold readP
  rw [hs]
  by_cases h20 : k < 20
  · rw [if_pos h20]
  · have bl : longN ((wireP c i a l).extract 0 k) = 20 + (bytesT l).size := by
      rw [← wire_long c i a l hz]
      unfold longN
      rw [b 2 (by omega) (by omega), b 3 (by omega) (by omega)]
    have b0 : (bAt ((wireP c i a l).extract 0 k) 0 : Int) = c := by rw [b 0 (by omega) (by omega), wire_c _ _ _ _ (by omega)]
    rw [if_neg h20, bl, if_neg (by omega), if_neg (by omega), if_pos (by omega)]

/-- With a value in the first attribute of a type, or with such a one behind all. -/
def putA : List At → Int → ByteArray → List At
  | [], k, v => [(k, v)]
  | x :: l, k, v => if x.1 = k then (k, v) :: l else x :: putA l k v

/-- Without a type. -/
def outA (l : List At) (k : Int) : List At := l.filter fun x => !(x.1 == k)

theorem put_find (l : List At) (k : Int) (v : ByteArray) : findV (putA l k v) k = (v, true) := by
  have : ∃ r, allV (putA l k v) k = v :: r := by
    induction l with
    | nil => exact ⟨[], by simp [putA, allV]⟩
    | cons x l ih =>
      rw [putA]
      split
      · exact ⟨allV l k, by simp [allV]⟩
      · rename_i h
        obtain ⟨r, e⟩ := ih
        exact ⟨r, by rw [← e]; simp [allV, h]⟩
  obtain ⟨r, e⟩ := this
  unfold findV
  rw [e]

theorem out_find (l : List At) (k : Int) : findV (outA l k) k = (⟨#[]⟩, false) := by
  have : allV (outA l k) k = [] := by
    simp [allV, outA]
  unfold findV
  rw [this]

theorem put_length (l : List At) (k : Int) (v : ByteArray) : (putA l k v).length ≤ l.length + 1 := by
  induction l with
  | nil => exact Nat.le_refl _
  | cons x l ih =>
    rw [putA]
    split
    · simp
    · simp; omega

theorem out_length (l : List At) (k : Int) : (outA l k).length ≤ l.length := List.length_filter_le _ _

end Pac
end Go.Proofs.YtaeeonohakkgbaaDoor
