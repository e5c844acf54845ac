/-
  Attributes as plain data (no program): which are right, their bytes, what bytes say, what is found, split, exchanged, and how long they are.
-/
import Derived.Test.YtaeeonohakkgbaaDoorOctNum
namespace Go.Proofs.YtaeeonohakkgbaaDoor
namespace Att
open Oct

/-- An attribute: its type, and its value. -/
abbrev At := Int × ByteArray

def rightA (a : At) : Bool := decide (1 ≤ a.1) && decide (a.1 ≤ 255) && decide (a.2.size ≤ 253)

/-- The bytes of one. -/
def oneW (a : At) : List UInt8 := UInt8.ofNat a.1.toNat :: UInt8.ofNat (2 + a.2.size) :: a.2.data.toList

def wireA (l : List At) : List UInt8 := (l.map oneW).flatten

/-- What Bytes answers: the error, and the text. -/
def bytesE (l : List At) : Int := if 64 < l.length then 4 else if l.all rightA then 0 else 1
def bytesT (l : List At) : ByteArray := if bytesE l = 0 then ⟨(wireA l).toArray⟩ else ⟨#[]⟩

/-- What bytes say, where m more may come. -/
def readL : Nat → List UInt8 → List At → Int × List At
  | _, [], acc => (0, acc)
  | 0, _ :: _, _ => (4, [])
  | _ + 1, [_], _ => (2, [])
  | m + 1, b0 :: b1 :: s, acc => if b0.toNat < 1 ∨ b1.toNat < 2 then (3, []) else if s.length + 2 < b1.toNat then (2, []) else readL m (s.drop (b1.toNat - 2)) (acc ++ [((b0.toNat : Int), ⟨(s.take (b1.toNat - 2)).toArray⟩)])

theorem list_two (t : ByteArray) (h : 2 ≤ t.size) : t.data.toList = t[0] :: t[1] :: t.data.toList.drop 2 := by
  obtain ⟨⟨l⟩⟩ := t
  match l, h with
  | a :: b :: l, _ => rfl

theorem size_list (t : ByteArray) : t.data.toList.length = t.size := by rw [Array.length_toList]; rfl

theorem list_extract (t : ByteArray) (a b : Nat) : (t.extract a b).data.toList = (t.data.toList.drop a).take (b - a) := by
  rw [ByteArray.data_extract, Array.toList_extract, List.extract_eq_take_drop]

theorem readL_done (m : Nat) (acc : List At) : readL m [] acc = (0, acc) := by cases m <;> rfl

theorem readL_many (t : ByteArray) (h : t.size ≠ 0) (acc : List At) : readL 0 t.data.toList acc = (4, []) := by
  obtain ⟨⟨l⟩⟩ := t
  match l, h with
  | _ :: _, _ => rfl

theorem readL_one (m : Nat) (t : ByteArray) (h : t.size = 1) (acc : List At) : readL (m + 1) t.data.toList acc = (2, []) := by
  obtain ⟨⟨l⟩⟩ := t
  match l, h with
  | [_], _ => rfl

theorem readL_form (m : Nat) (t : ByteArray) (h : 2 ≤ t.size) (hf : t[0].toNat < 1 ∨ t[1].toNat < 2) (acc : List At) : readL (m + 1) t.data.toList acc = (3, []) := by
  rw [list_two t h, readL, if_pos hf]

theorem readL_short (m : Nat) (t : ByteArray) (h : 2 ≤ t.size) (hf : ¬ (t[0].toNat < 1 ∨ t[1].toNat < 2)) (hs : t.size < t[1].toNat) (acc : List At) : readL (m + 1) t.data.toList acc = (2, []) := by
  rw [list_two t h, readL, if_neg hf, if_pos (by rw [List.length_drop, size_list]; omega)]

theorem readL_next (m : Nat) (t : ByteArray) (h : 2 ≤ t.size) (hf : ¬ (t[0].toNat < 1 ∨ t[1].toNat < 2)) (hs : ¬ t.size < t[1].toNat) (acc : List At) :
    readL (m + 1) t.data.toList acc = readL m (t.extract t[1].toNat t.size).data.toList (acc ++ [((t[0].toNat : Int), t.extract 2 t[1].toNat)]) := by
  conv => lhs; rw [list_two t h, readL, if_neg hf, if_neg (by rw [List.length_drop, size_list]; omega)]
  have e1 : (t.extract t[1].toNat t.size).data.toList = (t.data.toList.drop 2).drop (t[1].toNat - 2) := by
    rw [list_extract, List.drop_drop, show 2 + (t[1].toNat - 2) = t[1].toNat by omega]
    apply List.take_of_length_le
    rw [List.length_drop, size_list]
    omega
  have e2 : (⟨((t.data.toList.drop 2).take (t[1].toNat - 2)).toArray⟩ : ByteArray) = t.extract 2 t[1].toNat := by
    apply ByteArray.ext
    apply Array.toList_inj.1
    rw [list_extract]
  rw [e1, e2]

theorem right_iff (a : At) : rightA a = true ↔ 1 ≤ a.1 ∧ a.1 ≤ 255 ∧ a.2.size ≤ 253 := by
  simp [rightA, Bool.and_eq_true, and_assoc]

theorem oneW_length (a : At) : (oneW a).length = 2 + a.2.size := by
  simp [oneW]; omega

/-- What is written is read. -/
theorem read_wire : ∀ (l : List At) (m : Nat) (acc : List At), l.length ≤ m → l.all rightA = true → readL m (wireA l) acc = (0, acc ++ l)
  | [], m, acc, _, _ => by rw [show wireA [] = [] from rfl, readL_done, List.append_nil]
  | a :: l, 0, _, h, _ => by simp at h
  | a :: l, m + 1, acc, h, hr => by
    rw [List.all_cons, Bool.and_eq_true] at hr
    obtain ⟨h1, h2, h3⟩ := (right_iff a).1 hr.1
    have e : wireA (a :: l) = UInt8.ofNat a.1.toNat :: UInt8.ofNat (2 + a.2.size) :: (a.2.data.toList ++ wireA l) := rfl
    have t0 : (UInt8.ofNat a.1.toNat).toNat = a.1.toNat := by rw [UInt8.toNat_ofNat']; omega
    have t1 : (UInt8.ofNat (2 + a.2.size)).toNat = 2 + a.2.size := by rw [UInt8.toNat_ofNat']; omega
    rw [e, readL, t0, t1, if_neg (by omega), if_neg (by rw [List.length_append, size_list]; omega)]
    have d1 : (a.2.data.toList ++ wireA l).drop (2 + a.2.size - 2) = wireA l := by
      rw [show 2 + a.2.size - 2 = a.2.data.toList.length by rw [size_list]; omega, List.drop_left]
    have d2 : (a.2.data.toList ++ wireA l).take (2 + a.2.size - 2) = a.2.data.toList := by
      rw [show 2 + a.2.size - 2 = a.2.data.toList.length by rw [size_list]; omega, List.take_left]
    rw [d1, d2]
    have e3 : ((a.1.toNat : Int), (⟨a.2.data.toList.toArray⟩ : ByteArray)) = a := by
      obtain ⟨x, y⟩ := a
      simp at h1 ⊢
      omega
    rw [e3, read_wire l m (acc ++ [a]) (by simpa using h) hr.2]
    simp

/-- What is read is written so. -/
theorem wire_read : ∀ (m : Nat) (s : List UInt8) (acc r : List At), readL m s acc = (0, r) → ∃ x, r = acc ++ x ∧ x.length ≤ m ∧ x.all rightA = true ∧ wireA x = s
  | m, [], acc, r, h => by
    rw [readL_done] at h
    exact ⟨[], by simpa using h.symm, Nat.zero_le _, rfl, rfl⟩
  | 0, _ :: _, acc, r, h => by simp [readL] at h
  | m + 1, [_], acc, r, h => by simp [readL] at h
  | m + 1, b0 :: b1 :: s, acc, r, h => by
    rw [readL] at h
    split at h
    · simp at h
    · rename_i hf
      split at h
      · simp at h
      · rename_i hs
        obtain ⟨x, rfl, hl, hr, hw⟩ := wire_read m _ _ _ h
        refine ⟨((b0.toNat : Int), ⟨(s.take (b1.toNat - 2)).toArray⟩) :: x, by simp, by simp; omega, ?_, ?_⟩
        · have hb := b0.toNat_lt
          have hb1 := b1.toNat_lt
          rw [List.all_cons, hr, Bool.and_true, right_iff]
          have e : (⟨(s.take (b1.toNat - 2)).toArray⟩ : ByteArray).size = (s.take (b1.toNat - 2)).length := List.size_toArray
          refine ⟨by show (1 : Int) ≤ b0.toNat; omega, by show (b0.toNat : Int) ≤ 255; omega, ?_⟩
          show ByteArray.size _ ≤ 253
          rw [e, List.length_take]
          omega
        · show oneW _ ++ wireA x = _
          have e : (⟨(s.take (b1.toNat - 2)).toArray⟩ : ByteArray).size = b1.toNat - 2 := by
            show (s.take (b1.toNat - 2)).toArray.size = _
            rw [List.size_toArray, List.length_take]; omega
          rw [hw, oneW, e]
          show UInt8.ofNat ((b0.toNat : Int).toNat) :: UInt8.ofNat (2 + (b1.toNat - 2)) :: (s.take (b1.toNat - 2) ++ s.drop (b1.toNat - 2)) = _
          rw [show 2 + (b1.toNat - 2) = b1.toNat by omega, Int.toNat_natCast, UInt8.ofNat_toNat, UInt8.ofNat_toNat, List.take_append_drop]

theorem bytesE_zero {l : List At} (h : bytesE l = 0) : l.length ≤ 64 ∧ l.all rightA = true := by
  unfold bytesE at h
  split at h
  · cases h
  · split at h
    · exact ⟨by omega, by assumption⟩
    · cases h

/-- Bytes, then Read. -/
theorem read_bytes {l : List At} (h : bytesE l = 0) : readL 64 (bytesT l).data.toList [] = (0, l) := by
  obtain ⟨h1, h2⟩ := bytesE_zero h
  unfold bytesT
  rw [if_pos h]
  exact (read_wire l 64 [] h1 h2).trans (by rw [List.nil_append])

/-- Read, then Bytes. -/
theorem bytes_read {s : ByteArray} {x : List At} (h : readL 64 s.data.toList [] = (0, x)) : bytesE x = 0 ∧ bytesT x = s := by
  obtain ⟨y, hy, hl, hr, hw⟩ := wire_read _ _ _ _ h
  rw [List.nil_append] at hy
  subst hy
  have h0 : bytesE x = 0 := by unfold bytesE; rw [if_neg (by omega), if_pos hr]
  refine ⟨h0, ?_⟩
  unfold bytesT
  rw [if_pos h0, hw]

/-- The values of a type. -/
def allV (l : List At) (k : Int) : List ByteArray := (l.filter (fun a => a.1 == k)).map (·.2)

theorem allV_snoc (l : List At) (a : At) (k : Int) : allV (l ++ [a]) k = if a.1 = k then allV l k ++ [a.2] else allV l k := by
  unfold allV
  rw [List.filter_append, List.map_append]
  by_cases h : a.1 = k
  · rw [if_pos h]; simp [h]
  · rw [if_neg h]; simp [h]

theorem allV_take (l : List At) (j : Nat) (h : j < l.length) (k : Int) : allV (l.take (j + 1)) k = if l[j].1 = k then allV (l.take j) k ++ [l[j].2] else allV (l.take j) k := by
  rw [List.take_succ_eq_append_getElem h, allV_snoc]

theorem allV_length (l : List At) (k : Int) : (allV l k).length ≤ l.length := by
  unfold allV
  rw [List.length_map]
  exact List.length_filter_le _ _

/-- The first of them, and whether there is one. -/
def findV (l : List At) (k : Int) : ByteArray × Bool := match allV l k with | [] => (⟨#[]⟩, false) | v :: _ => (v, true)

/-- Two places exchanged. -/
def swapA (l : List At) (i k : Int) : List At := if 0 ≤ i ∧ i < l.length ∧ 0 ≤ k ∧ k < l.length then (l.set i.toNat (l.getD k.toNat default)).set k.toNat (l.getD i.toNat default) else l

/-- The texts of a list, one behind the other. -/
def catS (xs : List ByteArray) : ByteArray := ⟨(xs.map (·.data.toList)).flatten.toArray⟩

theorem catS_snoc (xs : List ByteArray) (s : ByteArray) : catS (xs ++ [s]) = catS xs ++ s := by
  apply ByteArray.ext
  simp [catS]

theorem catS_size (xs : List ByteArray) : (catS xs).size = (xs.map (·.data.toList)).flatten.length := by
  show (xs.map (·.data.toList)).flatten.toArray.size = _
  rw [List.size_toArray]

end Att
end Go.Proofs.YtaeeonohakkgbaaDoor
