/-
  Plain data of layer 12 (no program): two texts masked, a password hidden and shown block by block, bytes 0 cut off the end; that what is hidden is shown.
-/
import Derived.Test.YtanfmghfmmhglaaDoorDigNum
import Derived.Lib.TrimByte
namespace Go.Proofs.YtanfmghfmmhglaaDoor
namespace Hd
open Dig

/-- The digest as a text. -/
def sumB (s : ByteArray) : ByteArray := ⟨(sumL s.data.toList).toArray⟩

theorem sumB_size (s : ByteArray) : (sumB s).size = 16 := by
  show (sumL s.data.toList).toArray.size = 16
  simp [sumL, outL, lowL]

/-- P12.1. -/
def maskB (a b : ByteArray) : ByteArray := ⟨(List.zipWith (· ^^^ ·) a.data.toList b.data.toList).toArray⟩

theorem maskB_size (a b : ByteArray) : (maskB a b).size = min a.size b.size := by
  show (List.zipWith (· ^^^ ·) a.data.toList b.data.toList).toArray.size = _
  simp

theorem xor_back (x y : UInt8) : x ^^^ y ^^^ y = x := by rw [UInt8.xor_assoc, UInt8.xor_self, UInt8.xor_zero]

theorem maskL_twice : ∀ (a b : List UInt8), List.zipWith (· ^^^ ·) (List.zipWith (· ^^^ ·) a b) b = a.take b.length
  | [], b => by simp
  | a :: l, [] => by simp
  | a :: l, b :: r => by simp [maskL_twice l r, xor_back]

theorem maskB_twice (a b : ByteArray) : maskB (maskB a b) b = a.extract 0 (min a.size b.size) := by
  have h := maskL_twice a.data.toList b.data.toList
  unfold maskB
  rw [List.toList_toArray, h]
  apply ByteArray.ext
  rw [ByteArray.data_extract]
  apply Array.ext'
  simp only [Array.toList_extract, List.extract_eq_take_drop, List.drop_zero, Nat.sub_zero, Array.length_toList, ByteArray.size_data]
  rw [List.take_eq_take_iff]
  simp
  omega

theorem maskL_comm : ∀ (a b : List UInt8), List.zipWith (· ^^^ ·) a b = List.zipWith (· ^^^ ·) b a
  | [], b => by simp
  | a :: l, [] => by simp
  | a :: l, b :: r => by simp [maskL_comm l r, UInt8.xor_comm]

theorem maskB_comm (a b : ByteArray) : maskB a b = maskB b a := by
  unfold maskB
  rw [maskL_comm]

/-- A block hidden, if it was not, and shown, if it was. -/
def turnB (b sec ah : ByteArray) : ByteArray := maskB b (sumB (sec ++ ah))

theorem turnB_size (b sec ah : ByteArray) (h : b.size = 16) : (turnB b sec ah).size = 16 := by
  unfold turnB
  rw [maskB_size, sumB_size, h]
  rfl

theorem turnB_twice (b sec ah : ByteArray) (h : b.size = 16) : turnB (turnB b sec ah) sec ah = b := by
  unfold turnB
  rw [maskB_twice, sumB_size, h]
  have : b.extract 0 (min 16 16) = b.extract 0 b.size := by rw [h]; rfl
  rw [this, ByteArray.extract_zero_size]

theorem left_of (m r : ByteArray) (n : Nat) (h : m.size = n) : (m ++ r).extract 0 n = m := by
  subst h
  apply ByteArray.ext
  apply Array.ext'
  simp
  exact List.take_of_length_le (by simp)

theorem right_of (m r : ByteArray) (n : Nat) (h : m.size = n) : (m ++ r).extract n (m ++ r).size = r := by
  subst h
  apply ByteArray.ext
  apply Array.ext'
  simp
  rw [List.drop_eq_nil_of_le (by simp), List.take_nil, List.nil_append, List.take_of_length_le (by simp)]

theorem app_assoc (a b c : ByteArray) : a ++ b ++ c = a ++ (b ++ c) := by
  apply ByteArray.ext
  simp

theorem two_parts (p : ByteArray) (n : Nat) (h : n ≤ p.size) : p.extract 0 n ++ p.extract n p.size = p := by
  rw [ByteArray.extract_append_extract, Nat.min_eq_left (Nat.zero_le _), Nat.max_eq_right h, ByteArray.extract_zero_size]

/-- P12.3, of n blocks. -/
def hideB (sec : ByteArray) : Nat → ByteArray → ByteArray → ByteArray
  | 0, _, _ => ByteArray.empty
  | n + 1, p, ah => turnB (p.extract 0 16) sec ah ++ hideB sec n (p.extract 16 p.size) (turnB (p.extract 0 16) sec ah)

/-- P12.4, of n blocks, ahead of the zeros at the end. -/
def showB (sec : ByteArray) : Nat → ByteArray → ByteArray → ByteArray
  | 0, _, _ => ByteArray.empty
  | n + 1, p, ah => turnB (p.extract 0 16) sec ah ++ showB sec n (p.extract 16 p.size) (p.extract 0 16)

theorem first_size (p : ByteArray) (n : Nat) (h : p.size = 16 * (n + 1)) : (p.extract 0 16).size = 16 := by
  rw [ByteArray.size_extract]
  omega

theorem rest_size (p : ByteArray) (n : Nat) (h : p.size = 16 * (n + 1)) : (p.extract 16 p.size).size = 16 * n := by
  rw [ByteArray.size_extract]
  omega

theorem hideB_size (sec : ByteArray) : ∀ (n : Nat) (p ah : ByteArray), p.size = 16 * n → (hideB sec n p ah).size = 16 * n
  | 0, _, _, _ => rfl
  | n + 1, p, ah, h => by
    show (turnB (p.extract 0 16) sec ah ++ hideB sec n (p.extract 16 p.size) (turnB (p.extract 0 16) sec ah)).size = _
    rw [ByteArray.size_append, hideB_size sec n _ _ (rest_size p n h), turnB_size _ _ _ (first_size p n h)]
    omega

theorem showB_size (sec : ByteArray) : ∀ (n : Nat) (p ah : ByteArray), p.size = 16 * n → (showB sec n p ah).size = 16 * n
  | 0, _, _, _ => rfl
  | n + 1, p, ah, h => by
    show (turnB (p.extract 0 16) sec ah ++ showB sec n (p.extract 16 p.size) (p.extract 0 16)).size = _
    rw [ByteArray.size_append, showB_size sec n _ _ (rest_size p n h), turnB_size _ _ _ (first_size p n h)]
    omega

theorem show_hide (sec : ByteArray) : ∀ (n : Nat) (p ah : ByteArray), p.size = 16 * n → showB sec n (hideB sec n p ah) ah = p
  | 0, p, _, h => by
    have : p = ByteArray.empty := by
      apply ByteArray.ext
      apply Array.eq_empty_of_size_eq_zero
      simpa using h
    rw [this]
    rfl
  | n + 1, p, ah, h => by
    have hb := first_size p n h
    have hm := turnB_size (p.extract 0 16) sec ah hb
    show turnB ((turnB (p.extract 0 16) sec ah ++ hideB sec n (p.extract 16 p.size) (turnB (p.extract 0 16) sec ah)).extract 0 16) sec ah
      ++ showB sec n ((turnB (p.extract 0 16) sec ah ++ hideB sec n (p.extract 16 p.size) (turnB (p.extract 0 16) sec ah)).extract 16 (turnB (p.extract 0 16) sec ah ++ hideB sec n (p.extract 16 p.size) (turnB (p.extract 0 16) sec ah)).size)
        ((turnB (p.extract 0 16) sec ah ++ hideB sec n (p.extract 16 p.size) (turnB (p.extract 0 16) sec ah)).extract 0 16) = p
    rw [left_of _ _ _ hm, right_of _ _ _ hm, turnB_twice _ _ _ hb, show_hide sec n _ _ (rest_size p n h)]
    exact two_parts p 16 (by omega)

/-- The bytes 0 at the end cut off. -/
def trimB (s : ByteArray) : ByteArray := ⟨(Lib.trimRightB s.data.toList 0).toArray⟩

theorem trimB_pad (s : ByteArray) (n : Nat) : trimB (s ++ ⟨(List.replicate n 0).toArray⟩) = trimB s := by
  unfold trimB Lib.trimRightB
  congr 3
  rw [ByteArray.data_append, Array.toList_append, List.reverse_append]
  show List.dropWhile _ ((List.replicate n (0 : UInt8)).reverse ++ _) = _
  rw [List.reverse_replicate]
  induction n with
  | zero => simp
  | succ n ih =>
    rw [List.replicate_succ, List.cons_append, List.dropWhile_cons_of_pos (by simp)]
    exact ih

theorem trimB_step (s : ByteArray) (h : 0 < s.size) (hz : s[s.size - 1]'(by omega) = 0) : trimB (s.extract 0 (s.size - 1)) = trimB s := by
  have e : s = s.extract 0 (s.size - 1) ++ ⟨(List.replicate 1 0).toArray⟩ := by
    have h1 := two_parts s (s.size - 1) (by omega)
    have h2 : s.extract (s.size - 1) s.size = ⟨(List.replicate 1 0).toArray⟩ := by
      apply ByteArray.ext
      apply Array.ext
      · simp
        omega
      · intro i h3 h4
        simp at h4
        subst h4
        simp only [ByteArray.data_extract, Array.getElem_extract, Nat.add_zero]
        simpa using! hz
    rw [h2] at h1
    exact h1.symm
  conv => rhs; rw [e]
  rw [trimB_pad]

theorem trimB_stop (s : ByteArray) (hz : ∀ h : 0 < s.size, s[s.size - 1]'(by omega) ≠ 0) : trimB s = s := by
  unfold trimB
  rw [Lib.trimRightB_take s.data.toList 0 s.data.toList.length (Nat.le_refl _) (fun j b hj hb => ?_) (fun b hk hb => ?_)]
  · rw [List.take_length]
  · rw [List.getElem?_eq_none hj] at hb
    cases hb
  · have hk' : 0 < s.size := by simpa using hk
    have := hz hk'
    have hx : s.data.toList[s.data.toList.length - 1]? = some (s[s.size - 1]'(by omega)) := by
      rw [List.getElem?_eq_getElem (by simp; omega)]
      simp
      rfl
    rw [hx] at hb
    rw [← Option.some.inj hb]
    exact this

theorem trimB_le (s : ByteArray) : (trimB s).size ≤ s.size := by
  have h : ∀ l : List UInt8, (l.dropWhile (· == (0 : UInt8))).length ≤ l.length := fun l => by
    induction l with
    | nil => simp
    | cons a l ih =>
      rw [List.dropWhile_cons]
      split
      · simp
        omega
      · simp
  show (Lib.trimRightB s.data.toList 0).toArray.size ≤ _
  unfold Lib.trimRightB
  have := h s.data.toList.reverse
  simp at this ⊢
  exact this

end Hd
end Go.Proofs.YtanfmghfmmhglaaDoor
