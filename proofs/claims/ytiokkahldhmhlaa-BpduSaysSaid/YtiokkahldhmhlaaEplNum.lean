/-
  Plain facts on what is said in frames of 802.1X (no program): its bytes, what is read of any bytes, and that what is written is read.
-/
import Derived.Test.YtiokkahldhmhlaaEthNum
namespace Go.Proofs.Ytiokkahldhmhlaa
namespace Epl
open Oct Mac Eth

/-- The number of one byte. -/
def n1 (s : ByteArray) (a : Nat) : Nat := (getR s a 1).1

theorem n1_mid (A X B : List UInt8) (a : Nat) (hA : A.length = a) (hX : X.length = 1) : n1 (ofL (A ++ X ++ B)) a = getL 0 X := by
  unfold n1
  have := getR_mid A X B a 1 hA hX (by omega) (by omega)
  rw [show ((1 : Nat) : Int) = 1 by rfl] at this
  rw [this]

theorem n1_at (s : ByteArray) (a : Nat) (h : a < s.size) : n1 s a = s[a].toNat := by
  have hl : a < s.data.toList.length := by rw [Array.length_toList]; exact h
  have e : s.data.toList = s.data.toList.take a ++ [s.data.toList[a]] ++ s.data.toList.drop (a + 1) := by
    rw [List.append_assoc, List.singleton_append, ← List.drop_eq_getElem_cons hl, List.take_append_drop]
  have h2 := n1_mid (s.data.toList.take a) [s.data.toList[a]] (s.data.toList.drop (a + 1)) a (by simp; omega) rfl
  rw [← e, ofL_self] at h2
  rw [h2]
  simp [getL]
  rfl

theorem getR_one (s : ByteArray) (a : Nat) (h : a < s.size) : getR s a 1 = (s[a].toNat, 0) := by
  have h1 := n1_at s a h
  unfold n1 at h1
  have h2 : (getR s a 1).2 = 0 := by
    unfold getR
    have e0 : cutE s.size a 1 = 0 := by rw [cutE_zero]; omega
    rw [if_neg (by omega), if_neg (by simp only [e0]; simp)]
  exact Prod.ext h1 h2

theorem n1_lt (s : ByteArray) (a : Nat) : n1 s a < 256 := by
  by_cases h : a < s.size
  · rw [n1_at s a h]; exact s[a].toNat_lt
  · unfold n1 getR
    rw [if_neg (by omega), if_pos (by rw [ne_eq, cutE_zero]; omega)]
    simp

/-- Whether it can be said. -/
def rightE (v t : Int) (b : ByteArray) : Bool := decide (1 ≤ v ∧ v ≤ 255 ∧ b.size ≤ 1024 ∧ (t = 0 ∨ t = 3 ∨ (t = 1 ∨ t = 2) ∧ b.size = 0))

/-- Its bytes. -/
def wireE (v t : Nat) (b : ByteArray) : ByteArray := ofL [UInt8.ofNat v, UInt8.ofNat t] ++ ofL (putL b.size 2) ++ b

structure Epo where
  v : Nat
  t : Nat
  b : ByteArray

instance : DecidableEq Epo := fun x y => decidable_of_iff (x.v = y.v ∧ x.t = y.t ∧ x.b = y.b) (by cases x; cases y; simp)

def zeroE : Epo := ⟨0, 0, ⟨#[]⟩⟩

/-- What is wrong with a text as one, and the one. -/
def eErr (s : ByteArray) : Int :=
  if s.size < 4 then 2 else if 3 < n1 s 1 then 10 else if 1024 < n2 s 2 then 4 else if s.size < 4 + n2 s 2 then 2 else if n1 s 0 = 0 then 3 else 0
def eVal (s : ByteArray) : Epo :=
  if eErr s ≠ 0 then zeroE else ⟨n1 s 0, n1 s 1, if n1 s 1 = 1 ∨ n1 s 1 = 2 then ⟨#[]⟩ else s.extract 4 (4 + n2 s 2)⟩

theorem size_zero {b : ByteArray} (h : b.size = 0) : b = ⟨#[]⟩ := by
  apply ByteArray.ext
  exact Array.size_eq_zero_iff.1 h

theorem wireE_size (v t : Nat) (b : ByteArray) : (wireE v t b).size = 4 + b.size := by
  unfold wireE
  simp [ByteArray.size_append, ofL_size, putL_length]

theorem wireE_eq (v t : Nat) (l : List UInt8) : wireE v t (ofL l) = ofL ([UInt8.ofNat v, UInt8.ofNat t] ++ putL l.length 2 ++ l) := by
  unfold wireE
  rw [ofL_append, ofL_append, ofL_size]

theorem extract_within (A X B : List UInt8) (a k : Nat) (hA : A.length = a) (hX : X.length = k) : (ofL (A ++ X ++ B)).extract a (a + k) = ofL X := by
  apply ByteArray.ext
  simp only [ByteArray.data_extract]
  apply Array.ext'
  rw [Array.toList_extract, List.extract_eq_take_drop, ← hA, List.append_assoc]
  simp [← hX]

theorem read_wireE (v t : Nat) (b S : ByteArray) (h : rightE v t b = true) : eErr (wireE v t b ++ S) = 0 ∧ eVal (wireE v t b ++ S) = ⟨v, t, b⟩ := by
  unfold rightE at h
  simp only [decide_eq_true_eq] at h
  obtain ⟨h1, h2, h3, h4⟩ := h
  obtain ⟨l, rfl⟩ : ∃ l, b = ofL l := ⟨_, (ofL_self b).symm⟩
  obtain ⟨m, rfl⟩ : ∃ m, S = ofL m := ⟨_, (ofL_self S).symm⟩
  rw [wireE_eq, ofL_append]
  rw [ofL_size] at h3 h4
  have a0 : n1 (ofL ([UInt8.ofNat v, UInt8.ofNat t] ++ putL l.length 2 ++ l ++ m)) 0 = v := by
    have := n1_mid [] [UInt8.ofNat v] ([UInt8.ofNat t] ++ putL l.length 2 ++ l ++ m) 0 rfl rfl
    simp only [List.nil_append, List.append_assoc, List.cons_append] at this ⊢
    rw [this]
    simp [getL]
    omega
  have a1 : n1 (ofL ([UInt8.ofNat v, UInt8.ofNat t] ++ putL l.length 2 ++ l ++ m)) 1 = t := by
    have := n1_mid [UInt8.ofNat v] [UInt8.ofNat t] (putL l.length 2 ++ l ++ m) 1 rfl rfl
    simp only [List.nil_append, List.append_assoc, List.cons_append] at this ⊢
    rw [this]
    simp [getL]
    omega
  have a2 : n2 (ofL ([UInt8.ofNat v, UInt8.ofNat t] ++ putL l.length 2 ++ l ++ m)) 2 = l.length := by
    have := n2_mid [UInt8.ofNat v, UInt8.ofNat t] (putL l.length 2) (l ++ m) 2 rfl (putL_length _ _)
    simp only [List.nil_append, List.append_assoc, List.cons_append] at this ⊢
    rw [this]
    exact putL2 _ (by omega)
  have a3 : (ofL ([UInt8.ofNat v, UInt8.ofNat t] ++ putL l.length 2 ++ l ++ m)).extract 4 (4 + l.length) = ofL l :=
    extract_within ([UInt8.ofNat v, UInt8.ofNat t] ++ putL l.length 2) l m 4 l.length (by simp [putL_length]) rfl
  have hz : (ofL ([UInt8.ofNat v, UInt8.ofNat t] ++ putL l.length 2 ++ l ++ m)).size = 4 + l.length + m.length := by
    rw [ofL_size]; simp [putL_length]; omega
  have he : eErr (ofL ([UInt8.ofNat v, UInt8.ofNat t] ++ putL l.length 2 ++ l ++ m)) = 0 := by
    unfold eErr
    rw [a0, a1, a2, hz, if_neg (by omega), if_neg (by omega), if_neg (by omega), if_neg (by omega), if_neg (by omega)]
  refine ⟨he, ?_⟩
  unfold eVal
  rw [he, a0, a1, a2, a3, if_neg (by simp)]
  congr 1
  split
  · have : l.length = 0 := by omega
    rw [List.eq_nil_of_length_eq_zero this]
  · rfl

theorem eVal_right (s : ByteArray) (h : eErr s = 0) : rightE (eVal s).v (eVal s).t (eVal s).b = true := by
  unfold eVal
  rw [if_neg (by simp [h])]
  unfold eErr at h
  have h0 := n1_lt s 0
  split at h
  · simp at h
  split at h
  · simp at h
  split at h
  · simp at h
  split at h
  · simp at h
  split at h
  · simp at h
  simp only [rightE, decide_eq_true_eq]
  refine ⟨by omega, by omega, ?_, ?_⟩
  · split
    · show 0 ≤ 1024; omega
    · rw [ByteArray.size_extract]; omega
  · by_cases ht : n1 s 1 = 1 ∨ n1 s 1 = 2
    · rw [if_pos ht]
      exact Or.inr (Or.inr ⟨by omega, rfl⟩)
    · omega

end Epl
end Go.Proofs.Ytiokkahldhmhlaa
