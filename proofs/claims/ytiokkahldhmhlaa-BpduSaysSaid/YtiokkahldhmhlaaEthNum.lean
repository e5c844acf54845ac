/-
  Plain facts on the bytes of frames (no program): what stands in a text at a place, a frame's fields in its bytes, and the bytes of its fields.
-/
import Derived.Test.YtiokkahldhmhlaaMacNum
namespace Go.Proofs.Ytiokkahldhmhlaa
namespace Eth
open Oct Mac

/-- A text of these bytes. -/
abbrev ofL (l : List UInt8) : ByteArray := ⟨l.toArray⟩

theorem ofL_size (l : List UInt8) : (ofL l).size = l.length := by show l.toArray.size = _; simp
theorem ofL_append (l m : List UInt8) : ofL l ++ ofL m = ofL (l ++ m) := by apply ByteArray.ext; simp
theorem ofL_self (s : ByteArray) : ofL s.data.toList = s := by apply ByteArray.ext; simp
theorem ofL_inj {l m : List UInt8} (h : ofL l = ofL m) : l = m := by have := congrArg (fun s => s.data.toList) h; simpa using this

theorem getR_mid (A X B : List UInt8) (a k : Nat) (hA : A.length = a) (hX : X.length = k) (h1 : 1 ≤ k) (h8 : k ≤ 8) : getR (ofL (A ++ X ++ B)) a k = (getL 0 X, 0) := by
  have hz : (ofL (A ++ X ++ B)).size = a + k + B.length := by rw [ofL_size]; simp; omega
  have e0 : cutE (ofL (A ++ X ++ B)).size a k = 0 := by rw [cutE_zero, hz]; omega
  unfold getR
  rw [if_neg (by omega), if_neg (by simp only [e0]; simp)]
  have e : (cutS (ofL (A ++ X ++ B)) a k).data.toList = X := by
    unfold cutS
    rw [if_pos e0, Int.toNat_natCast, show ((a : Int) + k).toNat = a + k by omega]
    simp only [ByteArray.data_extract]
    rw [Array.toList_extract, List.extract_eq_take_drop, ← hA, List.append_assoc]
    simp [← hX]
  rw [e]

theorem extract_mid (A B : List UInt8) (a : Nat) (hA : A.length = a) : (ofL (A ++ B)).extract a (ofL (A ++ B)).size = ofL B := by
  apply ByteArray.ext
  rw [ofL_size]
  simp only [ByteArray.data_extract]
  apply Array.ext'
  rw [Array.toList_extract, List.extract_eq_take_drop, ← hA]
  simp

/-- The number of two bytes, and of six. -/
def n2 (s : ByteArray) (a : Nat) : Nat := (getR s a 2).1
def n6 (s : ByteArray) (a : Nat) : Nat := (getR s a 6).1

theorem n2_mid (A X B : List UInt8) (a : Nat) (hA : A.length = a) (hX : X.length = 2) : n2 (ofL (A ++ X ++ B)) a = getL 0 X := by
  unfold n2
  have := getR_mid A X B a 2 hA hX (by omega) (by omega)
  rw [show ((2 : Nat) : Int) = 2 by rfl] at this
  rw [this]

theorem n6_mid (A X B : List UInt8) (a : Nat) (hA : A.length = a) (hX : X.length = 6) : n6 (ofL (A ++ X ++ B)) a = getL 0 X := by
  unfold n6
  have := getR_mid A X B a 6 hA hX (by omega) (by omega)
  rw [show ((6 : Nat) : Int) = 6 by rfl] at this
  rw [this]

theorem getL_lt2 (x : List UInt8) (h : x.length = 2) : getL 0 x < 65536 := by
  have := getL_lt x
  rw [h] at this
  exact this

theorem n2_lt (s : ByteArray) (a : Nat) : n2 s a < 65536 := by
  unfold n2 getR
  split
  · simp
  · split
    · simp
    · rename_i h
      have h' : cutE s.size a 2 = 0 := by omega
      have hz := cutS_size s a 2 h'
      have hn : (cutS s a 2).data.toList.length = 2 := by
        have : (cutS s a 2).data.toList.length = (cutS s a 2).size := by rw [Array.length_toList]; rfl
        omega
      exact getL_lt2 _ hn

theorem n6_lt (s : ByteArray) (a : Nat) : n6 s a < 281474976710656 := by
  unfold n6 getR
  split
  · simp
  · split
    · simp
    · rename_i h
      have h' : cutE s.size a 6 = 0 := by omega
      have hz := cutS_size s a 6 h'
      have hn : (cutS s a 6).data.toList.length = 6 := by
        have : (cutS s a 6).data.toList.length = (cutS s a 6).size := by rw [Array.length_toList]; rfl
        omega
      exact getL_lt6 _ hn

theorem n2_none (s : ByteArray) (a : Nat) (h : s.size < a + 2) : n2 s a = 0 := by
  unfold n2 getR
  rw [if_neg (by omega), if_pos (by rw [ne_eq, cutE_zero]; omega)]

/-- A frame: its fields. -/
structure Frm where
  d : Nat
  s : Nat
  g : Bool
  p : Nat
  v : Nat
  t : Nat
  b : ByteArray

instance : DecidableEq Frm := fun x y => decidable_of_iff (x.d = y.d ∧ x.s = y.s ∧ x.g = y.g ∧ x.p = y.p ∧ x.v = y.v ∧ x.t = y.t ∧ x.b = y.b) (by cases x; cases y; simp)

def zeroF : Frm := ⟨0, 0, false, 0, 0, 0, ⟨#[]⟩⟩

/-- What is wrong with a text as a frame, and the frame. -/
def readE (s : ByteArray) : Int :=
  if 9216 < s.size then 4 else if s.size < 14 ∨ n2 s 12 = 33024 ∧ s.size < 18 then 2 else if n2 s 12 = 33024 ∧ (n2 s 16 = 33024 ∨ n2 s 14 / 4096 % 2 = 1) then 3 else 0
def readV (s : ByteArray) : Frm :=
  if readE s ≠ 0 then zeroF else if n2 s 12 = 33024 then ⟨n6 s 0, n6 s 6, true, n2 s 14 / 8192, n2 s 14 % 4096, n2 s 16, s.extract 18 s.size⟩
  else ⟨n6 s 0, n6 s 6, false, 0, 0, n2 s 12, s.extract 14 s.size⟩

/-- A frame's bytes. -/
def wire (f : Frm) : ByteArray :=
  if f.g then ofL (putL f.d 6) ++ ofL (putL f.s 6) ++ (ofL (putL 33024 2) ++ ofL (putL (f.p * 8192 + f.v) 2)) ++ ofL (putL f.t 2) ++ f.b
  else ofL (putL f.d 6) ++ ofL (putL f.s 6) ++ ofL (putL f.t 2) ++ f.b

/-- A right frame. -/
def ok (f : Frm) : Prop := f.d < 281474976710656 ∧ f.s < 281474976710656 ∧ f.t ≤ 65535 ∧ f.t ≠ 33024 ∧ (f.g = true ∧ f.p ≤ 7 ∧ f.v ≤ 4095 ∧ f.b.size ≤ 9198 ∨ f.g = false ∧ f.p = 0 ∧ f.v = 0 ∧ f.b.size ≤ 9202)

theorem putL2 (n : Nat) (h : n < 65536) : getL 0 (putL n 2) = n := by
  rw [getL_putL]
  omega

theorem wire_size (f : Frm) : (wire f).size = (if f.g then 18 else 14) + f.b.size := by
  unfold wire
  split <;> simp [ByteArray.size_append, ofL_size, putL_length]

theorem wire_body (f : Frm) : (wire f).extract (if f.g then 18 else 14) (wire f).size = f.b := by
  unfold wire
  rw [← ofL_self f.b]
  split
  · simp only [ofL_append]
    exact extract_mid _ _ 18 (by simp [putL_length])
  · simp only [ofL_append]
    exact extract_mid _ _ 14 (by simp [putL_length])

theorem read_wire (f : Frm) (h : ok f) : readE (wire f) = 0 ∧ readV (wire f) = f := by
  obtain ⟨h1, h2, h3, h4, h5⟩ := h
  have hw := wire_size f
  have hb := wire_body f
  obtain ⟨d, s, g, p, v, t, b⟩ := f
  simp only at h1 h2 h3 h4 h5 hw hb
  obtain ⟨l, rfl⟩ : ∃ l, b = ofL l := ⟨_, (ofL_self b).symm⟩
  cases g
  · have hz : (ofL l).size ≤ 9202 := by simp at h5; omega
    obtain ⟨rfl, rfl⟩ : p = 0 ∧ v = 0 := by simp at h5; omega
    simp only [Bool.false_eq_true, if_false] at hw hb
    have e : wire ⟨d, s, false, 0, 0, t, ofL l⟩ = ofL (putL d 6 ++ putL s 6 ++ putL t 2 ++ l) := by unfold wire; simp [ofL_append]
    rw [e] at hw hb ⊢
    have a0 : n6 (ofL (putL d 6 ++ putL s 6 ++ putL t 2 ++ l)) 0 = d := by
      have := n6_mid [] (putL d 6) (putL s 6 ++ putL t 2 ++ l) 0 rfl (putL_length _ _)
      rw [getL_putL6 d h1] at this
      simpa using this
    have a6 : n6 (ofL (putL d 6 ++ putL s 6 ++ putL t 2 ++ l)) 6 = s := by
      have := n6_mid (putL d 6) (putL s 6) (putL t 2 ++ l) 6 (putL_length _ _) (putL_length _ _)
      rw [getL_putL6 s h2] at this
      simpa using this
    have a12 : n2 (ofL (putL d 6 ++ putL s 6 ++ putL t 2 ++ l)) 12 = t := by
      have := n2_mid (putL d 6 ++ putL s 6) (putL t 2) l 12 (by simp [putL_length]) (putL_length _ _)
      rw [putL2 t (by omega)] at this
      simpa using this
    have hE : readE (ofL (putL d 6 ++ putL s 6 ++ putL t 2 ++ l)) = 0 := by
      unfold readE
      rw [a12, if_neg (by omega), if_neg (by omega), if_neg (by omega)]
    refine ⟨hE, ?_⟩
    unfold readV
    rw [hE, if_neg (by simp), a12, if_neg h4, a0, a6, hb]
  · have hz : (ofL l).size ≤ 9198 := by simp at h5; omega
    have hp : p ≤ 7 ∧ v ≤ 4095 := by simp at h5; omega
    simp only [if_true] at hw hb
    have e : wire ⟨d, s, true, p, v, t, ofL l⟩ = ofL (putL d 6 ++ putL s 6 ++ putL 33024 2 ++ putL (p * 8192 + v) 2 ++ putL t 2 ++ l) := by unfold wire; simp [ofL_append]
    rw [e] at hw hb ⊢
    have a0 : n6 (ofL (putL d 6 ++ putL s 6 ++ putL 33024 2 ++ putL (p * 8192 + v) 2 ++ putL t 2 ++ l)) 0 = d := by
      have := n6_mid [] (putL d 6) (putL s 6 ++ putL 33024 2 ++ putL (p * 8192 + v) 2 ++ putL t 2 ++ l) 0 rfl (putL_length _ _)
      rw [getL_putL6 d h1] at this
      simpa using this
    have a6 : n6 (ofL (putL d 6 ++ putL s 6 ++ putL 33024 2 ++ putL (p * 8192 + v) 2 ++ putL t 2 ++ l)) 6 = s := by
      have := n6_mid (putL d 6) (putL s 6) (putL 33024 2 ++ putL (p * 8192 + v) 2 ++ putL t 2 ++ l) 6 (putL_length _ _) (putL_length _ _)
      rw [getL_putL6 s h2] at this
      simpa using this
    have a12 : n2 (ofL (putL d 6 ++ putL s 6 ++ putL 33024 2 ++ putL (p * 8192 + v) 2 ++ putL t 2 ++ l)) 12 = 33024 := by
      have := n2_mid (putL d 6 ++ putL s 6) (putL 33024 2) (putL (p * 8192 + v) 2 ++ putL t 2 ++ l) 12 (by simp [putL_length]) (putL_length _ _)
      rw [putL2 33024 (by omega)] at this
      simpa using this
    have a14 : n2 (ofL (putL d 6 ++ putL s 6 ++ putL 33024 2 ++ putL (p * 8192 + v) 2 ++ putL t 2 ++ l)) 14 = p * 8192 + v := by
      have := n2_mid (putL d 6 ++ putL s 6 ++ putL 33024 2) (putL (p * 8192 + v) 2) (putL t 2 ++ l) 14 (by simp [putL_length]) (putL_length _ _)
      rw [putL2 _ (by omega)] at this
      simpa using this
    have a16 : n2 (ofL (putL d 6 ++ putL s 6 ++ putL 33024 2 ++ putL (p * 8192 + v) 2 ++ putL t 2 ++ l)) 16 = t := by
      have := n2_mid (putL d 6 ++ putL s 6 ++ putL 33024 2 ++ putL (p * 8192 + v) 2) (putL t 2) l 16 (by simp [putL_length]) (putL_length _ _)
      rw [putL2 t (by omega)] at this
      simpa using this
    have hE : readE (ofL (putL d 6 ++ putL s 6 ++ putL 33024 2 ++ putL (p * 8192 + v) 2 ++ putL t 2 ++ l)) = 0 := by
      unfold readE
      rw [a12, a14, a16, if_neg (by omega), if_neg (by omega), if_neg (by omega)]
    refine ⟨hE, ?_⟩
    unfold readV
    rw [hE, if_neg (by simp), a12, if_pos rfl, a0, a6, a14, a16, hb, show (p * 8192 + v) / 8192 = p by omega, show (p * 8192 + v) % 4096 = v by omega]

/-- A list's parts. -/
theorem parts3 (l : List UInt8) (h : 14 ≤ l.length) : ∃ D S T B, l = D ++ S ++ T ++ B ∧ D.length = 6 ∧ S.length = 6 ∧ T.length = 2 :=
  ⟨l.take 6, (l.drop 6).take 6, (l.drop 12).take 2, l.drop 14, by
    rw [List.append_assoc, List.append_assoc]
    have e1 : l = l.take 6 ++ l.drop 6 := (List.take_append_drop 6 l).symm
    have e2 : l.drop 6 = (l.drop 6).take 6 ++ l.drop 12 := by have := (List.take_append_drop 6 (l.drop 6)).symm; rwa [List.drop_drop] at this
    have e3 : l.drop 12 = (l.drop 12).take 2 ++ l.drop 14 := by have := (List.take_append_drop 2 (l.drop 12)).symm; rwa [List.drop_drop] at this
    rw [← e3, ← e2, ← e1], by simp; omega, by simp; omega, by simp; omega⟩

theorem wire_read (s : ByteArray) (h : readE s = 0) : wire (readV s) = s ∧ ok (readV s) := by
  have h0 : ¬ 9216 < s.size := by intro hh; unfold readE at h; rw [if_pos hh] at h; simp at h
  have h1 : ¬ (s.size < 14 ∨ n2 s 12 = 33024 ∧ s.size < 18) := by intro hh; unfold readE at h; rw [if_neg h0, if_pos hh] at h; simp at h
  have h2 : ¬ (n2 s 12 = 33024 ∧ (n2 s 16 = 33024 ∨ n2 s 14 / 4096 % 2 = 1)) := by intro hh; unfold readE at h; rw [if_neg h0, if_neg h1, if_pos hh] at h; simp at h
  have l0 := n6_lt s 0
  have l6 := n6_lt s 6
  have l12 := n2_lt s 12
  have l14 := n2_lt s 14
  have l16 := n2_lt s 16
  unfold readV
  rw [if_neg (by simp [h])]
  obtain ⟨l, rfl⟩ : ∃ l, s = ofL l := ⟨_, (ofL_self s).symm⟩
  rw [ofL_size] at h0 h1
  obtain ⟨D, S, T, B, rfl, hD, hS, hT⟩ := parts3 l (by omega)
  have a0 : n6 (ofL (D ++ S ++ T ++ B)) 0 = getL 0 D := by
    have := n6_mid [] D (S ++ T ++ B) 0 rfl hD
    simpa using this
  have a6 : n6 (ofL (D ++ S ++ T ++ B)) 6 = getL 0 S := by
    have := n6_mid D S (T ++ B) 6 hD hS
    simpa using this
  have a12 : n2 (ofL (D ++ S ++ T ++ B)) 12 = getL 0 T := by
    have := n2_mid (D ++ S) T B 12 (by simp [hD, hS]) hT
    simpa using this
  have pD := putL_getL6 D hD
  have pS := putL_getL6 S hS
  have pT : putL (getL 0 T) 2 = T := by have := putL_getL T; rwa [hT] at this
  have lt : ∀ x : List UInt8, (ofL x).size = x.length := ofL_size
  by_cases h3 : n2 (ofL (D ++ S ++ T ++ B)) 12 = 33024
  · rw [if_pos h3]
    have hB : 4 ≤ B.length := by
      have hl : (D ++ S ++ T ++ B).length = 14 + B.length := by simp [hD, hS, hT]; omega
      omega
    obtain ⟨K, M, R, rfl, hK, hM⟩ : ∃ K M R, B = K ++ M ++ R ∧ K.length = 2 ∧ M.length = 2 := ⟨B.take 2, (B.drop 2).take 2, B.drop 4, by
      rw [List.append_assoc]
      have e1 : B = B.take 2 ++ B.drop 2 := (List.take_append_drop 2 B).symm
      have e2 : B.drop 2 = (B.drop 2).take 2 ++ B.drop 4 := by have := (List.take_append_drop 2 (B.drop 2)).symm; rwa [List.drop_drop] at this
      rw [← e2, ← e1], by simp; omega, by simp; omega⟩
    have a14 : n2 (ofL (D ++ S ++ T ++ (K ++ M ++ R))) 14 = getL 0 K := by
      have := n2_mid (D ++ S ++ T) K (M ++ R) 14 (by simp [hD, hS, hT]) hK
      simpa using this
    have a16 : n2 (ofL (D ++ S ++ T ++ (K ++ M ++ R))) 16 = getL 0 M := by
      have := n2_mid (D ++ S ++ T ++ K) M R 16 (by simp [hD, hS, hT, hK]) hM
      simpa using this
    have hb : (ofL (D ++ S ++ T ++ (K ++ M ++ R))).extract 18 (ofL (D ++ S ++ T ++ (K ++ M ++ R))).size = ofL R := by
      have := extract_mid (D ++ S ++ T ++ K ++ M) R 18 (by simp [hD, hS, hT, hK, hM])
      simpa using this
    have pK : putL (getL 0 K) 2 = K := by have := putL_getL K; rwa [hK] at this
    have pM : putL (getL 0 M) 2 = M := by have := putL_getL M; rwa [hM] at this
    rw [a12] at h3
    have hT' : putL 33024 2 = T := by rw [← h3]; exact pT
    rw [hb]
    rw [a0, a6, a14, a16]
    rw [a12, a14, a16] at h2
    rw [a14] at l14
    refine ⟨?_, ?_⟩
    · unfold wire
      simp only [if_true]
      rw [pD, pS, hT', pM, show getL 0 K / 8192 * 8192 + getL 0 K % 4096 = getL 0 K by omega, pK]
      simp [ofL_append]
    · refine ⟨by rw [a0] at l0; exact l0, by rw [a6] at l6; exact l6, ?_, ?_, .inl ⟨rfl, ?_, ?_, ?_⟩⟩
      · rw [a16] at l16; simp only; omega
      · simp only; omega
      · simp only; omega
      · simp only; omega
      · simp only
        rw [ofL_size]
        simp [hD, hS, hT, hK, hM] at h0
        omega
  · rw [if_neg h3]
    have hb : (ofL (D ++ S ++ T ++ B)).extract 14 (ofL (D ++ S ++ T ++ B)).size = ofL B := by
      have := extract_mid (D ++ S ++ T) B 14 (by simp [hD, hS, hT])
      simpa using this
    rw [hb]
    refine ⟨?_, ?_⟩
    · unfold wire
      simp only [Bool.false_eq_true, if_false]
      rw [a0, a6, a12, pD, pS, pT]
      simp [ofL_append]
    · refine ⟨l0, l6, ?_, ?_, .inr ⟨rfl, rfl, rfl, ?_⟩⟩
      · simp only; omega
      · exact h3
      · simp only
        rw [ofL_size]
        simp [hD, hS, hT] at h0
        omega

end Eth
end Go.Proofs.Ytiokkahldhmhlaa
