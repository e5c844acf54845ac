/-
  Plain facts on packets of EAP (no program): their bytes, what is read of any bytes, that what is written is read, and what is read is written so; what is wanted of kinds.
-/
import Derived.Test.YtmgjjcadeikdgaaEplNum
namespace Go.Proofs.Ytmgjjcadeikdgaa
namespace Eap
open Oct Mac Eth Epl

/-- Whether it can be said. -/
def rightP (c i t : Int) (d : ByteArray) : Bool :=
  decide (0 ≤ i ∧ i ≤ 255 ∧ ((c = 1 ∨ c = 2) ∧ 1 ≤ t ∧ t ≤ 255 ∧ d.size ≤ 1019 ∨ (c = 3 ∨ c = 4) ∧ t = 0 ∧ d.size = 0))

/-- What stands behind the length. -/
def restP (c t : Nat) (d : ByteArray) : ByteArray := if c = 1 ∨ c = 2 then ofL (putL t 1) ++ d else ⟨#[]⟩

/-- Its bytes. -/
def wireP (c i t : Nat) (d : ByteArray) : ByteArray := ofL [UInt8.ofNat c, UInt8.ofNat i] ++ ofL (putL (4 + (restP c t d).size) 2) ++ restP c t d

structure Pk where
  c : Nat
  i : Nat
  t : Nat
  d : ByteArray

def zeroP : Pk := ⟨0, 0, 0, ⟨#[]⟩⟩

/-- What is wrong with a text as one, and the one. -/
def pErr (s : ByteArray) : Int :=
  if s.size < 4 then 2 else if 1024 < n2 s 2 then 4 else if s.size < n2 s 2 then 2
  else if n1 s 0 = 1 ∨ n1 s 0 = 2 then (if n2 s 2 < 5 ∨ n1 s 4 = 0 then 3 else 0)
  else if n2 s 2 = 4 ∧ (n1 s 0 = 3 ∨ n1 s 0 = 4) then 0 else 3
def pVal (s : ByteArray) : Pk :=
  if pErr s ≠ 0 then zeroP else if n1 s 0 = 1 ∨ n1 s 0 = 2 then ⟨n1 s 0, n1 s 1, n1 s 4, s.extract 5 (n2 s 2)⟩ else ⟨n1 s 0, n1 s 1, 0, ⟨#[]⟩⟩

theorem restP_size (c t : Nat) (d : ByteArray) : (restP c t d).size = if c = 1 ∨ c = 2 then 1 + d.size else 0 := by
  unfold restP
  split
  · rw [ByteArray.size_append, ofL_size, putL_length]
  · rfl

theorem wireP_size (c i t : Nat) (d : ByteArray) : (wireP c i t d).size = 4 + (restP c t d).size := by
  unfold wireP
  simp [ByteArray.size_append, ofL_size, putL_length]

theorem pErr_zero {s : ByteArray} (h : pErr s = 0) : 4 ≤ s.size ∧ n2 s 2 ≤ 1024 ∧ n2 s 2 ≤ s.size ∧ ((n1 s 0 = 1 ∨ n1 s 0 = 2) ∧ 5 ≤ n2 s 2 ∧ n1 s 4 ≠ 0 ∨ (n1 s 0 = 3 ∨ n1 s 0 = 4) ∧ n2 s 2 = 4) := by
  unfold pErr at h
  split at h
  · simp at h
  split at h
  · simp at h
  split at h
  · simp at h
  split at h
  · split at h
    · simp at h
    · omega
  · split at h
    · omega
    · simp at h

theorem pVal_right (s : ByteArray) (h : pErr s = 0) : rightP (pVal s).c (pVal s).i (pVal s).t (pVal s).d = true := by
  obtain ⟨h1, h2, h3, h4⟩ := pErr_zero h
  have l1 := n1_lt s 1
  have l4 := n1_lt s 4
  unfold pVal
  rw [if_neg (by simp [h])]
  rcases h4 with ⟨h4, h5, h6⟩ | ⟨h4, h5⟩
  · rw [if_pos h4]
    simp only [rightP, decide_eq_true_eq]
    refine ⟨by omega, by omega, Or.inl ⟨by omega, by omega, by omega, ?_⟩⟩
    rw [ByteArray.size_extract]
    omega
  · rw [if_neg (by omega)]
    simp only [rightP, decide_eq_true_eq]
    exact ⟨by omega, by omega, Or.inr ⟨by omega, rfl, rfl⟩⟩

theorem nats (c i t : Int) (d : ByteArray) (h : rightP c i t d = true) : ∃ x y z : Nat, c = x ∧ i = y ∧ t = z ∧ x < 256 ∧ y < 256 ∧ z < 256 ∧ d.size ≤ 1019 ∧ ((x = 1 ∨ x = 2) ∧ 1 ≤ z ∨ (x = 3 ∨ x = 4) ∧ z = 0 ∧ d = ⟨#[]⟩) := by
  unfold rightP at h
  simp only [decide_eq_true_eq] at h
  obtain ⟨h1, h2, h3⟩ := h
  refine ⟨c.toNat, i.toNat, t.toNat, by omega, by omega, by omega, by omega, by omega, by omega, by omega, ?_⟩
  rcases h3 with h3 | ⟨h3, h4, h5⟩
  · exact Or.inl (by omega)
  · exact Or.inr ⟨by omega, by omega, size_zero h5⟩

/-- Four parts of a text of four bytes or more. -/
theorem parts (l : List UInt8) (h : 4 ≤ l.length) : ∃ (a b : UInt8) (N R : List UInt8), l = [a] ++ [b] ++ N ++ R ∧ N.length = 2 := by
  match l, h with
  | a :: b :: c :: d :: R, _ => exact ⟨a, b, [c, d], R, rfl, rfl⟩

theorem heads (a b : UInt8) (N R : List UInt8) (hN : N.length = 2) :
    n1 (ofL ([a] ++ [b] ++ N ++ R)) 0 = a.toNat ∧ n1 (ofL ([a] ++ [b] ++ N ++ R)) 1 = b.toNat ∧ n2 (ofL ([a] ++ [b] ++ N ++ R)) 2 = getL 0 N := by
  refine ⟨?_, ?_, ?_⟩
  · have := n1_mid [] [a] ([b] ++ N ++ R) 0 rfl rfl
    simp only [List.nil_append, List.cons_append] at this ⊢
    rw [this]; simp [getL]
  · have := n1_mid [a] [b] (N ++ R) 1 rfl rfl
    simp only [List.nil_append, List.cons_append] at this ⊢
    rw [this]; simp [getL]
  · have := n2_mid ([a] ++ [b]) N R 2 rfl hN
    simp only [List.nil_append, List.cons_append] at this ⊢
    rw [this]

theorem kind (a b k : UInt8) (N R : List UInt8) (hN : N.length = 2) : n1 (ofL ([a] ++ [b] ++ N ++ ([k] ++ R))) 4 = k.toNat := by
  have := n1_mid ([a] ++ [b] ++ N) [k] R 4 (by simp [hN]) rfl
  simp only [List.append_assoc] at this ⊢
  rw [this]; simp [getL]

theorem read_wireP (c i t : Nat) (d S : ByteArray) (h : rightP c i t d = true) : pErr (wireP c i t d ++ S) = 0 ∧ pVal (wireP c i t d ++ S) = ⟨c, i, t, d⟩ := by
  obtain ⟨x, y, z, e1, e2, e3, hx, hy, hz, hd, hc⟩ := nats c i t d h
  obtain rfl : c = x := by omega
  obtain rfl : i = y := by omega
  obtain rfl : t = z := by omega
  obtain ⟨l, rfl⟩ : ∃ l, d = ofL l := ⟨_, (ofL_self d).symm⟩
  obtain ⟨m, rfl⟩ : ∃ m, S = ofL m := ⟨_, (ofL_self S).symm⟩
  have b1 : (UInt8.ofNat c).toNat = c := by simp; omega
  have b2 : (UInt8.ofNat i).toNat = i := by simp; omega
  have b3 : (UInt8.ofNat t).toNat = t := by simp; omega
  rw [ofL_size] at hd
  rcases hc with ⟨hc, ht⟩ | ⟨hc, ht, hl⟩
  · have hw : wireP c i t (ofL l) ++ ofL m = ofL ([UInt8.ofNat c] ++ [UInt8.ofNat i] ++ putL (5 + l.length) 2 ++ ([UInt8.ofNat t] ++ (l ++ m))) := by
      unfold wireP
      rw [restP_size, if_pos hc, ofL_size]
      unfold restP
      rw [if_pos hc, ofL_append, ofL_append, ofL_append, ofL_append, show 4 + (1 + l.length) = 5 + l.length by omega]
      congr 1
    rw [hw]
    obtain ⟨a0, a1, a2⟩ := heads (UInt8.ofNat c) (UInt8.ofNat i) (putL (5 + l.length) 2) ([UInt8.ofNat t] ++ (l ++ m)) (putL_length _ _)
    have a4 := kind (UInt8.ofNat c) (UInt8.ofNat i) (UInt8.ofNat t) (putL (5 + l.length) 2) (l ++ m) (putL_length _ _)
    rw [b1] at a0
    rw [b2] at a1
    rw [b3] at a4
    rw [putL2 _ (by omega)] at a2
    have a3 : (ofL ([UInt8.ofNat c] ++ [UInt8.ofNat i] ++ putL (5 + l.length) 2 ++ ([UInt8.ofNat t] ++ (l ++ m)))).extract 5 (5 + l.length) = ofL l := by
      have := extract_within ([UInt8.ofNat c] ++ [UInt8.ofNat i] ++ putL (5 + l.length) 2 ++ [UInt8.ofNat t]) l m 5 l.length (by simp [putL_length]) rfl
      simp only [List.append_assoc] at this ⊢
      exact this
    have hs : (ofL ([UInt8.ofNat c] ++ [UInt8.ofNat i] ++ putL (5 + l.length) 2 ++ ([UInt8.ofNat t] ++ (l ++ m)))).size = 5 + l.length + m.length := by
      rw [ofL_size]; simp [putL_length]; omega
    have he : pErr (ofL ([UInt8.ofNat c] ++ [UInt8.ofNat i] ++ putL (5 + l.length) 2 ++ ([UInt8.ofNat t] ++ (l ++ m)))) = 0 := by
      unfold pErr
      rw [a0, a2, a4, hs, if_neg (by omega), if_neg (by omega), if_neg (by omega), if_pos hc, if_neg (by omega)]
    refine ⟨he, ?_⟩
    unfold pVal
    rw [he, if_neg (by simp), a0, a1, a2, a3, a4, if_pos hc]
  · rw [hl, ht]
    have hw : wireP c i 0 ⟨#[]⟩ ++ ofL m = ofL ([UInt8.ofNat c] ++ [UInt8.ofNat i] ++ putL 4 2 ++ m) := by
      unfold wireP
      rw [restP_size, if_neg (by omega)]
      unfold restP
      rw [if_neg (by omega), show (⟨#[]⟩ : ByteArray) = ofL [] by rfl, ofL_append, ofL_append, ofL_append]
      congr 1
    rw [hw]
    obtain ⟨a0, a1, a2⟩ := heads (UInt8.ofNat c) (UInt8.ofNat i) (putL 4 2) m (putL_length _ _)
    rw [b1] at a0
    rw [b2] at a1
    rw [putL2 _ (by omega)] at a2
    have hs : (ofL ([UInt8.ofNat c] ++ [UInt8.ofNat i] ++ putL 4 2 ++ m)).size = 4 + m.length := by
      rw [ofL_size]; simp [putL_length]; omega
    have he : pErr (ofL ([UInt8.ofNat c] ++ [UInt8.ofNat i] ++ putL 4 2 ++ m)) = 0 := by
      unfold pErr
      rw [a0, a2, hs, if_neg (by omega), if_neg (by omega), if_neg (by omega), if_neg (by omega), if_pos (by omega)]
    refine ⟨he, ?_⟩
    unfold pVal
    rw [he, if_neg (by simp), a0, a1, if_neg (by omega)]

theorem wire_read (s : ByteArray) (h : pErr s = 0) : (wireP (pVal s).c (pVal s).i (pVal s).t (pVal s).d).size ≤ s.size ∧
    s.extract 0 (wireP (pVal s).c (pVal s).i (pVal s).t (pVal s).d).size = wireP (pVal s).c (pVal s).i (pVal s).t (pVal s).d := by
  obtain ⟨h1, h2, h3, h4⟩ := pErr_zero h
  obtain ⟨l, rfl⟩ : ∃ l, s = ofL l := ⟨_, (ofL_self s).symm⟩
  rw [ofL_size] at h1 h3
  obtain ⟨a, b, N, R, rfl, hN⟩ := parts l h1
  obtain ⟨a0, a1, a2⟩ := heads a b N R hN
  have pN : putL (getL 0 N) 2 = N := by have := putL_getL N; rwa [hN] at this
  have ba : UInt8.ofNat a.toNat = a := by simp
  have bb : UInt8.ofNat b.toNat = b := by simp
  have hlen : ([a] ++ [b] ++ N ++ R).length = 4 + R.length := by simp [hN]; omega
  rw [hlen] at h3
  unfold pVal
  rw [if_neg (not_not_intro h)]
  have key : ∀ X : List UInt8, (∃ Y, [a] ++ [b] ++ N ++ R = X ++ Y) → (ofL X).size ≤ (ofL ([a] ++ [b] ++ N ++ R)).size ∧ (ofL ([a] ++ [b] ++ N ++ R)).extract 0 (ofL X).size = ofL X := by
    rintro X ⟨Y, e⟩
    rw [e, ofL_size, ofL_size]
    refine ⟨by simp, ?_⟩
    have := extract_within [] X Y 0 X.length rfl rfl
    simpa using this
  rcases h4 with ⟨h4, h5, h6⟩ | ⟨h4, h5⟩
  · rw [if_pos h4]
    obtain ⟨k, R, rfl⟩ : ∃ k T, R = [k] ++ T := by
      have h7 : 1 ≤ R.length := by omega
      match R, h7 with
      | k :: T, _ => exact ⟨k, T, rfl⟩
    · have a4 := kind a b k N R hN
      have bk : UInt8.ofNat k.toNat = k := by simp
      rw [a0] at h4
      rw [a2] at h2 h3 h5
      have hR : getL 0 N - 5 ≤ R.length := by simp at h3; omega
      have ex : (ofL ([a] ++ [b] ++ N ++ ([k] ++ R))).extract 5 (getL 0 N) = ofL (R.take (getL 0 N - 5)) := by
        have := extract_within ([a] ++ [b] ++ N ++ [k]) (R.take (getL 0 N - 5)) (R.drop (getL 0 N - 5)) 5 (getL 0 N - 5) (by simp [hN]) (by simp; omega)
        rw [List.append_assoc, List.take_append_drop, show 5 + (getL 0 N - 5) = getL 0 N by omega] at this
        simp only [List.append_assoc] at this ⊢
        exact this
      have hw : wireP (n1 (ofL ([a] ++ [b] ++ N ++ ([k] ++ R))) 0) (n1 (ofL ([a] ++ [b] ++ N ++ ([k] ++ R))) 1) (n1 (ofL ([a] ++ [b] ++ N ++ ([k] ++ R))) 4) ((ofL ([a] ++ [b] ++ N ++ ([k] ++ R))).extract 5 (n2 (ofL ([a] ++ [b] ++ N ++ ([k] ++ R))) 2)) = ofL ([a] ++ [b] ++ N ++ ([k] ++ R.take (getL 0 N - 5))) := by
        rw [a0, a1, a2, a4, ex]
        unfold wireP
        rw [restP_size, if_pos h4, ofL_size]
        unfold restP
        rw [if_pos h4, ofL_append, ofL_append, ofL_append, ba, bb, show 4 + (1 + (List.take (getL 0 N - 5) R).length) = getL 0 N by simp; omega, pN]
        congr 1
        simp [putL]
      simp only [hw]
      exact key _ ⟨R.drop (getL 0 N - 5), by simp⟩
  · rw [if_neg (by omega)]
    rw [a0] at h4
    rw [a2] at h5
    have hw : wireP (n1 (ofL ([a] ++ [b] ++ N ++ R)) 0) (n1 (ofL ([a] ++ [b] ++ N ++ R)) 1) 0 ⟨#[]⟩ = ofL ([a] ++ [b] ++ N) := by
      rw [a0, a1]
      unfold wireP
      rw [restP_size, if_neg (by omega)]
      unfold restP
      rw [if_neg (by omega), show (⟨#[]⟩ : ByteArray) = ofL [] by rfl, ofL_append, ofL_append, ba, bb, show 4 + 0 = getL 0 N by omega, pN]
      congr 1
      simp
    simp only [hw]
    exact key _ ⟨R, by simp⟩

/-- Those of kinds that can be told. -/
def tells (k : Int) : Bool := decide (4 ≤ k ∧ k ≤ 255)
def byteOf (k : Int) : UInt8 := UInt8.ofNat k.toNat

/-- The bytes of a refusal: as they are put one by one. -/
def wishL : List Int → List UInt8 → List UInt8
  | [], o => o
  | k :: l, o => if tells k ∧ o.length < 250 then wishL l (o ++ [byteOf k]) else wishL l o
def wishD (l : List Int) : ByteArray := if wishL l [] = [] then ofL [0] else ofL (wishL l [])

/-- What is wanted of some data. -/
def wantsL (l : List UInt8) : List Int := (l.filter fun b => decide (3 < b.toNat)).map fun b => (b.toNat : Int)

theorem wishL_length : ∀ (l : List Int) (o : List UInt8), o.length ≤ 250 → (wishL l o).length ≤ 250
  | [], o, h => h
  | k :: l, o, h => by
    unfold wishL
    split
    · rename_i h'
      exact wishL_length l _ (by simp; omega)
    · exact wishL_length l o h

theorem wishL_small : ∀ (l : List Int) (o : List UInt8), o.length + l.length ≤ 250 → wishL l o = o ++ (l.filter tells).map byteOf
  | [], o, h => by simp [wishL]
  | k :: l, o, h => by
    simp at h
    unfold wishL
    by_cases hk : tells k = true
    · rw [if_pos ⟨hk, by omega⟩, wishL_small l _ (by simp; omega)]
      simp [hk]
    · rw [if_neg (by simp [hk]), wishL_small l o (by omega)]
      simp [hk]

theorem wishL_snoc : ∀ (l : List Int) (k : Int) (o : List UInt8), wishL (l ++ [k]) o = if tells k ∧ (wishL l o).length < 250 then wishL l o ++ [byteOf k] else wishL l o
  | [], k, o => by
    rw [List.nil_append]
    unfold wishL
    split <;> rfl
  | j :: l, k, o => by
    simp only [List.cons_append, wishL]
    split
    · exact wishL_snoc l k _
    · exact wishL_snoc l k _

theorem wantsL_wish (l : List Int) (h : l.length ≤ 250) : wantsL (wishD l).data.toList = l.filter tells := by
  unfold wishD
  rw [wishL_small l [] (by simpa using h)]
  simp only [List.nil_append]
  have key : wantsL ((l.filter tells).map byteOf) = l.filter tells := by
    unfold wantsL
    rw [List.filter_map, List.map_map]
    have : List.filter ((fun b : UInt8 => decide (3 < b.toNat)) ∘ byteOf) (l.filter tells) = l.filter tells := by
      rw [List.filter_eq_self]
      intro k hk
      have hk := (List.mem_filter.1 hk).2
      unfold tells at hk
      simp only [decide_eq_true_eq] at hk
      simp [byteOf]
      omega
    rw [this]
    have h2 : ∀ k ∈ l.filter tells, ((fun b : UInt8 => (b.toNat : Int)) ∘ byteOf) k = k := by
      intro k hk
      have hk := (List.mem_filter.1 hk).2
      unfold tells at hk
      simp only [decide_eq_true_eq] at hk
      simp [byteOf]
      omega
    rw [List.map_congr_left h2]
    simp
  by_cases hz : (l.filter tells).map byteOf = []
  · rw [if_pos hz]
    rw [hz] at key
    rw [← key]
    rfl
  · rw [if_neg hz]
    exact key

end Eap
end Go.Proofs.Ytmgjjcadeikdgaa
