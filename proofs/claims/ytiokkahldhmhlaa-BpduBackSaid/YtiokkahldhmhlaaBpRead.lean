/-
  Plain facts on what bridges tell (no program): what is written is read, if it is not too old; what is read is right.
-/
import Derived.Test.YtiokkahldhmhlaaBpNum
namespace Go.Proofs.Ytiokkahldhmhlaa
namespace Bpd
open Oct Mac Eth Epl

theorem bits_flag : ∀ a b c d e f g h : Bool, bitB (bitsN [a, b, c, d, e, f, g, h] 1) 0 = a ∧ bitB (bitsN [a, b, c, d, e, f, g, h] 1) 1 = b ∧ bitB (bitsN [a, b, c, d, e, f, g, h] 1) 2 = c ∧ bitB (bitsN [a, b, c, d, e, f, g, h] 1) 3 = d ∧
    bitB (bitsN [a, b, c, d, e, f, g, h] 1) 4 = e ∧ bitB (bitsN [a, b, c, d, e, f, g, h] 1) 5 = f ∧ bitB (bitsN [a, b, c, d, e, f, g, h] 1) 6 = g ∧ bitB (bitsN [a, b, c, d, e, f, g, h] 1) 7 = h := by decide +kernel

theorem at_one (A : List UInt8) (x : Nat) (B : List UInt8) (a : Nat) (hA : A.length = a) (hx : x < 256) : n1 (ofL (A ++ [UInt8.ofNat x] ++ B)) a = x := by
  rw [n1_mid A [UInt8.ofNat x] B a hA rfl]
  show 0 * 256 + (UInt8.ofNat x).toNat = x
  simp
  omega

theorem at_two (A : List UInt8) (x : Nat) (B : List UInt8) (a : Nat) (hA : A.length = a) (hx : x < 65536) : n2 (ofL (A ++ putL x 2 ++ B)) a = x := by
  rw [n2_mid A (putL x 2) B a hA (putL_length _ _), getL_putL]
  exact Nat.mod_eq_of_lt hx

theorem at_four (A : List UInt8) (x : Nat) (B : List UInt8) (a : Nat) (hA : A.length = a) (hx : x < 4294967296) : n4 (ofL (A ++ putL x 4 ++ B)) a = x := by
  have h := getR_mid A (putL x 4) B a 4 hA (putL_length _ _) (by omega) (by omega)
  unfold n4
  rw [show ((4 : Nat) : Int) = 4 by rfl] at h
  rw [h, getL_putL]
  exact Nat.mod_eq_of_lt hx

theorem at_eight (A : List UInt8) (x : Nat) (B : List UInt8) (a : Nat) (hA : A.length = a) (hx : x < 18446744073709551616) : n8 (ofL (A ++ putL x 8 ++ B)) a = x := by
  have h := getR_mid A (putL x 8) B a 8 hA (putL_length _ _) (by omega) (by omega)
  unfold n8
  rw [show ((8 : Nat) : Int) = 8 by rfl] at h
  rw [h, getL_putL]
  exact Nat.mod_eq_of_lt hx

/-- The bytes as parts. -/
def parts (V K F r c g p a m h d : Nat) (T : List UInt8) : List UInt8 :=
  [0, 0] ++ [UInt8.ofNat V] ++ [UInt8.ofNat K] ++ [UInt8.ofNat F] ++ putL r 8 ++ putL c 4 ++ putL g 8 ++ putL p 2 ++ [UInt8.ofNat a] ++ [0] ++ [UInt8.ofNat m] ++ [0] ++ [UInt8.ofNat h] ++ [0] ++ [UInt8.ofNat d] ++ [0] ++ T

theorem parts_len (V K F r c g p a m h d : Nat) (T : List UInt8) : (parts V K F r c g p a m h d T).length = 35 + T.length := by
  simp [parts, putL_length]
  omega

theorem parts_all (V K F r c g p a m h d : Nat) (T : List UInt8) (hV : V < 256) (hK : K < 256) (hF : F < 256) (hr : r < 18446744073709551616) (hc : c < 4294967296) (hg : g < 18446744073709551616) (hp : p < 65536) (ha : a < 256) (hm : m < 256) (hh : h < 256) (hd : d < 256) :
    n2 (ofL (parts V K F r c g p a m h d T)) 0 = 0 ∧ n1 (ofL (parts V K F r c g p a m h d T)) 2 = V ∧ n1 (ofL (parts V K F r c g p a m h d T)) 3 = K ∧ n1 (ofL (parts V K F r c g p a m h d T)) 4 = F ∧
    n8 (ofL (parts V K F r c g p a m h d T)) 5 = r ∧ n4 (ofL (parts V K F r c g p a m h d T)) 13 = c ∧ n8 (ofL (parts V K F r c g p a m h d T)) 17 = g ∧ n2 (ofL (parts V K F r c g p a m h d T)) 25 = p ∧
    n1 (ofL (parts V K F r c g p a m h d T)) 27 = a ∧ n1 (ofL (parts V K F r c g p a m h d T)) 29 = m ∧ n1 (ofL (parts V K F r c g p a m h d T)) 31 = h ∧ n1 (ofL (parts V K F r c g p a m h d T)) 33 = d := by
  refine ⟨?_, ?_, ?_, ?_, ?_, ?_, ?_, ?_, ?_, ?_, ?_, ?_⟩
  · have e : parts V K F r c g p a m h d T = [] ++ [0, 0] ++ ([UInt8.ofNat V] ++ [UInt8.ofNat K] ++ [UInt8.ofNat F] ++ putL r 8 ++ putL c 4 ++ putL g 8 ++ putL p 2 ++ [UInt8.ofNat a] ++ [0] ++ [UInt8.ofNat m] ++ [0] ++ [UInt8.ofNat h] ++ [0] ++ [UInt8.ofNat d] ++ [0] ++ T) := by
      simp only [parts, List.append_assoc, List.nil_append]
    rw [e, n2_mid [] [0, 0] _ 0 rfl rfl]
    rfl
  · have e : parts V K F r c g p a m h d T = [0, 0] ++ [UInt8.ofNat V] ++ ([UInt8.ofNat K] ++ [UInt8.ofNat F] ++ putL r 8 ++ putL c 4 ++ putL g 8 ++ putL p 2 ++ [UInt8.ofNat a] ++ [0] ++ [UInt8.ofNat m] ++ [0] ++ [UInt8.ofNat h] ++ [0] ++ [UInt8.ofNat d] ++ [0] ++ T) := by
      simp only [parts, List.append_assoc]
    rw [e]; exact at_one _ _ _ _ rfl hV
  · have e : parts V K F r c g p a m h d T = ([0, 0] ++ [UInt8.ofNat V]) ++ [UInt8.ofNat K] ++ ([UInt8.ofNat F] ++ putL r 8 ++ putL c 4 ++ putL g 8 ++ putL p 2 ++ [UInt8.ofNat a] ++ [0] ++ [UInt8.ofNat m] ++ [0] ++ [UInt8.ofNat h] ++ [0] ++ [UInt8.ofNat d] ++ [0] ++ T) := by
      simp only [parts, List.append_assoc]
    rw [e]; exact at_one _ _ _ _ rfl hK
  · have e : parts V K F r c g p a m h d T = ([0, 0] ++ [UInt8.ofNat V] ++ [UInt8.ofNat K]) ++ [UInt8.ofNat F] ++ (putL r 8 ++ putL c 4 ++ putL g 8 ++ putL p 2 ++ [UInt8.ofNat a] ++ [0] ++ [UInt8.ofNat m] ++ [0] ++ [UInt8.ofNat h] ++ [0] ++ [UInt8.ofNat d] ++ [0] ++ T) := by
      simp only [parts, List.append_assoc]
    rw [e]; exact at_one _ _ _ _ rfl hF
  · have e : parts V K F r c g p a m h d T = ([0, 0] ++ [UInt8.ofNat V] ++ [UInt8.ofNat K] ++ [UInt8.ofNat F]) ++ putL r 8 ++ (putL c 4 ++ putL g 8 ++ putL p 2 ++ [UInt8.ofNat a] ++ [0] ++ [UInt8.ofNat m] ++ [0] ++ [UInt8.ofNat h] ++ [0] ++ [UInt8.ofNat d] ++ [0] ++ T) := by
      simp only [parts, List.append_assoc]
    rw [e]; exact at_eight _ _ _ _ rfl hr
  · have e : parts V K F r c g p a m h d T = ([0, 0] ++ [UInt8.ofNat V] ++ [UInt8.ofNat K] ++ [UInt8.ofNat F] ++ putL r 8) ++ putL c 4 ++ (putL g 8 ++ putL p 2 ++ [UInt8.ofNat a] ++ [0] ++ [UInt8.ofNat m] ++ [0] ++ [UInt8.ofNat h] ++ [0] ++ [UInt8.ofNat d] ++ [0] ++ T) := by
      simp only [parts, List.append_assoc]
    rw [e]; exact at_four _ _ _ _ (by simp [putL_length]) hc
  · have e : parts V K F r c g p a m h d T = ([0, 0] ++ [UInt8.ofNat V] ++ [UInt8.ofNat K] ++ [UInt8.ofNat F] ++ putL r 8 ++ putL c 4) ++ putL g 8 ++ (putL p 2 ++ [UInt8.ofNat a] ++ [0] ++ [UInt8.ofNat m] ++ [0] ++ [UInt8.ofNat h] ++ [0] ++ [UInt8.ofNat d] ++ [0] ++ T) := by
      simp only [parts, List.append_assoc]
    rw [e]; exact at_eight _ _ _ _ (by simp [putL_length]) hg
  · have e : parts V K F r c g p a m h d T = ([0, 0] ++ [UInt8.ofNat V] ++ [UInt8.ofNat K] ++ [UInt8.ofNat F] ++ putL r 8 ++ putL c 4 ++ putL g 8) ++ putL p 2 ++ ([UInt8.ofNat a] ++ [0] ++ [UInt8.ofNat m] ++ [0] ++ [UInt8.ofNat h] ++ [0] ++ [UInt8.ofNat d] ++ [0] ++ T) := by
      simp only [parts, List.append_assoc]
    rw [e]; exact at_two _ _ _ _ (by simp [putL_length]) hp
  · have e : parts V K F r c g p a m h d T = ([0, 0] ++ [UInt8.ofNat V] ++ [UInt8.ofNat K] ++ [UInt8.ofNat F] ++ putL r 8 ++ putL c 4 ++ putL g 8 ++ putL p 2) ++ [UInt8.ofNat a] ++ ([0] ++ [UInt8.ofNat m] ++ [0] ++ [UInt8.ofNat h] ++ [0] ++ [UInt8.ofNat d] ++ [0] ++ T) := by
      simp only [parts, List.append_assoc]
    rw [e]; exact at_one _ _ _ _ (by simp [putL_length]) ha
  · have e : parts V K F r c g p a m h d T = ([0, 0] ++ [UInt8.ofNat V] ++ [UInt8.ofNat K] ++ [UInt8.ofNat F] ++ putL r 8 ++ putL c 4 ++ putL g 8 ++ putL p 2 ++ [UInt8.ofNat a] ++ [0]) ++ [UInt8.ofNat m] ++ ([0] ++ [UInt8.ofNat h] ++ [0] ++ [UInt8.ofNat d] ++ [0] ++ T) := by
      simp only [parts, List.append_assoc]
    rw [e]; exact at_one _ _ _ _ (by simp [putL_length]) hm
  · have e : parts V K F r c g p a m h d T = ([0, 0] ++ [UInt8.ofNat V] ++ [UInt8.ofNat K] ++ [UInt8.ofNat F] ++ putL r 8 ++ putL c 4 ++ putL g 8 ++ putL p 2 ++ [UInt8.ofNat a] ++ [0] ++ [UInt8.ofNat m] ++ [0]) ++ [UInt8.ofNat h] ++ ([0] ++ [UInt8.ofNat d] ++ [0] ++ T) := by
      simp only [parts, List.append_assoc]
    rw [e]; exact at_one _ _ _ _ (by simp [putL_length]) hh
  · have e : parts V K F r c g p a m h d T = ([0, 0] ++ [UInt8.ofNat V] ++ [UInt8.ofNat K] ++ [UInt8.ofNat F] ++ putL r 8 ++ putL c 4 ++ putL g 8 ++ putL p 2 ++ [UInt8.ofNat a] ++ [0] ++ [UInt8.ofNat m] ++ [0] ++ [UInt8.ofNat h] ++ [0]) ++ [UInt8.ofNat d] ++ ([0] ++ T) := by
      simp only [parts, List.append_assoc]
    rw [e]; exact at_one _ _ _ _ (by simp [putL_length]) hd

theorem wire_parts (b : Bp) (h : b.k ≠ 128) : wireL b = parts (if b.k = 2 then 2 else 0) b.k.toNat (flagN b) b.r b.c b.g b.p.toNat b.a.toNat b.m.toNat b.h.toNat b.d.toNat (if b.k = 2 then [0] else []) := by
  unfold wireL parts
  rw [if_neg h]
  simp only [List.append_assoc, List.cons_append, List.nil_append]

theorem role_back (ro : Int) (h0 : 0 ≤ ro) (h3 : ro ≤ 3) : (roleN (lowB ro) (highB ro) : Int) = ro := by
  have : ro = 0 ∨ ro = 1 ∨ ro = 2 ∨ ro = 3 := by omega
  rcases this with rfl | rfl | rfl | rfl <;> decide

/-- What is written is read, if it is not too old. -/
theorem read_wire (b : Bp) (hR : rightB b = true) (hr : b.r < 18446744073709551616) (hg : b.g < 18446744073709551616) :
    if b.k ≠ 128 ∧ b.m ≤ b.a then rErr (ofL (wireL b)) = 3 ∧ rVal (ofL (wireL b)) = zeroB else rErr (ofL (wireL b)) = 0 ∧ rVal (ofL (wireL b)) = b := by
  by_cases h : b.k = 128
  · rw [if_neg (fun q => q.1 h)]
    obtain rfl := right_change_eq b hR h
    exact ⟨by decide +kernel, by decide +kernel⟩
  obtain ⟨hk, ⟨hro, hro'⟩, hc, ⟨hp, hp'⟩, ⟨ha, ha'⟩, ⟨hm, hm'⟩, ⟨hh, hh'⟩, hd, hd'⟩ := right_facts b hR h
  have hF := flagN_lt b
  have e := wire_parts b h
  have hl := parts_len (if b.k = 2 then 2 else 0) b.k.toNat (flagN b) b.r b.c b.g b.p.toNat b.a.toNat b.m.toNat b.h.toNat b.d.toNat (if b.k = 2 then [0] else [])
  obtain ⟨p0, p2, p3, p4, p5, p13, p17, p25, p27, p29, p31, p33⟩ := parts_all (if b.k = 2 then 2 else 0) b.k.toNat (flagN b) b.r b.c b.g b.p.toNat b.a.toNat b.m.toNat b.h.toNat b.d.toNat (if b.k = 2 then [0] else []) (by split <;> omega) (by omega) hF hr hc hg (by omega) (by omega) (by omega) (by omega) (by omega)
  rw [← e] at hl p0 p2 p3 p4 p5 p13 p17 p25 p27 p29 p31 p33
  have hz : (ofL (wireL b)).size = 35 + (if b.k = 2 then [(0 : UInt8)] else []).length := by rw [ofL_size, hl]
  have hq : rErr (ofL (wireL b)) = if b.m ≤ b.a then 3 else 0 := by
    unfold rErr
    rw [p0, p2, p3, p27, p29, hz]
    rcases hk with k0 | k2
    · rw [k0]
      simp
      split <;> split <;> omega
    · rw [k2]
      simp
      split <;> split <;> omega
  by_cases ho : b.m ≤ b.a
  · rw [if_pos ⟨h, ho⟩]
    rw [if_pos ho] at hq
    exact ⟨hq, by unfold rVal; rw [hq, if_pos (by decide)]⟩
  · rw [if_neg (fun q => ho q.2)]
    rw [if_neg ho] at hq
    refine ⟨hq, ?_⟩
    unfold rVal
    rw [hq, if_neg (by decide), if_neg (by rw [p3]; omega)]
    obtain ⟨b0, b1, b2, b3, b4, b5, b6, b7⟩ := bits_flag b.ch b.pr (lowB b.ro) (highB b.ro) b.le b.fo b.ag b.ac
    unfold fullB
    rw [p3, p4, p5, p13, p17, p25, p27, p29, p31, p33]
    unfold flagN flagL
    rw [b0, b1, b2, b3, b4, b5, b6, b7]
    have hR' := hR
    unfold rightB at hR'
    rw [if_neg h, if_pos hk] at hR'
    simp only [Bool.and_eq_true, roleB] at hR'
    rw [Bp.ext_iff']
    rcases hk with k0 | k2
    · rw [if_neg (by omega)]
      have q := hR'.1.1.2
      rw [if_neg (by omega)] at q
      simp at q
      obtain ⟨⟨⟨⟨q1, q2⟩, q3⟩, q4⟩, q5⟩ := q
      refine ⟨by show ((b.k.toNat : Nat) : Int) = b.k; omega, rfl, q1.symm, q2.symm, q3.symm, q4.symm, q5.symm, rfl, rfl, rfl, rfl, ?_, ?_, ?_, ?_, ?_⟩
      · show ((b.p.toNat : Nat) : Int) = b.p; omega
      · show ((b.a.toNat : Nat) : Int) = b.a; omega
      · show ((b.m.toNat : Nat) : Int) = b.m; omega
      · show ((b.h.toNat : Nat) : Int) = b.h; omega
      · show ((b.d.toNat : Nat) : Int) = b.d; omega
    · rw [if_pos (by omega)]
      have q := hR'.1.1.2
      rw [if_pos k2] at q
      simp at q
      refine ⟨by show ((b.k.toNat : Nat) : Int) = b.k; omega, rfl, rfl, role_back b.ro hro hro', rfl, rfl, rfl, q.symm, rfl, rfl, rfl, ?_, ?_, ?_, ?_, ?_⟩
      · show ((b.p.toNat : Nat) : Int) = b.p; omega
      · show ((b.a.toNat : Nat) : Int) = b.a; omega
      · show ((b.m.toNat : Nat) : Int) = b.m; omega
      · show ((b.h.toNat : Nat) : Int) = b.h; omega
      · show ((b.d.toNat : Nat) : Int) = b.d; omega

/-- What is read is right. -/
theorem read_right (s : ByteArray) (h : rErr s = 0) : rightB (rVal s) = true := by
  unfold rVal
  rw [if_neg (by omega)]
  by_cases h1 : n1 s 3 = 128
  · rw [if_pos h1]; decide +kernel
  rw [if_neg h1]
  have hk : n1 s 3 = 0 ∨ n1 s 3 = 2 := by
    unfold rErr at h
    split at h
    · simp at h
    split at h
    · simp at h
    try rw [if_neg h1] at h
    split at h
    · simp at h
    · rename_i q
      omega
  have hc : n4 s 13 < 4294967296 := by
    unfold n4 getR
    split
    · simp
    · split
      · simp
      · rename_i q1 q2
        have hz := cutS_size s ((13 : Nat) : Int) 4 (by omega)
        have hg := getL_lt (cutS s ((13 : Nat) : Int) 4).data.toList
        rw [Array.length_toList] at hg
        have e4 : (cutS s ((13 : Nat) : Int) 4).data.size = 4 := by have : (cutS s ((13 : Nat) : Int) 4).size = 4 := by omega
                                                                    exact this
        rw [e4] at hg
        exact hg
  have hp := n2_lt s 25
  have ha := n1_lt s 27
  have hm := n1_lt s 29
  have hh := n1_lt s 31
  have hd := n1_lt s 33
  have hro : ∀ x y : Bool, roleN x y ≤ 3 := by decide
  unfold fullB
  rcases hk with k | k
  · rw [if_neg (by omega), k]
    simp [rightB, roleB, vecB, timesB]
    omega
  · rw [if_pos k, k]
    have q := hro (bitB (n1 s 4) 2) (bitB (n1 s 4) 3)
    simp [rightB, roleB, vecB, timesB]
    omega

end Bpd
end Go.Proofs.Ytiokkahldhmhlaa
