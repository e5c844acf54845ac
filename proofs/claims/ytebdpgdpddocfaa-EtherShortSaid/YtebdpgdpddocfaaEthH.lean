/-
  What ether.Bytes and ether.Read, and the document's answers beside them, answer for every frame and every text; and that they change nothing that was there.
-/
import Derived.Test.YtebdpgdpddocfaaEthD
import Derived.Test.YtebdpgdpddocfaaEthF
import Derived.Test.YtebdpgdpddocfaaEthG
import Derived.Test.YtebdpgdpddocfaaEthNum
namespace Go.Proofs.Ytebdpgdpddocfaa
open Go.RowKit
namespace Eth
open Oct Mac

abbrev Frm.val (f : Frm) : Value := fr f.d f.s f.g f.p f.v f.t f.b

def bytesS (d s : Nat) (g : Bool) (p v t : Int) (b : ByteArray) : ByteArray := if rightF d s g p v t b then wire ⟨d, s, g, p.toNat, v.toNat, t.toNat, b⟩ else ⟨#[]⟩
def bytesE (d s : Nat) (g : Bool) (p v t : Int) (b : ByteArray) : Int := if rightF d s g p v t b then 0 else 1

theorem rightF_ok (f : Frm) : rightF f.d f.s f.g f.p f.v f.t f.b = true ↔ ok f := by
  obtain ⟨d, s, g, p, v, t, b⟩ := f
  unfold rightF ok
  cases g <;> simp <;> omega

theorem i64_and_nat (a b : Nat) (ha : a < 9223372036854775808) (hb : b < 9223372036854775808) : bits .and .i64 (a : Int) (b : Int) = ((a &&& b : Nat) : Int) := by
  have hx : a &&& b < 2 ^ 63 := Nat.and_lt_two_pow _ (by omega)
  show IntKind.i64.wrap ((BitVec.ofInt 64 (a : Int) &&& BitVec.ofInt 64 (b : Int)).toNat : Int) = _
  rw [BitVec.toNat_and, ofInt_u64 a (by omega), ofInt_u64 b (by omega), IntKind.wrap_i64]
  omega

theorem i64_or_nat (a b : Nat) (ha : a < 9223372036854775808) (hb : b < 9223372036854775808) : bits .or .i64 (a : Int) (b : Int) = ((a ||| b : Nat) : Int) := by
  have hx : a ||| b < 2 ^ 63 := Nat.or_lt_two_pow (by omega) (by omega)
  show IntKind.i64.wrap ((BitVec.ofInt 64 (a : Int) ||| BitVec.ofInt 64 (b : Int)).toNat : Int) = _
  rw [BitVec.toNat_or, ofInt_u64 a (by omega), ofInt_u64 b (by omega), IntKind.wrap_i64]
  omega

theorem tag_or (p v : Nat) (hp : p ≤ 7) (hv : v ≤ 4095) : bits .or .i64 ((p * 8192 : Nat) : Int) (v : Int) = ((p * 8192 + v : Nat) : Int) := by
  rw [i64_or_nat _ _ (by omega) (by omega)]
  have : p * 8192 ||| v = p * 8192 + v := by
    rw [show p * 8192 = 2 ^ 13 * p by omega, Nat.two_pow_add_eq_or_of_lt (by omega)]
  rw [this]

theorem bit12 (K : Nat) (hK : K < 65536) : bits .and .i64 (K : Int) 4096 = if K / 4096 % 2 = 1 then 4096 else 0 := by
  have e := i64_and_nat K 4096 (by omega) (by omega)
  have f := and_bit K 12
  rw [show (2 : Nat) ^ 12 = 4096 by rfl] at f
  rw [show (4096 : Int) = ((4096 : Nat) : Int) by rfl, e, f]
  split <;> rfl

theorem low12 (K : Nat) (hK : K < 65536) : bits .and .i64 (K : Int) 4095 = ((K % 4096 : Nat) : Int) := by
  have e := i64_and_nat K 4095 (by omega) (by omega)
  have f := and_low K 12
  rw [show (2 : Nat) ^ 12 = 4096 by rfl] at f
  rw [show (4095 : Int) = ((4095 : Nat) : Int) by rfl, e]
  rw [show 4095 = 4096 - 1 by rfl, f]

theorem ulow12 (K : Nat) (hK : K < 65536) : bits .and .u64 (K : Int) 4095 = ((K % 4096 : Nat) : Int) := by
  have e := u64_and_nat K 4095 (by omega) (by omega)
  have f := and_low K 12
  rw [show (2 : Nat) ^ 12 = 4096 by rfl] at f
  rw [show (4095 : Int) = ((4095 : Nat) : Int) by rfl, e]
  rw [show 4095 = 4096 - 1 by rfl, f]

theorem ubit12 (K : Nat) (hK : K < 65536) : bits .and .u64 ((K : Int) / 4096) 1 = ((K / 4096 % 2 : Nat) : Int) := by
  rw [show (K : Int) / 4096 = ((K / 4096 : Nat) : Int) by omega, and_one _ (by omega)]

theorem bytes_wrong (d s : Int) (g : Bool) (p v t : Int) (b : ByteArray) (w : World)
    (HR : Hid (∀ w, Calls Try.prog 13 #[fr d s g p v t b] w fun e w' => e = .returned (.bool false) ∧ Below w.heap.size w w')) :
    Calls Try.prog 9 #[fr d s g p v t b] w fun e w' => e = .returned (.tuple #[.string ⟨#[]⟩, .int .i64 1]) ∧ Below w.heap.size w w' := by
  go_enter Try.func9, Try.ntmps9
  go_wp2_with fail
  refine (HR.out _).mono ?_; rintro e w1 ⟨rfl, hb1⟩
  go_wp2_with fail
  go_ret2
  exact ⟨rfl, then_below (box_below _ _) hb1⟩

theorem rbytes_wrong (d s : Int) (g : Bool) (p v t : Int) (b : ByteArray) (w : World)
    (HR : Hid (∀ w, Calls Try.prog 14 #[fr d s g p v t b] w fun e w' => e = .returned (.bool false) ∧ Below w.heap.size w w')) :
    Calls Try.prog 10 #[fr d s g p v t b] w fun e w' => e = .returned (.tuple #[.string ⟨#[]⟩, .int .i64 1]) ∧ Below w.heap.size w w' := by
  go_enter Try.func10, Try.ntmps10
  go_wp2_with fail
  refine (HR.out _).mono ?_; rintro e w1 ⟨rfl, hb1⟩
  go_wp2_with fail
  go_ret2
  exact ⟨rfl, then_below (box_below _ _) hb1⟩

theorem put_size (n k : Nat) : (ofL (putL n k)).size = k := by rw [ofL_size, putL_length]

theorem bytes_any (d s : Nat) (g : Bool) (p v t : Int) (b : ByteArray) (w : World) (hb : b.size ≤ 9223372036854775807) :
    Calls Try.prog 9 #[fr d s g p v t b] w fun e w' => e = .returned (.tuple #[.string (bytesS d s g p v t b), .int .i64 (bytesE d s g p v t b)]) ∧ Below w.heap.size w w' := by
  have HR := fun w => right_any d s g p v t b w hb
  cases hr : rightF d s g p v t b
  · unfold bytesS bytesE
    rw [hr] at HR ⊢
    exact bytes_wrong d s g p v t b w (Lib.hid HR)
  · have hok := hr
    unfold bytesS bytesE
    rw [hr] at HR ⊢
    unfold rightF at hok
    simp at hok
    obtain ⟨h1, h2, h3, h4, h5, h6⟩ := hok
    obtain ⟨t, rfl⟩ := Int.eq_ofNat_of_zero_le h3
    obtain ⟨p, rfl⟩ : ∃ q : Nat, p = q := ⟨p.toNat, by omega⟩
    obtain ⟨v, rfl⟩ : ∃ q : Nat, v = q := ⟨v.toNat, by omega⟩
    simp only [Int.toNat_natCast]
    have hT : t < 65536 := by omega
    unfold wire
    cases g
    · exact bytes_no d s p v t b _ _ _ w (by omega) (Lib.hid HR) (Lib.hid fun w => Mac.bytes_any d (by omega) w) (Lib.hid fun w => Mac.bytes_any s (by omega) w) (Lib.hid fun w => pair_any t hT w) (put_size _ _) (put_size _ _) (put_size _ _)
    · have hpv : p ≤ 7 ∧ v ≤ 4095 ∧ b.size ≤ 9198 := by simp at h6; omega
      have hP := fun w => pair_any (p * 8192 + v) (by omega) w
      exact bytes_tag d s p v t ((p * 8192 : Nat) : Int) ((p * 8192 + v : Nat) : Int) b _ _ _ _ _ w (by omega) (Lib.hid HR) (Lib.hid fun w => Mac.bytes_any d (by omega) w) (Lib.hid fun w => Mac.bytes_any s (by omega) w)
        (Lib.hid fun w => pair_any 33024 (by omega) w) (Lib.hid hP) (Lib.hid fun w => pair_any t hT w)
        (by rw [IntKind.wrap_i64]; omega) (by rw [IntKind.wrap_i64]; omega) (put_size _ _) (put_size _ _) (put_size _ _) (put_size _ _) (put_size _ _)

theorem rput2 (n : Nat) (hn : n < 65536) (w : World) : Calls Try.prog 27 #[.int .u64 n, .int .i64 2] w fun e w' => e = .returned (.string (ofL (putL n 2))) ∧ Below w.heap.size w w' := rput_any n (by omega) 2 w

theorem rbytes_any (d s : Nat) (g : Bool) (p v t : Int) (b : ByteArray) (w : World) (hb : b.size ≤ 9223372036854775807) :
    Calls Try.prog 10 #[fr d s g p v t b] w fun e w' => e = .returned (.tuple #[.string (bytesS d s g p v t b), .int .i64 (bytesE d s g p v t b)]) ∧ Below w.heap.size w w' := by
  have HR := fun w => rright_any d s g p v t b w hb
  cases hr : rightF d s g p v t b
  · unfold bytesS bytesE
    rw [hr] at HR ⊢
    exact rbytes_wrong d s g p v t b w (Lib.hid HR)
  · have hok := hr
    unfold bytesS bytesE
    rw [hr] at HR ⊢
    unfold rightF at hok
    simp at hok
    obtain ⟨h1, h2, h3, h4, h5, h6⟩ := hok
    obtain ⟨t, rfl⟩ := Int.eq_ofNat_of_zero_le h3
    obtain ⟨p, rfl⟩ : ∃ q : Nat, p = q := ⟨p.toNat, by omega⟩
    obtain ⟨v, rfl⟩ : ∃ q : Nat, v = q := ⟨v.toNat, by omega⟩
    simp only [Int.toNat_natCast]
    have hT : t < 65536 := by omega
    unfold wire
    cases g
    · exact rbytes_no d s p v t b _ _ _ w (by omega) (Lib.hid HR) (Lib.hid fun w => Mac.rbytes_any d (by omega) w) (Lib.hid fun w => Mac.rbytes_any s (by omega) w) (Lib.hid fun w => rput2 t hT w) (by rw [IntKind.wrap_u64]; omega) (put_size _ _) (put_size _ _) (put_size _ _)
    · have hpv : p ≤ 7 ∧ v ≤ 4095 ∧ b.size ≤ 9198 := by simp at h6; omega
      have hP := fun w => rput2 (p * 8192 + v) (by omega) w
      exact rbytes_tag d s p v t ((p * 8192 : Nat) : Int) ((p * 8192 + v : Nat) : Int) ((p * 8192 + v : Nat) : Int) b _ _ _ _ _ w (by omega) (Lib.hid HR) (Lib.hid fun w => Mac.rbytes_any d (by omega) w) (Lib.hid fun w => Mac.rbytes_any s (by omega) w)
        (Lib.hid fun w => rput2 33024 (by omega) w) (Lib.hid hP) (Lib.hid fun w => rput2 t hT w)
        (by rw [IntKind.wrap_i64]; omega) (tag_or p v hpv.1 hpv.2.1) (by rw [IntKind.wrap_u64]; omega) (by rw [IntKind.wrap_u64]; omega) (put_size _ _) (put_size _ _) (put_size _ _) (put_size _ _) (put_size _ _)

theorem neq_no {n : Nat} (h : n ≠ 33024) : ((n : Int) == 33024) = false := by
  simp
  omega

theorem read_any (s : ByteArray) (w : World) (hs : s.size ≤ 9223372036854775807) :
    Calls Try.prog 11 #[.string s] w fun e w' => e = .returned (.tuple #[(readV s).val, .int .i64 (readE s)]) ∧ Below w.heap.size w w' := by
  have P := fun (a : Nat) w => pairAt_any s a w hs
  have l12 := n2_lt s 12
  have l14 := n2_lt s 14
  have l16 := n2_lt s 16
  by_cases h0 : 9216 < s.size
  · have e : readE s = 4 := by unfold readE; rw [if_pos h0]
    have e' : readV s = zeroF := by unfold readV; rw [e, if_pos (by simp)]
    rw [e, e']
    exact read_long s w h0
  have hs' : s.size ≤ 9216 := by omega
  by_cases h12 : n2 s 12 = 33024
  · have P12 := P 12
    rw [show (getR s (12 : Nat) 2).1 = 33024 from h12] at P12
    by_cases h1 : s.size < 18
    · have e : readE s = 2 := by unfold readE; rw [if_neg h0, if_pos (.inr ⟨h12, h1⟩)]
      have e' : readV s = zeroF := by unfold readV; rw [e, if_pos (by simp)]
      rw [e, e']
      exact read_short2 s w hs' h1 (Lib.hid P12)
    have b1 : ¬ (s.size < 14 ∨ n2 s 12 = 33024 ∧ s.size < 18) := by omega
    by_cases h14 : n2 s 14 / 4096 % 2 = 1
    · have e : readE s = 3 := by unfold readE; rw [if_neg h0, if_neg b1, if_pos ⟨h12, .inr h14⟩]
      have e' : readV s = zeroF := by unfold readV; rw [e, if_pos (by simp)]
      rw [e, e']
      exact read_bit s (n2 s 14 : Nat) w hs' (by omega) (by rw [bit12 _ l14, if_pos h14]) (Lib.hid P12) (Lib.hid (P 14))
    by_cases h16 : n2 s 16 = 33024
    · have P16 := P 16
      rw [show (getR s (16 : Nat) 2).1 = 33024 from h16] at P16
      have e : readE s = 3 := by unfold readE; rw [if_neg h0, if_neg b1, if_pos ⟨h12, .inl h16⟩]
      have e' : readV s = zeroF := by unfold readV; rw [e, if_pos (by simp)]
      rw [e, e']
      exact read_twice s (n2 s 14 : Nat) _ w hs' (by omega) (by rw [bit12 _ l14, if_neg h14]) (low12 _ l14) (by omega) (by omega) (Lib.hid P12) (Lib.hid (P 14)) (Lib.hid P16)
    have e : readE s = 0 := by unfold readE; rw [if_neg h0, if_neg b1, if_neg (by omega)]
    have e' : readV s = ⟨n6 s 0, n6 s 6, true, n2 s 14 / 8192, n2 s 14 % 4096, n2 s 16, s.extract 18 s.size⟩ := by unfold readV; rw [e, if_neg (by simp), if_pos h12]
    rw [e, e']
    exact read_tag s (n2 s 14 : Nat) _ _ _ _ _ _ w hs' (by omega) (by rw [bit12 _ l14, if_neg h14]) (low12 _ l14) (by omega) (by omega) (neq_no h16) (Lib.hid P12) (Lib.hid (P 14)) (Lib.hid (P 16)) (Lib.hid fun w => Mac.read_any s 0 w hs) (Lib.hid fun w => Mac.read_any s 6 w hs)
  · by_cases h1 : s.size < 14
    · have e : readE s = 2 := by unfold readE; rw [if_neg h0, if_pos (.inl h1)]
      have e' : readV s = zeroF := by unfold readV; rw [e, if_pos (by simp)]
      rw [e, e']
      exact read_short s _ w hs' (neq_no h12) h1 (Lib.hid (P 12))
    have e : readE s = 0 := by unfold readE; rw [if_neg h0, if_neg (by omega), if_neg (by omega)]
    have e' : readV s = ⟨n6 s 0, n6 s 6, false, 0, 0, n2 s 12, s.extract 14 s.size⟩ := by unfold readV; rw [e, if_neg (by simp), if_neg h12]
    rw [e, e']
    exact read_no s _ _ _ _ _ w hs' (by omega) (neq_no h12) (Lib.hid (P 12)) (Lib.hid fun w => Mac.read_any s 0 w hs) (Lib.hid fun w => Mac.read_any s 6 w hs)

theorem rread_any (s : ByteArray) (w : World) (hs : s.size ≤ 9223372036854775807) :
    Calls Try.prog 12 #[.string s] w fun e w' => e = .returned (.tuple #[(readV s).val, .int .i64 (readE s)]) ∧ Below w.heap.size w w' := by
  have P := fun (a : Nat) w => rget_any s a 2 w hs
  have RD := Lib.hid fun w => Mac.rread_any s 0 w hs
  have RS := Lib.hid fun w => Mac.rread_any s 6 w hs
  have l12 := n2_lt s 12
  have l14 := n2_lt s 14
  have l16 := n2_lt s 16
  by_cases h0 : 9216 < s.size
  · have e : readE s = 4 := by unfold readE; rw [if_pos h0]
    have e' : readV s = zeroF := by unfold readV; rw [e, if_pos (by simp)]
    rw [e, e']
    exact rread_long s w h0
  have hs' : s.size ≤ 9216 := by omega
  by_cases h1 : s.size < 14
  · have e : readE s = 2 := by unfold readE; rw [if_neg h0, if_pos (.inl h1)]
    have e' : readV s = zeroF := by unfold readV; rw [e, if_pos (by simp)]
    rw [e, e']
    exact rread_short s w hs' h1
  by_cases h12 : n2 s 12 = 33024
  · have P12 := P 12
    rw [show (getR s (12 : Nat) 2).1 = 33024 from h12] at P12
    by_cases h1 : s.size < 18
    · have e : readE s = 2 := by unfold readE; rw [if_neg h0, if_pos (.inr ⟨h12, h1⟩)]
      have e' : readV s = zeroF := by unfold readV; rw [e, if_pos (by simp)]
      rw [e, e']
      exact rread_short2 s _ _ _ _ _ w hs' (by omega) h1 RD RS (Lib.hid P12)
    have b1 : ¬ (s.size < 14 ∨ n2 s 12 = 33024 ∧ s.size < 18) := by omega
    by_cases h16 : n2 s 16 = 33024
    · have P16 := P 16
      rw [show (getR s (16 : Nat) 2).1 = 33024 from h16] at P16
      have e : readE s = 3 := by unfold readE; rw [if_neg h0, if_neg b1, if_pos ⟨h12, .inl h16⟩]
      have e' : readV s = zeroF := by unfold readV; rw [e, if_pos (by simp)]
      rw [e, e']
      exact rread_twice s _ _ _ _ _ _ _ _ w hs' (by omega) RD RS (Lib.hid P12) (Lib.hid (P 14)) (Lib.hid P16)
    by_cases h14 : n2 s 14 / 4096 % 2 = 1
    · have e : readE s = 3 := by unfold readE; rw [if_neg h0, if_neg b1, if_pos ⟨h12, .inr h14⟩]
      have e' : readV s = zeroF := by unfold readV; rw [e, if_pos (by simp)]
      rw [e, e']
      exact rread_bit s (n2 s 14 : Nat) _ _ _ _ _ _ _ _ w hs' (by omega) (neq_no h16) (by rw [ubit12 _ l14, h14]; rfl) RD RS (Lib.hid P12) (Lib.hid (P 14)) (Lib.hid (P 16))
    have e : readE s = 0 := by unfold readE; rw [if_neg h0, if_neg b1, if_neg (by omega)]
    have e' : readV s = ⟨n6 s 0, n6 s 6, true, n2 s 14 / 8192, n2 s 14 % 4096, n2 s 16, s.extract 18 s.size⟩ := by unfold readV; rw [e, if_neg (by simp), if_pos h12]
    rw [e, e']
    exact rread_tag s (n2 s 14 : Nat) (n2 s 14 % 4096 : Nat) (n2 s 16 : Nat) _ _ _ _ _ _ _ w hs' (by omega) (by omega) (by omega) (neq_no h16) (by rw [ubit12 _ l14, show n2 s 14 / 4096 % 2 = 0 by omega]; rfl) (ulow12 _ l14) (by omega) (by omega) (by omega) (by omega) RD RS (Lib.hid P12) (Lib.hid (P 14)) (Lib.hid (P 16))
  · have e : readE s = 0 := by unfold readE; rw [if_neg h0, if_neg (by omega), if_neg (by omega)]
    have e' : readV s = ⟨n6 s 0, n6 s 6, false, 0, 0, n2 s 12, s.extract 14 s.size⟩ := by unfold readV; rw [e, if_neg (by simp), if_neg h12]
    rw [e, e']
    exact rread_no s (n2 s 12 : Nat) _ _ _ _ _ w hs' (by omega) (neq_no h12) (by omega) (by omega) RD RS (Lib.hid (P 12))

end Eth
end Go.Proofs.Ytebdpgdpddocfaa
