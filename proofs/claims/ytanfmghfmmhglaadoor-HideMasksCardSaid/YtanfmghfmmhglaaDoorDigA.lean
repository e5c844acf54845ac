/-
  What package digest's Turn and Mix, and the document's own, answer, for every argument.
-/
import Derived.Test.YtanfmghfmmhglaaDoorOct
import Derived.Test.YtanfmghfmmhglaaDoorDigNum
import Derived.Test.YtanfmghfmmhglaaDoorBox
import Derived.Laws.BitsAllLaws
import Derived.Lib.MinMax
import Derived.IntWalk
namespace Go.Proofs.YtanfmghfmmhglaaDoor
open Go.RowKit
namespace Dig

theorem and31 (n : Nat) (hn : n < 32) : bits .and .u64 (n : Int) 31 = n := by
  rw [show (31 : Int) = ((31 : Nat) : Int) by rfl, u64_and_nat _ _ (by omega) (by omega), show (31 : Nat) = 2 ^ 5 - 1 by rfl, Nat.and_two_pow_sub_one_eq_mod]
  omega

theorem low31 (i : Int) : bits BinOp.and IntKind.i64 i 31 = i % 32 := by
  simp only [bits, BitVec.toNat_and]
  rw [show (BitVec.ofInt IntKind.i64.bits 31).toNat = 31 by decide +kernel, show (31 : Nat) = 2 ^ 5 - 1 by rfl, Nat.and_two_pow_sub_one_eq_mod, BitVec.toNat_ofInt, show IntKind.i64.bits = 64 by rfl]
  have h : ((((i % (2 ^ 64 : Nat)).toNat % 2 ^ 5 : Nat)) : Int) = i % 32 := by omega
  rw [h]
  exact IntWalk.i64_in _ (by omega)

theorem low15 (i : Int) : bits BinOp.and IntKind.i64 i 15 = i % 16 := by
  simp only [bits, BitVec.toNat_and]
  rw [show (BitVec.ofInt IntKind.i64.bits 15).toNat = 15 by decide +kernel, show (15 : Nat) = 2 ^ 4 - 1 by rfl, Nat.and_two_pow_sub_one_eq_mod, BitVec.toNat_ofInt, show IntKind.i64.bits = 64 by rfl]
  have h : ((((i % (2 ^ 64 : Nat)).toNat % 2 ^ 4 : Nat)) : Int) = i % 16 := by omega
  rw [h]
  exact IntWalk.i64_in _ (by omega)

theorem rot_right (x n : Nat) (hx : x < 4294967296) : bits .or .u32 ((x : Int) * 2 ^ n % 4294967296) ((x : Int) / 2 ^ (32 - n)) = (rotN x n : Nat) := by
  have h1 : ((x : Int) * 2 ^ n % 4294967296) = ((x * 2 ^ n % 4294967296 : Nat) : Int) := by simp
  have h2 : ((x : Int) / 2 ^ (32 - n)) = ((x / 2 ^ (32 - n) : Nat) : Int) := by simp
  have h3 : x / 2 ^ (32 - n) ≤ x := Nat.div_le_self _ _
  rw [h1, h2, u32_or_nat _ _ (by omega) (by omega)]
  rfl

theorem ret_u32 {a b : Int} (h : a = b) : Ending.returned (.int .u32 a) = .returned (.int .u32 b) := by rw [h]

set_option maxHeartbeats 400000 in
theorem rotl_any (x n : Nat) (w : World) (hx : x < 4294967296) (hn : n < 32) :
    Calls Tryd.prog 59 #[.int .u32 x, .int .i64 n] w fun e w' => e = .returned (.int .u32 (rotN x n)) ∧ w = w' := by
  have h31 := and31 n hn
  go_enter Tryd.func59, Tryd.ntmps59
  go_wp2
  go_ret
  exact ⟨ret_u32 (rot_right x n hx), rfl⟩

/-- Turn(x, n): by n modulo 32. -/
theorem turn_any (x : Nat) (n : Int) (w : World) (hx : x < 4294967296) :
    Calls Tryd.prog 53 #[.int .u32 x, .int .i64 n] w fun e w' => e = .returned (.int .u32 (rotN x (n % 32).toNat)) ∧ w = w' := by
  obtain ⟨k, hk⟩ : ∃ k : Nat, n % 32 = k := ⟨(n % 32).toNat, by omega⟩
  have h1 := low31 n
  rw [hk] at h1
  have hk' : k < 32 := by omega
  rw [hk]
  clear hk
  go_enter Tryd.func53, Tryd.ntmps53
  go_wp2_with fail
  refine (rotl_any x k _ hx hk').mono ?_; rintro e w' ⟨rfl, rfl⟩
  go_wp2_with fail
  go_ret
  exact ⟨rfl, rfl⟩

set_option maxHeartbeats 400000 in
/-- The document's Turn. -/
theorem rturn_any (x : Nat) (n : Int) (w : World) (hx : x < 4294967296) :
    Calls Tryd.prog 39 #[.int .u32 x, .int .i64 n] w fun e w' => e = .returned (.int .u32 (rotN x (n % 32).toNat)) ∧ w = w' := by
  obtain ⟨k, hk⟩ : ∃ k : Nat, n % 32 = k := ⟨(n % 32).toNat, by omega⟩
  have h1 := low31 n
  rw [hk] at h1
  have hk' : k < 32 := by omega
  rw [hk]
  clear hk
  go_enter Tryd.func39, Tryd.ntmps39
  go_wp2
  go_ret
  exact ⟨ret_u32 (rot_right x k hx), rfl⟩

theorem notN_lt (x : Nat) : notN x < 4294967296 := by unfold notN; omega

theorem not_right (b : Nat) (hb : b < 4294967296) : bits .xor .u32 IntKind.u32.max (b : Int) = (notN b : Nat) := by
  show IntKind.u32.wrap ((BitVec.ofInt 32 4294967295 ^^^ BitVec.ofInt 32 (b : Int)).toNat : Int) = _
  rw [show BitVec.ofInt 32 4294967295 = BitVec.allOnes 32 by decide, BitVec.allOnes_xor, BitVec.toNat_not, ofInt_u32 b hb, IntKind.wrap_u32']
  unfold notN
  omega

theorem and_lt (a b : Nat) (hb : b < 4294967296) : a &&& b < 4294967296 := Nat.and_lt_two_pow (n := 32) _ (by omega)
theorem or_lt (a b : Nat) (ha : a < 4294967296) (hb : b < 4294967296) : a ||| b < 4294967296 := Nat.or_lt_two_pow (n := 32) (by omega) (by omega)
theorem xor_lt (a b : Nat) (ha : a < 4294967296) (hb : b < 4294967296) : a ^^^ b < 4294967296 := Nat.xor_lt_two_pow (n := 32) (by omega) (by omega)

theorem pick_right (b c d : Nat) (hb : b < 4294967296) (hc : c < 4294967296) (hd : d < 4294967296) :
    bits .or .u32 (bits .and .u32 (b : Int) (c : Int)) (bits .and .u32 (bits .xor .u32 IntKind.u32.max (b : Int)) (d : Int)) = (((b &&& c) ||| (notN b &&& d) : Nat) : Int) := by
  rw [not_right b hb, u32_and_nat b c hb hc, u32_and_nat _ d (notN_lt b) hd, u32_or_nat _ _ (and_lt _ _ hc) (and_lt _ _ hd)]

theorem odd_right (b c d : Nat) (hb : b < 4294967296) (hc : c < 4294967296) (hd : d < 4294967296) :
    bits .xor .u32 (bits .xor .u32 (b : Int) (c : Int)) (d : Int) = ((b ^^^ c ^^^ d : Nat) : Int) := by
  rw [u32_xor_nat b c hb hc, u32_xor_nat _ d (xor_lt _ _ hb hc) hd]

theorem last_right (b c d : Nat) (hb : b < 4294967296) (hc : c < 4294967296) (hd : d < 4294967296) :
    bits .xor .u32 (c : Int) (bits .or .u32 (b : Int) (bits .xor .u32 IntKind.u32.max (d : Int))) = ((c ^^^ (b ||| notN d) : Nat) : Int) := by
  rw [not_right d hd, u32_or_nat b _ hb (notN_lt d), u32_xor_nat c _ hc (or_lt _ _ hb (notN_lt d))]

theorem ret_mix {x y : Int} {X Y : Nat} (h1 : x = X) (h2 : y = Y) : Ending.returned (.tuple #[.int .u32 x, .int .i64 y]) = .returned (.tuple #[.int .u32 X, .int .i64 Y]) := by rw [h1, h2]

theorem mixF_lt (i : Int) (b c d : Nat) (hb : b < 4294967296) (hc : c < 4294967296) (hd : d < 4294967296) : mixF i b c d < 4294967296 := by
  unfold mixF
  split
  · exact or_lt _ _ (and_lt _ _ hc) (and_lt _ _ hd)
  · split
    · exact or_lt _ _ (and_lt _ _ hb) (and_lt _ _ hc)
    · split
      · exact xor_lt _ _ (xor_lt _ _ hb hc) hd
      · exact xor_lt _ _ hc (or_lt _ _ hb (notN_lt d))

theorem mixG_lt (i : Int) : mixG i < 16 := by unfold mixG; omega

theorem wrap_mod (z : Int) : wrap64 z % 16 = z % 16 := by
  unfold wrap64
  omega

set_option maxHeartbeats 1000000 in
/-- Mix(i, b, c, d). -/
theorem mix_any (i : Int) (b c d : Nat) (w : World) (hb : b < 4294967296) (hc : c < 4294967296) (hd : d < 4294967296) :
    Calls Tryd.prog 51 #[.int .i64 i, .int .u32 b, .int .u32 c, .int .u32 d] w fun e w' => e = .returned (.tuple #[.int .u32 (mixF i b c d), .int .i64 (mixG i)]) ∧ w = w' := by
  have h15 := low15 i
  have hl0 : 0 ≤ i % 16 := by omega
  have hl1 : i % 16 < 16 := by omega
  have hg1 : i < 16 → i % 16 = mixG i := by intro h; simp only [mixG, h, if_true]; omega
  have hg2 : ¬ i < 16 → i < 32 → (5 * (i % 16) + 1) % 16 = mixG i := by intro h h'; simp only [mixG, h, h', if_true, if_false]; omega
  have hg3 : ¬ i < 32 → i < 48 → (3 * (i % 16) + 5) % 16 = mixG i := by intro h h'; simp only [mixG, h, h', show ¬ i < 16 by omega, if_true, if_false]; omega
  have hg4 : ¬ i < 48 → 7 * (i % 16) % 16 = mixG i := by intro h; simp only [mixG, h, show ¬ i < 16 by omega, show ¬ i < 32 by omega, if_false]; omega
  have G1 := Lib.hid hg1; have G2 := Lib.hid hg2; have G3 := Lib.hid hg3; have G4 := Lib.hid hg4
  clear hg1 hg2 hg3 hg4
  have k2 := low15 (5 * (i % 16) + 1)
  have k3 := low15 (3 * (i % 16) + 5)
  have k4 := low15 (7 * (i % 16))
  have K2 := Lib.hid k2; have K3 := Lib.hid k3; have K4 := Lib.hid k4
  clear k2 k3 k4
  generalize i % 16 = l at *
  by_cases h1 : i < 16
  · have e1 : mixF i b c d = (b &&& c) ||| (notN b &&& d) := by simp [mixF, h1]
    have E1 := Lib.hid e1; clear e1
    go_enter Tryd.func51, Tryd.ntmps51
    go_wp2
    go_ret2
    exact ⟨ret_mix (by rw [E1.out]; exact pick_right b c d hb hc hd) (G1.out h1), rfl⟩
  · by_cases h2 : i < 32
    · have e1 : mixF i b c d = (d &&& b) ||| (notN d &&& c) := by simp [mixF, h1, h2]
      have E1 := Lib.hid e1; clear e1
      go_enter Tryd.func51, Tryd.ntmps51
      go_wp2
      go_ret2
      exact ⟨ret_mix (by rw [E1.out]; exact pick_right d b c hd hb hc) (K2.out.trans (G2.out h1 h2)), rfl⟩
    · by_cases h3 : i < 48
      · have e1 : mixF i b c d = b ^^^ c ^^^ d := by simp [mixF, h1, h2, h3]
        have E1 := Lib.hid e1; clear e1
        go_enter Tryd.func51, Tryd.ntmps51
        go_wp2
        go_ret2
        exact ⟨ret_mix (by rw [E1.out]; exact odd_right b c d hb hc hd) (K3.out.trans (G3.out h2 h3)), rfl⟩
      · have e1 : mixF i b c d = c ^^^ (b ||| notN d) := by simp [mixF, h1, h2, h3]
        have E1 := Lib.hid e1; clear e1
        go_enter Tryd.func51, Tryd.ntmps51
        go_wp2
        go_ret2
        exact ⟨ret_mix (by rw [E1.out]; exact last_right b c d hb hc hd) (K4.out.trans (G4.out h3)), rfl⟩

set_option maxHeartbeats 1000000 in
/-- The document's Mix. -/
theorem rmix_any (i : Int) (b c d : Nat) (w : World) (hb : b < 4294967296) (hc : c < 4294967296) (hd : d < 4294967296) :
    Calls Tryd.prog 36 #[.int .i64 i, .int .u32 b, .int .u32 c, .int .u32 d] w fun e w' => e = .returned (.tuple #[.int .u32 (mixF i b c d), .int .i64 (mixG i)]) ∧ w = w' := by
  have hg1 : i < 16 → bits .and .i64 i 15 = mixG i := by intro h; rw [low15]; simp only [mixG, h, if_true]; omega
  have hg2 : ¬ i < 16 → i < 32 → bits .and .i64 (5 * i + 1) 15 = mixG i := by intro h h'; rw [low15]; simp only [mixG, h, h', if_true, if_false]; omega
  have hg3 : ¬ i < 32 → i < 48 → bits .and .i64 (3 * i + 5) 15 = mixG i := by intro h h'; rw [low15]; simp only [mixG, h, h', show ¬ i < 16 by omega, if_true, if_false]; omega
  have hg4 : ¬ i < 48 → bits .and .i64 (wrap64 (7 * i)) 15 = mixG i := by intro h; rw [low15, wrap_mod]; simp only [mixG, h, show ¬ i < 16 by omega, show ¬ i < 32 by omega, if_false]; omega
  have G1 := Lib.hid hg1; have G2 := Lib.hid hg2; have G3 := Lib.hid hg3; have G4 := Lib.hid hg4
  clear hg1 hg2 hg3 hg4
  by_cases h1 : i < 16
  · have e1 : mixF i b c d = (b &&& c) ||| (notN b &&& d) := by simp [mixF, h1]
    have E1 := Lib.hid e1; clear e1
    go_enter Tryd.func36, Tryd.ntmps36
    go_wp2
    go_ret2
    exact ⟨ret_mix (by rw [E1.out]; exact pick_right b c d hb hc hd) (G1.out h1), rfl⟩
  · by_cases h2 : i < 32
    · have e1 : mixF i b c d = (d &&& b) ||| (notN d &&& c) := by simp [mixF, h1, h2]
      have E1 := Lib.hid e1; clear e1
      go_enter Tryd.func36, Tryd.ntmps36
      go_wp2
      go_ret2
      exact ⟨ret_mix (by rw [E1.out]; exact pick_right d b c hd hb hc) (G2.out h1 h2), rfl⟩
    · by_cases h3 : i < 48
      · have e1 : mixF i b c d = b ^^^ c ^^^ d := by simp [mixF, h1, h2, h3]
        have E1 := Lib.hid e1; clear e1
        go_enter Tryd.func36, Tryd.ntmps36
        go_wp2
        go_ret2
        exact ⟨ret_mix (by rw [E1.out]; exact odd_right b c d hb hc hd) (G3.out h2 h3), rfl⟩
      · have e1 : mixF i b c d = c ^^^ (b ||| notN d) := by simp [mixF, h1, h2, h3]
        have E1 := Lib.hid e1; clear e1
        go_enter Tryd.func36, Tryd.ntmps36
        go_wp2
        go_ret2
        exact ⟨ret_mix (by rw [E1.out]; exact last_right b c d hb hc hd) (G4.out h3), rfl⟩

end Dig
end Go.Proofs.YtanfmghfmmhglaaDoor
