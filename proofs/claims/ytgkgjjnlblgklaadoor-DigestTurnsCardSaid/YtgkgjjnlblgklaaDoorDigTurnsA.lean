/-
  Plain facts on turned and mixed words (no program): turned on to the whole a word is as it was; what a mix of the first kind holds.
-/
import Derived.Test.YtgkgjjnlblgklaaDoorDigNum
namespace Go.Proofs.YtgkgjjnlblgklaaDoor
namespace Dig

theorem rot_is (x n : Nat) (hx : x < 4294967296) (hn : n ≤ 32) : rotN x n = (x % 2 ^ (32 - n)) * 2 ^ n + x / 2 ^ (32 - n) := by
  have hp : (2 : Nat) ^ (32 - n) * 2 ^ n = 4294967296 := by rw [← Nat.pow_add, Nat.sub_add_cancel hn]
  have h1 : x * 2 ^ n % 4294967296 = 2 ^ n * (x % 2 ^ (32 - n)) := by
    rw [← hp, Nat.mul_mod_mul_right, Nat.mul_comm]
  have h2 : x / 2 ^ (32 - n) < 2 ^ n := by
    rw [Nat.div_lt_iff_lt_mul (Nat.two_pow_pos _), Nat.mul_comm, hp]
    exact hx
  unfold rotN
  rw [h1, ← Nat.two_pow_add_eq_or_of_lt h2, Nat.mul_comm]

theorem rot_zero (x : Nat) (hx : x < 4294967296) : rotN x 0 = x := by
  rw [rot_is x 0 hx (by omega)]
  simp only [Nat.sub_zero, Nat.pow_zero, Nat.mul_one]
  omega

theorem rot_back (x m : Nat) (hx : x < 4294967296) (hm : m < 32) : rotN (rotN x m) ((32 - m) % 32) = x := by
  by_cases h0 : m = 0
  · subst h0
    show rotN (rotN x 0) 0 = x
    rw [rot_zero x hx, rot_zero x hx]
  · have hp : (2 : Nat) ^ (32 - m) * 2 ^ m = 4294967296 := by rw [← Nat.pow_add, Nat.sub_add_cancel (by omega)]
    have h2 : x / 2 ^ (32 - m) < 2 ^ m := by
      rw [Nat.div_lt_iff_lt_mul (Nat.two_pow_pos _), Nat.mul_comm, hp]
      exact hx
    have h3 : x % 2 ^ (32 - m) < 2 ^ (32 - m) := Nat.mod_lt _ (Nat.two_pow_pos _)
    rw [Nat.mod_eq_of_lt (by omega : 32 - m < 32), rot_is x m hx (by omega)]
    have hy : x % 2 ^ (32 - m) * 2 ^ m + x / 2 ^ (32 - m) < 4294967296 := by
      have : x % 2 ^ (32 - m) * 2 ^ m + 2 ^ m ≤ 4294967296 := by
        rw [← Nat.succ_mul, ← hp]
        exact Nat.mul_le_mul_right _ h3
      omega
    rw [rot_is _ (32 - m) hy (by omega), show 32 - (32 - m) = m by omega, Nat.mul_comm (x % _) (2 ^ m), Nat.mul_add_mod, Nat.mod_eq_of_lt h2, Nat.mul_add_div (Nat.two_pow_pos _), Nat.div_eq_of_lt h2, Nat.add_zero, Nat.mul_comm]
    exact Nat.div_add_mod x (2 ^ (32 - m))

theorem not_bit (x i : Nat) (hx : x < 4294967296) : (notN x).testBit i = (decide (i < 32) && !x.testBit i) := by
  have := Nat.testBit_two_pow_sub_succ (n := 32) hx i
  unfold notN
  rw [show 4294967295 - x = 2 ^ 32 - (x + 1) by omega]
  exact this

theorem mix_and (b c d : Nat) : ((b &&& c) ||| (notN b &&& d)) &&& b = c &&& b ∨ 4294967296 ≤ b := by
  by_cases hb : b < 4294967296
  · left
    apply Nat.eq_of_testBit_eq
    intro i
    simp only [Nat.testBit_and, Nat.testBit_or, not_bit b i hb]
    cases b.testBit i <;> cases c.testBit i <;> simp
  · right; omega

theorem mix_andnot (b c d : Nat) : ((b &&& c) ||| (notN b &&& d)) &&& notN b = d &&& notN b ∨ 4294967296 ≤ b := by
  by_cases hb : b < 4294967296
  · left
    apply Nat.eq_of_testBit_eq
    intro i
    simp only [Nat.testBit_and, Nat.testBit_or, not_bit b i hb]
    cases b.testBit i <;> cases c.testBit i <;> cases decide (i < 32) <;> simp
  · right; omega

end Dig
end Go.Proofs.YtgkgjjnlblgklaaDoor
