/-
  What the functions of package mac, and the document's answers of layer 2, say of an address as a number: Right, Group, Local, Maker, Made, Reserved, Bytes, Read; and that they change nothing that was there.
-/
import Derived.Test.YtbighadkcmhplaaOct
import Derived.Test.YtbighadkcmhplaaOctRef
import Derived.Test.YtbighadkcmhplaaMacNum
import Derived.Laws.BitsAllLaws
namespace Go.Proofs.Ytbighadkcmhplaa
open Go.RowKit
namespace Mac
open Oct

theorem ret_bool {a b : Bool} (h : a = b) : Ending.returned (.bool a) = .returned (.bool b) := by rw [h]
theorem ret_int {k : IntKind} {a b : Int} (h : a = b) : Ending.returned (.int k a) = .returned (.int k b) := by rw [h]

def rightB (m : Nat) : Bool := decide (m < 281474976710656)
def groupB (m : Nat) : Bool := decide (m / 1099511627776 % 2 = 1)
def localB (m : Nat) : Bool := decide (m / 2199023255552 % 2 = 1)
def makerN (m : Nat) : Nat := m / 16777216 % 16777216
def reservedB (m : Nat) : Bool := decide (m / 16 = 103282638848)

theorem and_bit (m i : Nat) : m &&& 2 ^ i = if m / 2 ^ i % 2 = 1 then 2 ^ i else 0 := by
  have ht : m.testBit i = decide (m / 2 ^ i % 2 = 1) := Nat.testBit_eq_decide_div_mod_eq
  apply Nat.eq_of_testBit_eq
  intro j
  rw [Nat.testBit_and, Nat.testBit_two_pow]
  by_cases hj : i = j
  · subst hj
    rw [ht]
    by_cases h : m / 2 ^ i % 2 = 1 <;> simp [h]
  · by_cases h : m / 2 ^ i % 2 = 1 <;> simp [h, hj]

theorem and_low (m i : Nat) : m &&& (2 ^ i - 1) = m % 2 ^ i := Nat.and_two_pow_sub_one_eq_mod m i

theorem group_bit (m : Nat) (hm : m < 18446744073709551616) : (bits .and .u64 (m : Int) 1099511627776 != 0) = groupB m := by
  have e := u64_and_nat m 1099511627776 hm (by omega)
  have f := and_bit m 40
  rw [show (2 : Nat) ^ 40 = 1099511627776 by rfl] at f
  rw [show (1099511627776 : Int) = ((1099511627776 : Nat) : Int) by rfl, e, f]
  unfold groupB
  by_cases h : m / 1099511627776 % 2 = 1 <;> simp [h]

theorem local_bit (m : Nat) (hm : m < 18446744073709551616) : (bits .and .u64 (m : Int) 2199023255552 != 0) = localB m := by
  have e := u64_and_nat m 2199023255552 hm (by omega)
  have f := and_bit m 41
  rw [show (2 : Nat) ^ 41 = 2199023255552 by rfl] at f
  rw [show (2199023255552 : Int) = ((2199023255552 : Nat) : Int) by rfl, e, f]
  unfold localB
  by_cases h : m / 2199023255552 % 2 = 1 <;> simp [h]

theorem and_one (x : Nat) (hx : x < 18446744073709551616) : bits .and .u64 (x : Int) 1 = ((x % 2 : Nat) : Int) := by
  have e := u64_and_nat x 1 hx (by omega)
  rw [show (1 : Int) = ((1 : Nat) : Int) by rfl, e]
  have f := and_low x 1
  simp at f
  rw [Nat.and_one_is_mod]

theorem and24 (x : Nat) (hx : x < 18446744073709551616) : bits .and .u64 (x : Int) 16777215 = ((x % 16777216 : Nat) : Int) := by
  have e := u64_and_nat x 16777215 hx (by omega)
  have f := and_low x 24
  rw [show (16777215 : Int) = ((16777215 : Nat) : Int) by rfl, e]
  rw [show (2 : Nat) ^ 24 = 16777216 by rfl] at f
  rw [show 16777215 = 16777216 - 1 by rfl, f]

theorem and48 (x : Nat) (hx : x < 18446744073709551616) : bits .and .u64 (x : Int) 281474976710655 = ((x % 281474976710656 : Nat) : Int) := by
  have e := u64_and_nat x 281474976710655 hx (by omega)
  have f := and_low x 48
  rw [show (281474976710655 : Int) = ((281474976710655 : Nat) : Int) by rfl, e]
  rw [show (2 : Nat) ^ 48 = 281474976710656 by rfl] at f
  rw [show 281474976710655 = 281474976710656 - 1 by rfl, f]

theorem made_or (a b : Nat) (ha : a < 16777216) (hb : b < 16777216) : bits .or .u64 ((a : Int) * 16777216) (b : Int) = ((a * 16777216 + b : Nat) : Int) := by
  rw [show ((a : Int) * 16777216) = ((a * 16777216 : Nat) : Int) by omega, u64_or_nat _ _ (by omega) (by omega)]
  have : a * 16777216 ||| b = a * 16777216 + b := by
    rw [show a * 16777216 = 2 ^ 24 * a by omega, Nat.two_pow_add_eq_or_of_lt (by omega)]
  rw [this]

theorem and_not15 (m : Nat) (hm : m < 18446744073709551616) : m &&& 18446744073709551600 = m / 16 * 16 := by
  apply Nat.eq_of_testBit_eq
  intro i
  have h1 : m / 16 * 16 = (m >>> 4) <<< 4 := by rw [Nat.shiftRight_eq_div_pow, Nat.shiftLeft_eq]
  have h2 : 18446744073709551600 = (2 ^ 60 - 1) <<< 4 := by decide
  rw [h1, h2, Nat.testBit_and, Nat.testBit_shiftLeft, Nat.testBit_shiftLeft, Nat.testBit_shiftRight, Nat.testBit_two_pow_sub_one]
  by_cases h4 : 4 ≤ i
  · rw [show 4 + (i - 4) = i by omega]
    by_cases h5 : i - 4 < 60
    · simp [h4, h5]
    · have : m.testBit i = false := Nat.testBit_lt_two_pow (Nat.lt_of_lt_of_le hm (by
        have : 2 ^ 64 ≤ 2 ^ i := Nat.pow_le_pow_right (by omega) (by omega)
        simpa using this))
      simp [this]
  · simp [h4]

theorem reserved_bits (m : Nat) (hm : m < 18446744073709551616) : (bits .andNot .u64 (m : Int) 15 == 1652522221568) = reservedB m := by
  have e := u64_andNot_nat m 15 hm (by omega)
  rw [show (15 : Int) = ((15 : Nat) : Int) by rfl, e]
  rw [show 18446744073709551615 - 15 = 18446744073709551600 by rfl, and_not15 m hm]
  unfold reservedB
  rw [Bool.eq_iff_iff]
  simp
  omega

/-- Made's answer. -/
def madeR (a : Nat) (n : Int) : Nat × Int := if a < 16777216 ∧ 0 ≤ n ∧ n < 16777216 then (a * 16777216 + n.toNat, 0) else (0, 1)

theorem ret_pair {k l : IntKind} {a b c d : Int} (h : a = b) (g : c = d) : Ending.returned (.tuple #[.int k a, .int l c]) = .returned (.tuple #[.int k b, .int l d]) := by rw [h, g]

end Mac
end Go.Proofs.Ytbighadkcmhplaa
