/-
  Plain data of layer 13 (no program): sets of eight ports as numbers; what is in them, their digits, their ranges, the next port; what the texts' runes are.
-/
import Derived.WalkKit
import Derived.Laws.RangeAny
import Derived.Lib.BitFns
namespace Go.Proofs.Ytkjdnmlaehjmgaa
namespace Por

/-- Whether the port p is in the set m (p any natural). -/
def hasN (m p : Nat) : Bool := m / 2 ^ p % 2 == 1

/-- The bits 0 to 7 of a set. -/
def low (x : Int) : Nat := (x % 256).toNat

theorem low_lt (x : Int) : low x < 256 := by unfold low; omega

theorem low_nat (m : Nat) (h : m < 256) : low (m : Int) = m := by unfold low; omega

/-- Has at any port. -/
def hasZ (m : Nat) (p : Int) : Bool := decide (0 ≤ p ∧ p < 8) && hasN m p.toNat

theorem hasZ_nat (m k : Nat) (h : k < 8) : hasZ m (k : Int) = hasN m k := by
  unfold hasZ
  rw [decide_eq_true (by omega), Bool.true_and]
  rfl

def withI (x p : Int) : Int := if 0 ≤ p ∧ p < 8 then bits .or .i64 x (2 ^ p.toNat) else x

def withoutI (x p : Int) : Int := if 0 ≤ p ∧ p < 8 then bits .andNot .i64 x (2 ^ p.toNat) else x

/-- With, of the bits 0 to 7. -/
def withN (m : Nat) (p : Int) : Nat := if 0 ≤ p ∧ p < 8 then m ||| 2 ^ p.toNat else m

theorem toNat_ofInt64 (x : Int) : (BitVec.ofInt IntKind.i64.bits x).toNat = (x % 18446744073709551616).toNat := by
  rw [BitVec.toNat_ofInt]
  rfl

theorem ofInt_wrap (v : BitVec IntKind.i64.bits) : BitVec.ofInt IntKind.i64.bits (IntKind.i64.wrap v.toNat) = v := by
  apply BitVec.eq_of_toNat_eq
  rw [toNat_ofInt64, IntKind.wrap_i64]
  have h : v.toNat < 18446744073709551616 := v.isLt
  omega

theorem low_wrap (n : Nat) : low (IntKind.i64.wrap n) = n % 256 := by
  rw [IntKind.wrap_i64]
  unfold low
  omega

theorem low_ofInt (x : Int) : (BitVec.ofInt IntKind.i64.bits x).toNat % 2 ^ 8 = low x := by
  rw [toNat_ofInt64]
  unfold low
  omega

theorem low_or (x y : Int) : low (bits .or .i64 x y) = low x ||| low y := by
  show low (IntKind.i64.wrap (BitVec.ofInt IntKind.i64.bits x ||| BitVec.ofInt IntKind.i64.bits y).toNat) = _
  rw [low_wrap, BitVec.toNat_or, show (256 : Nat) = 2 ^ 8 from rfl, Nat.or_mod_two_pow, low_ofInt, low_ofInt]

theorem wrap_wf (n : Int) : -9223372036854775808 ≤ IntKind.i64.wrap n ∧ IntKind.i64.wrap n ≤ 9223372036854775807 := by
  rw [IntKind.wrap_i64]
  omega

theorem or_nat (a b : Nat) (ha : a < 256) (hb : b < 256) : bits .or .i64 (a : Int) (b : Int) = ((a ||| b : Nat) : Int) := by
  show IntKind.i64.wrap ((BitVec.ofInt IntKind.i64.bits (a : Int) ||| BitVec.ofInt IntKind.i64.bits (b : Int)).toNat : Int) = _
  rw [BitVec.toNat_or, toNat_ofInt64, toNat_ofInt64, show ((a : Int) % 18446744073709551616).toNat = a by omega, show ((b : Int) % 18446744073709551616).toNat = b by omega]
  have h : a ||| b < 2 ^ 8 := Nat.or_lt_two_pow ha hb
  exact IntWalk.i64_in _ (by omega)

theorem pow_nat (n : Nat) : ((2 : Int) ^ n) = ((2 ^ n : Nat) : Int) := (Int.natCast_pow 2 n).symm

theorem and_low (x : Int) (n : Nat) (hn : n ≤ 63) : bits .and .i64 x (2 ^ n - 1) = x % 2 ^ n := by
  have hp : (2 : Int) ^ n ≤ 2 ^ 63 := by
    have h0 := Nat.pow_le_pow_right (n := 2) (by decide) hn
    rw [pow_nat n]
    generalize 2 ^ n = q at *
    omega
  have hq : (0 : Int) < 2 ^ n := Int.pow_pos (by decide)
  have hr := Int.emod_lt_of_pos x hq
  have hs := Int.emod_nonneg x (Int.ne_of_gt hq)
  show IntKind.i64.wrap ((BitVec.ofInt IntKind.i64.bits x &&& BitVec.ofInt IntKind.i64.bits (2 ^ n - 1)).toNat : Int) = _
  rw [BitVec.toNat_and, toNat_ofInt64, toNat_ofInt64]
  have h1 : (((2 : Int) ^ n - 1) % 18446744073709551616).toNat = 2 ^ n - 1 := by
    have : ((2 : Int) ^ n - 1) % 18446744073709551616 = 2 ^ n - 1 := Int.emod_eq_of_lt (by omega) (by omega)
    rw [this]
    have h2 := pow_nat n
    rw [h2]
    omega
  rw [h1, Nat.and_two_pow_sub_one_eq_mod]
  have h3 : ((((x % 18446744073709551616).toNat % 2 ^ n : Nat)) : Int) = x % 2 ^ n := by
    have h4 : ((x % 18446744073709551616).toNat : Int) = x % 18446744073709551616 := Int.toNat_of_nonneg (Int.emod_nonneg _ (by decide))
    rw [Int.natCast_emod, h4, ← pow_nat]
    refine Int.emod_emod_of_dvd x ?_
    exact ⟨2 ^ (64 - n), by rw [← Int.pow_add, Nat.add_sub_cancel' (by omega)]; rfl⟩
  rw [h3]
  exact IntWalk.i64_in _ (by omega)

theorem and1 (x : Int) : bits .and .i64 x 1 = x % 2 := and_low x 1 (by decide)
theorem and7 (x : Int) : bits .and .i64 x 7 = x % 8 := and_low x 3 (by decide)
theorem and255 (x : Int) : bits .and .i64 x 255 = x % 256 := and_low x 8 (by decide)

theorem withI_wf (x p : Int) (h : -9223372036854775808 ≤ x ∧ x ≤ 9223372036854775807) : -9223372036854775808 ≤ withI x p ∧ withI x p ≤ 9223372036854775807 := by
  unfold withI
  split
  · exact wrap_wf _
  · exact h

theorem withI_nat (m : Nat) (p : Int) (h : m < 256) : withI (m : Int) p = ((withN m p : Nat) : Int) := by
  unfold withI withN
  split
  · rename_i hp
    have h2 : 2 ^ p.toNat < 256 := Nat.lt_of_le_of_lt (Nat.pow_le_pow_right (by decide) (by omega : p.toNat ≤ 7)) (by decide)
    have := or_nat m (2 ^ p.toNat) h h2
    rw [← this, pow_nat]
  · rfl

theorem withN_lt (m : Nat) (p : Int) (h : m < 256) : withN m p < 256 := by
  unfold withN
  split
  · rename_i hp
    exact Nat.or_lt_two_pow (n := 8) h (Nat.lt_of_le_of_lt (Nat.pow_le_pow_right (by decide) (by omega : p.toNat ≤ 7)) (by decide))
  · exact h

theorem low_withI (x p : Int) : low (withI x p) = withN (low x) p := by
  unfold withI withN
  split
  · rename_i hp
    rw [low_or]
    have : low (2 ^ p.toNat) = 2 ^ p.toNat := by
      have h2 : 2 ^ p.toNat < 256 := Nat.lt_of_le_of_lt (Nat.pow_le_pow_right (by decide) (by omega : p.toNat ≤ 7)) (by decide)
      have := low_nat (2 ^ p.toNat) h2
      rw [pow_nat]
      exact this
    rw [this]
  · rfl

theorem bit_or (a b : Bool) : ((a && !b) || b) = (a || b) := by cases a <;> cases b <;> rfl
theorem bit_not (a b : Bool) : ((a || b) && !b) = (a && !b) := by cases a <;> cases b <;> rfl

/-- Taken out and put in. -/
theorem with_without (x p : Int) : withI (withoutI x p) p = withI x p := by
  unfold withI withoutI
  split
  · show IntKind.i64.wrap (BitVec.ofInt IntKind.i64.bits (IntKind.i64.wrap (BitVec.ofInt IntKind.i64.bits x &&& ~~~BitVec.ofInt IntKind.i64.bits (2 ^ p.toNat)).toNat) ||| BitVec.ofInt IntKind.i64.bits (2 ^ p.toNat)).toNat = IntKind.i64.wrap (BitVec.ofInt IntKind.i64.bits x ||| BitVec.ofInt IntKind.i64.bits (2 ^ p.toNat)).toNat
    rw [ofInt_wrap]
    congr 3
    apply BitVec.eq_of_getLsbD_eq
    intro i hi
    simp only [BitVec.getLsbD_or, BitVec.getLsbD_and, BitVec.getLsbD_not, hi, decide_true, Bool.true_and]
    exact bit_or _ _
  · rfl

theorem without_with (x p : Int) : withoutI (withI x p) p = withoutI x p := by
  unfold withI withoutI
  split
  · show IntKind.i64.wrap (BitVec.ofInt IntKind.i64.bits (IntKind.i64.wrap (BitVec.ofInt IntKind.i64.bits x ||| BitVec.ofInt IntKind.i64.bits (2 ^ p.toNat)).toNat) &&& ~~~BitVec.ofInt IntKind.i64.bits (2 ^ p.toNat)).toNat = IntKind.i64.wrap (BitVec.ofInt IntKind.i64.bits x &&& ~~~BitVec.ofInt IntKind.i64.bits (2 ^ p.toNat)).toNat
    rw [ofInt_wrap]
    congr 3
    apply BitVec.eq_of_getLsbD_eq
    intro i hi
    simp only [BitVec.getLsbD_or, BitVec.getLsbD_and, BitVec.getLsbD_not, hi, decide_true, Bool.true_and]
    exact bit_not _ _
  · rfl

theorem low_without (x p : Int) (hp : 0 ≤ p ∧ p < 8) : low (withoutI x p) = low x &&& (255 - 2 ^ p.toNat) := by
  unfold withoutI
  rw [if_pos hp]
  show low (IntKind.i64.wrap (BitVec.ofInt IntKind.i64.bits x &&& ~~~BitVec.ofInt IntKind.i64.bits (2 ^ p.toNat)).toNat) = _
  rw [low_wrap, BitVec.toNat_and, show (256 : Nat) = 2 ^ 8 from rfl, Nat.and_mod_two_pow, low_ofInt]
  congr 1
  have h2 : 2 ^ p.toNat < 256 := Nat.lt_of_le_of_lt (Nat.pow_le_pow_right (by decide) (by omega : p.toNat ≤ 7)) (by decide)
  rw [BitVec.toNat_not, toNat_ofInt64]
  have h3 : (((2 : Int) ^ p.toNat) % 18446744073709551616).toNat = 2 ^ p.toNat := by
    have := pow_nat p.toNat
    rw [this]
    generalize 2 ^ p.toNat = q at *
    omega
  rw [h3]
  generalize 2 ^ p.toNat = q at *
  show (2 ^ 64 - 1 - q) % 2 ^ 8 = _
  omega

theorem has_with_fin : ∀ m : Fin 256, ∀ k : Fin 8, hasN (m.val ||| 2 ^ k.val) k.val = true := by decide +kernel
theorem has_without_fin : ∀ m : Fin 256, ∀ k : Fin 8, hasN (m.val &&& (255 - 2 ^ k.val)) k.val = false := by decide +kernel

theorem has_with (x p : Int) (hp : 0 ≤ p ∧ p < 8) : hasZ (low (withI x p)) p = true := by
  rw [low_withI]
  unfold hasZ withN
  rw [if_pos hp, decide_eq_true hp, Bool.true_and]
  exact has_with_fin ⟨low x, low_lt x⟩ ⟨p.toNat, by omega⟩

theorem has_without (x p : Int) (hp : 0 ≤ p ∧ p < 8) : hasZ (low (withoutI x p)) p = false := by
  rw [low_without x p hp]
  unfold hasZ
  rw [decide_eq_true hp, Bool.true_and]
  exact has_without_fin ⟨low x, low_lt x⟩ ⟨p.toNat, by omega⟩

/-- The ports below k that are in the set. -/
def listN (m k : Nat) : List Nat := (List.range k).filter (hasN m)

theorem listN_yes (m k : Nat) (h : hasN m k = true) : listN m (k + 1) = listN m k ++ [k] := by
  unfold listN
  rw [List.range_succ, List.filter_append]
  simp [h]

theorem listN_no (m k : Nat) (h : hasN m k = false) : listN m (k + 1) = listN m k := by
  unfold listN
  rw [List.range_succ, List.filter_append]
  simp [h]

theorem listN_len (m k : Nat) : (listN m k).length ≤ k := by
  have := List.length_filter_le (hasN m) (List.range k)
  rw [List.length_range] at this
  exact this

/-- The ports as ints. -/
def listI (m k : Nat) : List Int := (listN m k).map Int.ofNat

theorem listI_yes (m k : Nat) (h : hasN m k = true) : listI m (k + 1) = listI m k ++ [(k : Int)] := by
  unfold listI
  rw [listN_yes m k h, List.map_append]
  rfl

theorem listI_no (m k : Nat) (h : hasN m k = false) : listI m (k + 1) = listI m k := by
  unfold listI
  rw [listN_no m k h]

theorem listI_len (m k : Nat) : (listI m k).length ≤ k := by
  unfold listI
  rw [List.length_map]
  exact listN_len m k

theorem count_fin : ∀ m : Fin 256, Lib.onesCount m.val = (listI m.val 8).length := by decide +kernel

theorem count_zero_fin : ∀ m : Fin 256, ((listI m.val 8).length = 0) ↔ m.val = 0 := by decide +kernel

theorem count_zero (m : Nat) (h : m < 256) : (listI m 8).length = 0 ↔ m = 0 := count_zero_fin ⟨m, h⟩

/-- A port's digit. -/
def dig (k : Nat) : UInt8 := UInt8.ofNat (48 + k)

/-- The digits of the ports below k. -/
def digL (m k : Nat) : List UInt8 := (listN m k).map dig

theorem digL_yes (m k : Nat) (h : hasN m k = true) : digL m (k + 1) = digL m k ++ [dig k] := by
  unfold digL
  rw [listN_yes m k h, List.map_append]
  rfl

theorem digL_no (m k : Nat) (h : hasN m k = false) : digL m (k + 1) = digL m k := by
  unfold digL
  rw [listN_no m k h]

theorem digL_len (m k : Nat) : (digL m k).length ≤ k := by
  unfold digL
  rw [List.length_map]
  exact listN_len m k

theorem digL_nil (m k : Nat) : digL m k = [] ↔ listI m k = [] := by
  unfold digL listI
  simp

/-- Text. -/
def textL (m : Nat) : List UInt8 := if m = 0 then [45] else digL m 8

def textB (m : Nat) : ByteArray := ⟨(textL m).toArray⟩

theorem textB_list (m : Nat) : (textB m).data.toList = textL m := by simp [textB]

/-- A step of Ranges. -/
def stepR (m : Nat) (k : Nat) (o : List UInt8) : List UInt8 :=
  if hasZ m k = false then o
  else if hasZ m ((k : Int) - 1) = false then (if o = [] then [dig k] else o ++ [44] ++ [dig k])
  else if hasZ m ((k : Int) + 1) = false then o ++ ([45] ++ [dig k])
  else o

/-- What Ranges has written ahead of the port k. -/
def rangL (m : Nat) : Nat → List UInt8
  | 0 => []
  | k + 1 => stepR m k (rangL m k)

theorem stepR_len (m k : Nat) (o : List UInt8) : (stepR m k o).length ≤ o.length + 2 := by
  unfold stepR
  repeat' split
  all_goals simp

theorem rangL_len (m : Nat) : ∀ k, (rangL m k).length ≤ 2 * k
  | 0 => by simp [rangL]
  | k + 1 => by
    have h1 := rangL_len m k
    have h2 := stepR_len m k (rangL m k)
    simp only [rangL]
    omega

/-- Ranges. -/
def rangesL (m : Nat) : List UInt8 := if m = 0 then [110, 111, 110, 101] else rangL m 8

def rangesB (m : Nat) : ByteArray := ⟨(rangesL m).toArray⟩

theorem rangesB_list (m : Nat) : (rangesB m).data.toList = rangesL m := by simp [rangesB]

/-- Next: so many ports more are looked at, behind b. -/
def nextAux (m : Nat) : Nat → Nat → Int
  | 0, _ => -1
  | f + 1, b => if hasN m ((b + 1) % 8) then ((b + 1) % 8 : Nat) else nextAux m f ((b + 1) % 8)

def nextN (m b : Nat) : Int := nextAux m 8 b

/-- The document's. -/
def rnextAux (m b : Nat) : Nat → Nat → Int
  | 0, _ => -1
  | f + 1, k => if hasN m ((b + k) % 8) then ((b + k) % 8 : Nat) else rnextAux m b f (k + 1)

def rnextN (m b : Nat) : Int := rnextAux m b 8 1

theorem rnext_fin : ∀ m : Fin 256, ∀ b : Fin 8, rnextN m.val b.val = nextN m.val b.val := by decide +kernel

theorem rnext_is (m b : Nat) (h : m < 256) (hb : b < 8) : rnextN m b = nextN m b := rnext_fin ⟨m, h⟩ ⟨b, hb⟩

theorem next_fin : ∀ m : Fin 256, ∀ b : Fin 8, (decide (0 ≤ nextN m.val b.val) = !(m.val == 0)) ∧ nextN m.val b.val < 8 ∧ -1 ≤ nextN m.val b.val ∧ (nextN m.val b.val < 0 ∨ hasZ m.val (nextN m.val b.val) = true) := by decide +kernel

/-- The port whose digit a rune is, or -1. -/
def portI (r : Int) : Int := if 48 ≤ r ∧ r ≤ 55 then r - 48 else -1

theorem portI_dig (k : Nat) (h : k < 8) : portI (48 + (k : Int)) = k := by
  unfold portI
  rw [if_pos (by omega)]
  omega

theorem portI_none (r : Int) (h : ∀ j : Nat, j < 8 → (48 + (j : Int)) ≠ r) : portI r = -1 := by
  unfold portI
  rw [if_neg]
  intro ⟨h1, h2⟩
  exact h (r - 48).toNat (by omega) (by omega)

theorem portI_in (r : Int) : -1 ≤ portI r ∧ portI r < 8 := by
  unfold portI
  split <;> omega

/-- A port of the list, and its digit. -/
theorem list_at (m k : Nat) (h : k < (listI m 8).length) : ∃ q : Nat, q < 8 ∧ (listI m 8)[k] = (q : Int) ∧ (digL m 8).take (k + 1) = (digL m 8).take k ++ [dig q] := by
  have h1 : k < (listN m 8).length := by simpa [listI] using h
  have h2 : k < (digL m 8).length := by simpa [digL] using h1
  have hm : (listN m 8)[k] ∈ listN m 8 := List.getElem_mem h1
  have hr : (listN m 8)[k] < 8 := by
    unfold listN at hm
    have := (List.mem_filter.1 hm).1
    exact List.mem_range.1 this
  refine ⟨(listN m 8)[k], hr, ?_, ?_⟩
  · simp [listI]
  · rw [List.take_succ_eq_append_getElem h2]
    simp [digL]

/-- listed. -/
def listedL (o it : List UInt8) : List UInt8 := if o = [] then it else o ++ [44] ++ it

/-- filled: so many rounds more. -/
def fillF : Nat → Nat → Int → Int → Nat
  | 0, m, _, _ => m
  | f + 1, m, p, t => if (0 ≤ p ∧ p < 8) ∧ p < t then fillF f (withN m p) (p + 1) t else m

def fillN (a t : Int) : Nat := fillF 8 (withN 0 t) a t

theorem fillF_end (f m : Nat) (p t : Int) (h : ¬ ((0 ≤ p ∧ p < 8) ∧ p < t)) : fillF f m p t = m := by
  cases f with
  | zero => rfl
  | succ f => simp only [fillF, if_neg h]

theorem fillF_lt : ∀ (f m : Nat) (p t : Int), m < 256 → fillF f m p t < 256
  | 0, m, _, _, h => h
  | f + 1, m, p, t, h => by
    simp only [fillF]
    split
    · exact fillF_lt f _ _ _ (withN_lt m p h)
    · exact h

theorem fillN_lt (a t : Int) : fillN a t < 256 := fillF_lt 8 _ a t (withN_lt 0 t (by decide))

theorem nextAux_hit (m f b c : Nat) (hc : (b + 1) % 8 = c) (h : hasN m c = true) : nextAux m (f + 1) b = (c : Int) := by
  simp only [nextAux, hc, h, if_true]

theorem nextAux_miss (m f b c : Nat) (hc : (b + 1) % 8 = c) (h : hasN m c = false) : nextAux m (f + 1) b = nextAux m f c := by
  simp only [nextAux, hc, h]
  rfl

theorem rnextAux_hit (m f b k c : Nat) (hc : (b + k) % 8 = c) (h : hasN m c = true) : rnextAux m b (f + 1) k = (c : Int) := by
  simp only [rnextAux, hc, h, if_true]

theorem rnextAux_miss (m f b k c : Nat) (hc : (b + k) % 8 = c) (h : hasN m c = false) : rnextAux m b (f + 1) k = rnextAux m b f (k + 1) := by
  simp only [rnextAux, hc, h]
  rfl

theorem stepR_off (m k : Nat) (o : List UInt8) (h : hasZ m k = false) : stepR m k o = o := by unfold stepR; rw [if_pos h]

theorem stepR_new (m k : Nat) (o : List UInt8) (h : hasZ m k = true) (h1 : hasZ m ((k : Int) - 1) = false) : stepR m k o = listedL o [dig k] := by
  unfold stepR
  rw [if_neg (by rw [h]; decide), if_pos h1]
  rfl

theorem stepR_last (m k : Nat) (o : List UInt8) (h : hasZ m k = true) (h1 : hasZ m ((k : Int) - 1) = true) (h2 : hasZ m ((k : Int) + 1) = false) : stepR m k o = o ++ ([45] ++ [dig k]) := by
  unfold stepR
  rw [if_neg (by rw [h]; decide), if_neg (by rw [h1]; decide), if_pos h2]

theorem stepR_mid (m k : Nat) (o : List UInt8) (h : hasZ m k = true) (h1 : hasZ m ((k : Int) - 1) = true) (h2 : hasZ m ((k : Int) + 1) = true) : stepR m k o = o := by
  unfold stepR
  rw [if_neg (by rw [h]; decide), if_neg (by rw [h1]; decide), if_neg (by rw [h2]; decide)]

theorem rangesB_none (m : Nat) (hm : m = 0) : rangesB m = ⟨#[110, 111, 110, 101]⟩ := by subst hm; rfl

theorem rangesB_some (m : Nat) (hm : m ≠ 0) : rangesB m = ⟨(rangL m 8).toArray⟩ := by unfold rangesB rangesL; rw [if_neg hm]

/-- The last port of a run. -/
def endF (m : Nat) : Nat → Nat → Nat
  | 0, p => p
  | f + 1, p => if hasZ m ((p : Int) + 1) then endF m f (p + 1) else p

theorem endF_ge (m : Nat) : ∀ f p, p ≤ endF m f p
  | 0, p => Nat.le_refl _
  | f + 1, p => by
    simp only [endF]
    split
    · have := endF_ge m f (p + 1); omega
    · exact Nat.le_refl _

theorem hasZ_eight (m : Nat) (p : Int) (h : hasZ m p = true) : 0 ≤ p ∧ p < 8 := by
  unfold hasZ at h
  rw [Bool.and_eq_true] at h
  exact of_decide_eq_true h.1

theorem endF_lt (m : Nat) : ∀ f p, p < 8 → endF m f p < 8
  | 0, p, h => h
  | f + 1, p, h => by
    simp only [endF]
    split
    · rename_i hz
      have := hasZ_eight m _ hz
      exact endF_lt m f (p + 1) (by omega)
    · exact h

/-- The document's Ranges: so many rounds more, at the port p. -/
def rrangF (m : Nat) : Nat → Nat → List UInt8 → List UInt8
  | 0, _, o => o
  | f + 1, p, o => if p < 8 then
      if hasN m p then rrangF m f (endF m 8 p + 1) ((if o = [] then [] else o ++ [44]) ++ [dig p] ++ (if p < endF m 8 p then [45] ++ [dig (endF m 8 p)] else []))
      else rrangF m f (p + 1) o
    else o

theorem rrang_fin : ∀ m : Fin 256, rrangF m.val 9 0 [] = rangL m.val 8 := by decide +kernel

theorem rrang_is (m : Nat) (h : m < 256) : rrangF m 9 0 [] = rangL m 8 := rrang_fin ⟨m, h⟩

theorem rang_empty_fin : ∀ m : Fin 256, (rangL m.val 8).isEmpty = (m.val == 0) := by decide +kernel

theorem rang_empty (m : Nat) (h : m < 256) : rangL m 8 = [] ↔ m = 0 := by
  have := rang_empty_fin ⟨m, h⟩
  simp only at this
  rw [← List.isEmpty_iff, this]
  simp

/-! ### The runes of a text -/

theorem width_pos (s : ByteArray) (pos : Nat) (h : pos < s.size) : 1 ≤ (Utf8.decode s pos).2 := by
  by_cases ha : (s[pos]'h).toNat < 128
  · rw [decode_ascii s pos h ha]
    exact Nat.le_refl _
  · exact (decode_high s pos h (by omega)).2

def runesF (s : ByteArray) : Nat → Nat → List Int
  | 0, _ => []
  | f + 1, pos => if pos < s.size then (Utf8.decode s pos).1 :: runesF s f (pos + (Utf8.decode s pos).2) else []

def runes (s : ByteArray) (pos : Nat) : List Int := runesF s (s.size - pos) pos

theorem runesF_end (s : ByteArray) (f pos : Nat) (h : ¬ pos < s.size) : runesF s f pos = [] := by
  cases f with
  | zero => rfl
  | succ f => simp [runesF, h]

theorem runesF_more (s : ByteArray) : ∀ (f g pos : Nat), s.size - pos ≤ f → s.size - pos ≤ g → runesF s f pos = runesF s g pos
  | 0, g, pos, hf, _ => by rw [runesF_end s g pos (by omega)]; rfl
  | f + 1, 0, pos, _, hg => by rw [runesF_end s (f + 1) pos (by omega)]; rfl
  | f + 1, g + 1, pos, hf, hg => by
    simp only [runesF]
    split
    · rename_i hp
      have := width_pos s pos hp
      rw [runesF_more s f g _ (by omega) (by omega)]
    · rfl

theorem runes_next (s : ByteArray) (pos : Nat) (h : pos < s.size) : runes s pos = ((Utf8.decode s pos).1 : Int) :: runes s (pos + (Utf8.decode s pos).2) := by
  have hw := width_pos s pos h
  unfold runes
  obtain ⟨f, hf⟩ : ∃ f, s.size - pos = f + 1 := ⟨s.size - pos - 1, by omega⟩
  rw [hf]
  simp only [runesF, if_pos h]
  rw [runesF_more s f (s.size - (pos + (Utf8.decode s pos).2)) _ (by omega) (by omega)]

theorem runes_end (s : ByteArray) (pos : Nat) (h : ¬ pos < s.size) : runes s pos = [] := runesF_end s _ pos h

theorem byte_at (s : ByteArray) (pos : Nat) (h : pos < s.size) : s.data.toList[pos]? = some (s[pos]'h) := by
  rw [List.getElem?_eq_getElem (by simpa using h)]
  rfl

def nums (l : List UInt8) : List Int := l.map fun b => (b.toNat : Int)

/-- Of a text whose bytes are all below 128 the runes are the bytes. -/
theorem runes_ascii (s : ByteArray) : ∀ (n pos : Nat), s.size - pos = n → (∀ b ∈ s.data.toList.drop pos, b.toNat < 128) → runes s pos = nums (s.data.toList.drop pos)
  | 0, pos, hn, _ => by
    rw [runes_end s pos (by omega), List.drop_eq_nil_of_le (by simp; omega)]
    rfl
  | n + 1, pos, hn, ha => by
    have hp : pos < s.size := by omega
    have hd : s.data.toList.drop pos = s[pos] :: s.data.toList.drop (pos + 1) := by
      rw [List.drop_eq_getElem_cons (by simpa using hp)]
      rfl
    rw [hd] at ha ⊢
    have h0 : (s[pos]'hp).toNat < 128 := ha _ (by simp)
    rw [runes_next s pos hp, decode_ascii s pos hp h0, runes_ascii s n (pos + 1) (by omega) (fun b hb => ha b (by simp [hb]))]
    rfl

/-- A text all of whose runes are below 128 has such bytes alone. -/
theorem ascii_of_runes (s : ByteArray) : ∀ (n pos : Nat), s.size - pos = n → (∀ r ∈ runes s pos, r < 128) → ∀ b ∈ s.data.toList.drop pos, b.toNat < 128
  | 0, pos, hn, _ => by
    rw [List.drop_eq_nil_of_le (by simp; omega)]
    simp
  | n + 1, pos, hn, ha => by
    have hp : pos < s.size := by omega
    have hd : s.data.toList.drop pos = s[pos] :: s.data.toList.drop (pos + 1) := by
      rw [List.drop_eq_getElem_cons (by simpa using hp)]
      rfl
    rw [runes_next s pos hp] at ha
    by_cases h0 : (s[pos]'hp).toNat < 128
    · rw [decode_ascii s pos hp h0] at ha
      have := ascii_of_runes s n (pos + 1) (by omega) (fun r hr => ha r (by simp [hr]))
      rw [hd]
      intro b hb
      rcases List.mem_cons.1 hb with rfl | hb
      · exact h0
      · exact this b hb
    · have h1 := (decode_high s pos hp (by omega)).1
      have h2 := ha ((Utf8.decode s pos).1 : Int) (by simp)
      omega

theorem runes_of_list (s : ByteArray) (h : ∀ b ∈ s.data.toList, b.toNat < 128) : runes s 0 = nums s.data.toList := by
  have := runes_ascii s s.size 0 (by omega) (by simpa using h)
  simpa using this

theorem list_of_runes (s : ByteArray) (h : ∀ r ∈ runes s 0, r < 128) : runes s 0 = nums s.data.toList :=
  runes_of_list s (by have := ascii_of_runes s s.size 0 (by omega) h; simpa using this)

end Por
end Go.Proofs.Ytkjdnmlaehjmgaa
