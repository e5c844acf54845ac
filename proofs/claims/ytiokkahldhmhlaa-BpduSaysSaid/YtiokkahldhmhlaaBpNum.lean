/-
  Plain facts on what bridges tell (no program): whether it can be told, its flags as a number, its bytes, what is read of any bytes, and that what is written is read.
-/
import Derived.Test.YtiokkahldhmhlaaEplNum
namespace Go.Proofs.Ytiokkahldhmhlaa
namespace Bpd
open Oct Mac Eth Epl

structure Bp where
  k : Int
  ch : Bool
  pr : Bool
  ro : Int
  le : Bool
  fo : Bool
  ag : Bool
  ac : Bool
  r : Nat
  c : Nat
  g : Nat
  p : Int
  a : Int
  m : Int
  h : Int
  d : Int
deriving DecidableEq

theorem Bp.ext_iff' {x y : Bp} : x = y ↔ x.k = y.k ∧ x.ch = y.ch ∧ x.pr = y.pr ∧ x.ro = y.ro ∧ x.le = y.le ∧ x.fo = y.fo ∧ x.ag = y.ag ∧ x.ac = y.ac ∧ x.r = y.r ∧ x.c = y.c ∧ x.g = y.g ∧ x.p = y.p ∧ x.a = y.a ∧ x.m = y.m ∧ x.h = y.h ∧ x.d = y.d := by
  cases x; cases y; simp

def zeroB : Bp := ⟨0, false, false, 0, false, false, false, false, 0, 0, 0, 0, 0, 0, 0, 0⟩
def changeB : Bp := ⟨128, false, false, 0, false, false, false, false, 0, 0, 0, 0, 0, 0, 0, 0⟩

/-- Whether a role and flags are such as its kind may have. -/
def roleB (k : Int) (pr : Bool) (ro : Int) (le fo ag ac : Bool) : Bool :=
  decide (0 ≤ ro ∧ ro ≤ 3) && (if k = 2 then !ac else !pr && decide (ro = 0) && !le && !fo && !ag)
def vecB (c : Nat) (p : Int) : Bool := decide (c < 4294967296 ∧ 0 ≤ p ∧ p ≤ 65535)
def timesB (a m h d : Int) : Bool := decide ((0 ≤ a ∧ a ≤ 255) ∧ (0 ≤ m ∧ m ≤ 255) ∧ (0 ≤ h ∧ h ≤ 255) ∧ 0 ≤ d ∧ d ≤ 255)

/-- Two lists of flags are the same; two that are told are the same. -/
def eqL (l m : List Bool) : Bool := decide (l = m)
def eqB (x y : Bp) : Bool := decide (x = y)

theorem eqB_self (x : Bp) : eqB x x = true := by simp [eqB]

/-- Whether it can be told. -/
def rightB (b : Bp) : Bool :=
  if b.k = 128 then eqB b changeB else if b.k = 0 ∨ b.k = 2 then roleB b.k b.pr b.ro b.le b.fo b.ag b.ac && vecB b.c b.p && timesB b.a b.m b.h b.d else false

def lowB (ro : Int) : Bool := decide (ro % 2 = 1)
def highB (ro : Int) : Bool := decide (ro % 4 / 2 = 1)

/-- A number of the first k of some bits. -/
def bitsN : List Bool → Nat → Nat
  | [], _ => 0
  | x :: l, p => (if x then p else 0) + bitsN l (2 * p)

theorem bitsN_snoc (l : List Bool) (x : Bool) (p : Nat) : bitsN (l ++ [x]) p = bitsN l p + (if x then 2 ^ l.length * p else 0) := by
  induction l generalizing p with
  | nil => simp [bitsN]
  | cons y l ih =>
    simp only [List.cons_append, bitsN, ih, List.length_cons, Nat.pow_succ]
    have : 2 ^ l.length * (2 * p) = 2 ^ l.length * 2 * p := by rw [Nat.mul_assoc]
    rw [this]
    omega

theorem bitsN_lt (l : List Bool) (p : Nat) : bitsN l p + p ≤ 2 ^ l.length * p := by
  induction l generalizing p with
  | nil => simp [bitsN]
  | cons y l ih =>
    have h := ih (2 * p)
    simp only [bitsN, List.length_cons, Nat.pow_succ]
    have : 2 ^ l.length * (2 * p) = 2 ^ l.length * 2 * p := by rw [Nat.mul_assoc]
    rw [← this]
    split <;> omega

/-- The flags. -/
def flagL (b : Bp) : List Bool := [b.ch, b.pr, lowB b.ro, highB b.ro, b.le, b.fo, b.ag, b.ac]
def flagN (b : Bp) : Nat := bitsN (flagL b) 1

theorem flagN_lt (b : Bp) : flagN b < 256 := by
  have := bitsN_lt (flagL b) 1
  simp only [flagL, List.length_cons, List.length_nil] at this
  unfold flagN
  simp only [flagL]
  omega

/-- A bit of a number. -/
def bitB (n i : Nat) : Bool := decide (n / 2 ^ i % 2 = 1)

def roleN (a b : Bool) : Nat := (if a then 1 else 0) + (if b then 2 else 0)

/-- A right one that is no change: its numbers. -/
theorem right_facts (b : Bp) (h : rightB b = true) (h' : b.k ≠ 128) : (b.k = 0 ∨ b.k = 2) ∧ (0 ≤ b.ro ∧ b.ro ≤ 3) ∧ b.c < 4294967296 ∧ (0 ≤ b.p ∧ b.p ≤ 65535) ∧ (0 ≤ b.a ∧ b.a ≤ 255) ∧ (0 ≤ b.m ∧ b.m ≤ 255) ∧ (0 ≤ b.h ∧ b.h ≤ 255) ∧ 0 ≤ b.d ∧ b.d ≤ 255 := by
  unfold rightB at h
  rw [if_neg h'] at h
  split at h
  · rename_i hk
    simp only [Bool.and_eq_true, roleB, vecB, timesB, decide_eq_true_eq] at h
    exact ⟨hk, h.1.1.1, h.1.2.1, h.1.2.2, h.2.1, h.2.2.1, h.2.2.2.1, h.2.2.2.2⟩
  · cases h

theorem right_change_eq (b : Bp) (h : rightB b = true) (h' : b.k = 128) : b = changeB := by
  unfold rightB at h
  rw [if_pos h'] at h
  simpa [eqB] using h

/-- Its bytes. -/
def wireL (b : Bp) : List UInt8 :=
  [0, 0, UInt8.ofNat (if b.k = 2 then 2 else 0), UInt8.ofNat b.k.toNat] ++ (if b.k = 128 then [] else
    [UInt8.ofNat (flagN b)] ++ putL b.r 8 ++ putL b.c 4 ++ putL b.g 8 ++ putL b.p.toNat 2 ++
    [UInt8.ofNat b.a.toNat, 0, UInt8.ofNat b.m.toNat, 0, UInt8.ofNat b.h.toNat, 0, UInt8.ofNat b.d.toNat, 0] ++ (if b.k = 2 then [0] else []))

def bErr (b : Bp) : Int := if rightB b then 0 else 1
def bTxt (b : Bp) : ByteArray := if rightB b then ofL (wireL b) else ⟨#[]⟩

/-- Numbers of four and of eight bytes. -/
def n4 (s : ByteArray) (a : Nat) : Nat := (getR s a 4).1
def n8 (s : ByteArray) (a : Nat) : Nat := (getR s a 8).1

/-- What is wrong with a text, and what it tells. -/
def rErr (s : ByteArray) : Int :=
  if s.size < 4 then 2 else if n2 s 0 ≠ 0 then 3 else if n1 s 3 = 128 then 0 else if ¬ (n1 s 3 = 0 ∨ n1 s 3 = 2 ∧ 2 ≤ n1 s 2) then 10
  else if s.size < (if n1 s 3 = 2 then 36 else 35) then 2 else if n1 s 29 ≤ n1 s 27 then 3 else 0
def fullB (s : ByteArray) : Bp :=
  if n1 s 3 = 2 then ⟨(n1 s 3 : Nat), bitB (n1 s 4) 0, bitB (n1 s 4) 1, roleN (bitB (n1 s 4) 2) (bitB (n1 s 4) 3), bitB (n1 s 4) 4, bitB (n1 s 4) 5, bitB (n1 s 4) 6, false, n8 s 5, n4 s 13, n8 s 17, (n2 s 25 : Nat), (n1 s 27 : Nat), (n1 s 29 : Nat), (n1 s 31 : Nat), (n1 s 33 : Nat)⟩
  else ⟨(n1 s 3 : Nat), bitB (n1 s 4) 0, false, 0, false, false, false, bitB (n1 s 4) 7, n8 s 5, n4 s 13, n8 s 17, (n2 s 25 : Nat), (n1 s 27 : Nat), (n1 s 29 : Nat), (n1 s 31 : Nat), (n1 s 33 : Nat)⟩
def rVal (s : ByteArray) : Bp := if rErr s ≠ 0 then zeroB else if n1 s 3 = 128 then changeB else fullB s

end Bpd
end Go.Proofs.Ytiokkahldhmhlaa
