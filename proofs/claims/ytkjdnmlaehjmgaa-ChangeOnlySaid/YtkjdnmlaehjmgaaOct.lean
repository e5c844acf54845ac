/-
  What the functions of package octet answer: Put, Get, Cut, Pad, Same, Hex, Unhex, each for every argument (texts up to a length that the theorem names), and that they change nothing that was there.
-/
import Derived.Test.YtkjdnmlaehjmgaaProg
import Derived.Test.YtkjdnmlaehjmgaaOctNum
import Derived.WalkKit
import Derived.WalkSpells
import Derived.WalkLawsBesides
import Derived.Lib.Hide
import Derived.RegionTactic
import Derived.Deep.RegionLaw
import Derived.Deep.QuietTactic
import Derived.BigQuiet
namespace Go.Proofs.Ytkjdnmlaehjmgaa
open Go.RowKit
namespace Oct
theorem info5 : (Try.prog.info? 5).map (fun i => (i.zero, i.size, i.bytes)) = some (some (.int .u8 0), 1, 1) := by kernel_rfl

/-- Bytes as cells. -/
def bv (l : List UInt8) : List Value := l.map fun b => .int .u8 (b.toNat : Int)

theorem made_zeros (k : Nat) : (madeCells #[Value.int .u8 0] k).toList = bv (List.replicate k 0) := by
  apply List.ext_getElem
  · simp [madeCells, bv]
  · intro i h1 h2
    simp [madeCells, bv, Nat.mod_one]

theorem bv_length (l : List UInt8) : (bv l).length = l.length := by simp [bv]

theorem put_round (m j : Nat) (T : List UInt8) : bv ((List.replicate (j + 1) 0 ++ T).set j (UInt8.ofNat m)) = (bv (List.replicate (j + 1) 0 ++ T)).set j (.int .u8 ((m : Int) % 256)) := by
  unfold bv
  rw [List.map_set]
  congr 2

theorem put_set (j : Nat) (T : List UInt8) (b : UInt8) : (List.replicate (j + 1) 0 ++ T).set j b = List.replicate j 0 ++ b :: T := by
  rw [List.replicate_succ', List.append_assoc, List.set_append_right _ _ (by simp)]
  simp

theorem or_low (m b : Nat) (hm : m < 72057594037927936) (hb : b < 256) : bits .or .u64 ((m : Int) * 256) (b : Int) = ((m * 256 + b : Nat) : Int) := by
  rw [show ((m : Int) * 256) = ((m * 256 : Nat) : Int) by omega, u64_or_nat _ _ (by omega) (by omega)]
  have : m * 256 ||| b = m * 256 + b := by
    rw [show m * 256 = 2 ^ 8 * m by omega, Nat.two_pow_add_eq_or_of_lt (by omega)]
  rw [this]

theorem get_step (p : ByteArray) (k : Nat) (h : k < p.size) : getL 0 (p.data.toList.take (k + 1)) = getL 0 (p.data.toList.take k) * 256 + p[k].toNat := by
  rw [take_snoc p k h, getL_snoc]

theorem same_byte (m a b : Nat) (hm : m < 256) (ha : a < 256) (hb : b < 256) :
    ∃ x : Nat, x < 256 ∧ bits .or .u8 (m : Int) (bits .xor .u8 (a : Int) (b : Int)) = (x : Int) ∧ (x = 0 ↔ m = 0 ∧ a = b) := by
  refine ⟨m ||| (a ^^^ b), Nat.or_lt_two_pow (n := 8) (by omega) (Nat.xor_lt_two_pow (n := 8) (by omega) (by omega)), ?_, ?_⟩
  · rw [u8_xor_nat a b ha hb, u8_or_nat m _ hm (Nat.xor_lt_two_pow (n := 8) (by omega) (by omega))]
  · rw [Nat.or_eq_zero_iff]
    constructor
    · rintro ⟨h0, h1⟩
      refine ⟨h0, ?_⟩
      have : (a ^^^ b) ^^^ b = b := by rw [h1, Nat.zero_xor]
      rwa [Nat.xor_assoc, Nat.xor_self, Nat.xor_zero] at this
    · rintro ⟨h0, rfl⟩
      exact ⟨h0, Nat.xor_self a⟩

theorem same_step (s t : ByteArray) (k : Nat) (h : k < s.size) (h' : k < t.size) : s.data.toList.take (k + 1) = t.data.toList.take (k + 1) ↔ s.data.toList.take k = t.data.toList.take k ∧ s[k].toNat = t[k].toNat := by
  have hs : k < s.data.toList.length := by simpa using h
  have ht : k < t.data.toList.length := by simpa using h'
  rw [take_snoc s k h, take_snoc t k h']
  constructor
  · intro e
    have := List.append_inj e (by simp; omega)
    simp at this
    exact ⟨this.1, by rw [this.2]⟩
  · rintro ⟨e1, e2⟩
    rw [e1, UInt8.toNat_inj.1 e2]

/-- Two values appended to a row of the call's own with room, in a region that draws its order. -/
theorem step_append_two {P : Program} {ops : Array Oper} {o : Oper} {a : Act} {w : World} {K : Act → World → Prop} {Q : Exit → Act → World → Prop} {E : Prop} {X Y : Value}
    (hg : o.guard = none) (s x : Operand) (t : TypeId) (hop : o.op = Op.call { callee := Callee.builtin Builtin.append, args := #[s, x], argTypes := #[t, t] })
    (base : Nat) (e : TypeId) (i : TypeInfo) (h1 : P.underlying t = some (.slice e)) (h2 : P.info? e = some i) (h4 : i.size = 1)
    (g k cap : Nat) (xs : List Value) (hs : a.eval s = .slice (some ⟨g, 0, none⟩) k cap) (hown : w.ownsRow base e 1 (.slice (some ⟨g, 0, none⟩) k cap) k xs)
    (hx : a.eval x = .slice (some ⟨w.heap.size, 0, none⟩) 2 2) (hX : X.oneCell' = true) (hY : Y.oneCell' = true) (b1 : k + 2 ≤ cap)
    (hK : ∀ w', w'.ownsRow base e 1 (.slice (some ⟨g, 0, none⟩) (k + 2) cap) (k + 2) (xs ++ [X, Y]) → (w.alloc (.cells #[X, Y] e)).drew.grownBy w' (some g) → K (a.put o.dst (.slice (some ⟨g, 0, none⟩) (k + 2) cap)) w') :
    if Region.wanted o (yielded ops a.tmps) = true then Oper.wp P o a (w.alloc (.cells #[X, Y] e)).drew K Q else E := by
  have hw : Region.wanted o (yielded ops a.tmps) = true := by simp [Region.wanted, hg]
  rw [if_pos hw]
  obtain ⟨w', hrun, r1, r2⟩ := run_append_fits (P := P) (w.alloc (.cells #[X, Y] e)).drew base t o.type e i 1 h1 h2 h4 g k cap xs ((hown.alloc _).drew) ⟨w.heap.size, 0, none⟩ 2 2 [X, Y] rfl
    (by
      intro j u hj
      match j, hj with
      | 0, hj => simp at hj; subst hj; simp [Addr.add]
      | 1, hj => simp at hj; subst hj; simp [Addr.add])
    (by
      intro u hu
      simp at hu
      rcases hu with rfl | rfl <;> assumption) b1
  unfold Oper.wp
  simp [execOp, hop, resolve, invoke, builtin, hs, hx, hrun, Result.andThen]
  exact hK w' r1 r2

theorem dig_get (n : Nat) (h : n < (⟨#[48, 49, 50, 51, 52, 53, 54, 55, 56, 57, 97, 98, 99, 100, 101, 102]⟩ : ByteArray).size) : (⟨#[48, 49, 50, 51, 52, 53, 54, 55, 56, 57, 97, 98, 99, 100, 101, 102]⟩ : ByteArray)[n]'h = hexD n := by
  have h' : ∀ n : Fin 16, (⟨#[48, 49, 50, 51, 52, 53, 54, 55, 56, 57, 97, 98, 99, 100, 101, 102]⟩ : ByteArray)[n.1]'(by have := n.2; exact this) = hexD n.1 := by decide
  exact h' ⟨n, h⟩

theorem hex_step (s : ByteArray) (k : Nat) (h : k < s.size) : bv (hexL (s.data.toList.take k)) ++
    [.int .u8 ((hexD ((s[k].toNat : Int) / 16).toNat).toNat : Int), .int .u8 ((hexD ((s[k].toNat : Int) % 16).toNat).toNat : Int)] = bv (hexL (s.data.toList.take (k + 1))) := by
  rw [take_snoc s k h, hexL_append]
  simp only [bv, hexL, List.map_append, List.map_cons, List.map_nil]
  rw [show ((s[k].toNat : Int) / 16).toNat = s[k].toNat / 16 by omega, show ((s[k].toNat : Int) % 16).toNat = s[k].toNat % 16 by omega]

end Oct
end Go.Proofs.Ytkjdnmlaehjmgaa
