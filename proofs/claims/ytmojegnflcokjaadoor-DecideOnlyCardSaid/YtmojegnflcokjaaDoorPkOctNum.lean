/-
  Packed in one text: OctNum, Oct, Oct2, OctRef, MacNum, MacA.
-/
import Derived.Test.YtmojegnflcokjaaDoorProg
import Derived.WalkKit
import Derived.WalkSpells
import Derived.WalkLawsBesides
import Derived.Lib.Hide
import Derived.RegionTactic
import Derived.Deep.RegionLaw
import Derived.Deep.QuietTactic
import Derived.BigQuiet
import Derived.Test.YtmojegnflcokjaaDoorShelf
import Derived.Deep.LoopGhost
import Derived.Lib.MinMax
import Derived.Lib.Replace
import Derived.Lib.Join
import GoSem.Op.String
import Derived.Laws.BitsAllLaws
/-
  Plain facts on numbers in texts of bytes (no program): the lowest bytes of a number put, highest first, and got again.
-/
namespace Go.Proofs.YtmojegnflcokjaaDoor
namespace Oct

/-- The lowest k bytes of n, the highest first. -/
def putL (n : Nat) : Nat → List UInt8
  | 0 => []
  | k + 1 => putL (n / 256) k ++ [UInt8.ofNat n]

/-- The number of a list of bytes, the highest first, going on from n. -/
def getL (n : Nat) (l : List UInt8) : Nat := l.foldl (fun n b => n * 256 + b.toNat) n

theorem putL_length (n k : Nat) : (putL n k).length = k := by
  induction k generalizing n with
  | zero => rfl
  | succ k ih => simp [putL, ih]

theorem getL_append (n : Nat) (l m : List UInt8) : getL n (l ++ m) = getL (getL n l) m := by
  simp [getL, List.foldl_append]

theorem getL_snoc (n : Nat) (l : List UInt8) (b : UInt8) : getL n (l ++ [b]) = getL n l * 256 + b.toNat := by
  simp [getL]

theorem getL_putL (n k : Nat) : getL 0 (putL n k) = n % 256 ^ k := by
  induction k generalizing n with
  | zero => simp [putL, getL, Nat.mod_one]
  | succ k ih =>
    rw [putL, getL_snoc, ih, Nat.pow_succ, Nat.mul_comm (256 ^ k) 256, Nat.mod_mul]
    simp
    omega

theorem getL_lt (l : List UInt8) : getL 0 l < 256 ^ l.length := by
  suffices h : ∀ r : List UInt8, getL 0 r.reverse < 256 ^ r.length by
    have := h l.reverse
    simpa using this
  intro r
  induction r with
  | nil => simp [getL]
  | cons b r ih =>
    rw [List.reverse_cons, getL_snoc, List.length_cons, Nat.pow_succ]
    have := b.toNat_lt
    have h2 : getL 0 r.reverse + 1 ≤ 256 ^ r.length := ih
    have h3 := Nat.mul_le_mul_right 256 h2
    omega

/-- How many bytes Put gives at a width. -/
def clampW (width : Int) : Nat := (min (max width 0) 8).toNat

theorem clampW_le (width : Int) : clampW width ≤ 8 := by unfold clampW; omega

/-- Cut's error, and its text. -/
def cutE (size a n : Int) : Int := if a < 0 ∨ size < a ∨ n < 0 then 1 else if size - a < n then 2 else 0
def cutS (s : ByteArray) (a n : Int) : ByteArray := if cutE s.size a n = 0 then s.extract a.toNat (a + n).toNat else ByteArray.empty

theorem cutE_zero {size a n : Int} : cutE size a n = 0 ↔ 0 ≤ a ∧ a ≤ size ∧ 0 ≤ n ∧ n ≤ size - a := by
  unfold cutE
  split <;> (try split) <;> omega

theorem cutE_cases (size a n : Int) : cutE size a n = 0 ∨ cutE size a n = 1 ∨ cutE size a n = 2 := by
  unfold cutE
  split <;> (try split) <;> simp

theorem cutS_size (s : ByteArray) (a n : Int) (h : cutE s.size a n = 0) : ((cutS s a n).size : Int) = n := by
  have h' := cutE_zero.1 h
  simp only [cutS, h, if_true, ByteArray.size_extract]
  omega

theorem cutS_none (s : ByteArray) (a n : Int) (h : cutE s.size a n ≠ 0) : cutS s a n = ByteArray.empty := by
  simp [cutS, h]

/-- Get's answer. -/
def getR (s : ByteArray) (a width : Int) : Nat × Int := if width < 1 ∨ 8 < width then (0, 1) else if cutE s.size a width ≠ 0 then (0, cutE s.size a width) else (getL 0 (cutS s a width).data.toList, 0)

theorem take_snoc (p : ByteArray) (k : Nat) (h : k < p.size) : p.data.toList.take (k + 1) = p.data.toList.take k ++ [p[k]] := by
  rw [List.take_succ_eq_append_getElem (by simpa using h)]; rfl

theorem getL_take_lt (p : ByteArray) (k : Nat) (hk : k ≤ 7) : getL 0 (p.data.toList.take k) < 72057594037927936 := by
  refine Nat.lt_of_lt_of_le (getL_lt _) ?_
  have : 256 ^ (p.data.toList.take k).length ≤ 256 ^ 7 := Nat.pow_le_pow_right (by omega) (by simp; omega)
  omega

/-- A number below 16 as a digit. -/
def hexD (n : Nat) : UInt8 := if n < 10 then UInt8.ofNat (48 + n) else UInt8.ofNat (87 + n)

/-- Two digits of each byte. -/
def hexL : List UInt8 → List UInt8
  | [] => []
  | b :: l => hexD (b.toNat / 16) :: hexD (b.toNat % 16) :: hexL l

theorem hexL_append (l m : List UInt8) : hexL (l ++ m) = hexL l ++ hexL m := by
  induction l with
  | nil => rfl
  | cons b l ih => simp [hexL, ih]

theorem hexL_length (l : List UInt8) : (hexL l).length = 2 * l.length := by
  induction l with
  | nil => rfl
  | cons b l ih => simp [hexL, ih]; omega

/-- What a digit is; -1: it is none. -/
def unD (c : UInt8) : Int := if 48 ≤ c.toNat ∧ c.toNat ≤ 57 then c.toNat - 48 else if 97 ≤ c.toNat ∧ c.toNat ≤ 102 then c.toNat - 87 else -1

theorem unD_range (c : UInt8) : -1 ≤ unD c ∧ unD c ≤ 15 := by
  unfold unD
  split
  · omega
  · split <;> omega

/-- The bytes whose digits these are. -/
def unhexL : List UInt8 → Option (List UInt8)
  | [] => some []
  | [_] => none
  | a :: b :: l => if unD a < 0 ∨ unD b < 0 then none else (unhexL l).map fun x => UInt8.ofNat (16 * (unD a).toNat + (unD b).toNat) :: x

theorem unhexL_append : ∀ (l m : List UInt8), l.length % 2 = 0 → unhexL (l ++ m) = (unhexL l).bind fun x => (unhexL m).map fun y => x ++ y
  | [], m, _ => by simp [unhexL]
  | [_], _, h => by simp at h
  | a :: b :: l, m, h => by
    have ih := unhexL_append l m (by simp at h; omega)
    simp only [List.cons_append, unhexL]
    split
    · rfl
    · rw [ih]
      cases unhexL l <;> cases unhexL m <;> simp

theorem unhexL_length : ∀ (l x : List UInt8), unhexL l = some x → 2 * x.length = l.length
  | [], x, h => by simp [unhexL] at h; subst h; rfl
  | [_], x, h => by simp [unhexL] at h
  | a :: b :: l, x, h => by
    simp only [unhexL] at h
    split at h
    · cases h
    · cases hl : unhexL l with
      | none => rw [hl] at h; cases h
      | some y =>
        rw [hl] at h
        simp at h
        subst h
        have := unhexL_length l y hl
        simp
        omega

theorem unD_hexD (n : Nat) (h : n < 16) : unD (hexD n) = n := by
  have h' : ∀ n : Fin 16, unD (hexD n.1) = n.1 := by decide
  exact h' ⟨n, h⟩

theorem unhexL_hexL : ∀ l : List UInt8, unhexL (hexL l) = some l
  | [] => rfl
  | b :: l => by
    have hb := b.toNat_lt
    simp only [hexL, unhexL]
    rw [unD_hexD _ (by omega), unD_hexD _ (by omega), if_neg (by omega), unhexL_hexL l]
    simp only [Option.map_some, Option.some.injEq, List.cons.injEq, and_true]
    apply UInt8.toNat_inj.1
    simp
    omega

theorem hexD_unD (c : UInt8) (h : 0 ≤ unD c) : hexD (unD c).toNat = c := by
  have h' : ∀ n : Fin 256, 0 ≤ unD (UInt8.ofNat n.1) → hexD (unD (UInt8.ofNat n.1)).toNat = UInt8.ofNat n.1 := by decide +kernel
  have := h' ⟨c.toNat, c.toNat_lt⟩
  simp only [UInt8.ofNat_toNat] at this
  exact this h

theorem hexL_unhexL : ∀ l x : List UInt8, unhexL l = some x → hexL x = l
  | [], x, h => by simp [unhexL] at h; subst h; rfl
  | [_], x, h => by simp [unhexL] at h
  | a :: b :: l, x, h => by
    simp only [unhexL] at h
    split at h
    · cases h
    · rename_i hab
      cases hl : unhexL l with
      | none => rw [hl] at h; cases h
      | some y =>
        rw [hl] at h
        simp only [Option.map_some, Option.some.injEq] at h
        subst h
        have ih := hexL_unhexL l y hl
        have ha := unD_range a
        have hb := unD_range b
        simp only [hexL, ih, List.cons.injEq, and_true]
        have e : (UInt8.ofNat (16 * (unD a).toNat + (unD b).toNat)).toNat = 16 * (unD a).toNat + (unD b).toNat := by simp; omega
        rw [e, show (16 * (unD a).toNat + (unD b).toNat) / 16 = (unD a).toNat by omega, show (16 * (unD a).toNat + (unD b).toNat) % 16 = (unD b).toNat by omega]
        exact ⟨hexD_unD a (by omega), hexD_unD b (by omega)⟩

end Oct
end Go.Proofs.YtmojegnflcokjaaDoor

/-
  What the functions of package octet answer: Put, Get, Cut, Pad, Same, Hex, Unhex, each for every argument (texts up to a length that the theorem names), and that they change nothing that was there.
-/
namespace Go.Proofs.YtmojegnflcokjaaDoor
open Go.RowKit
namespace Oct
theorem info5 : (Tryd.prog.info? 5).map (fun i => (i.zero, i.size, i.bytes)) = some (some (.int .u8 0), 1, 1) := by kernel_rfl

/-- Bytes as cells. -/
def bv (l : List UInt8) : List Value := l.map fun b => .int .u8 (b.toNat : Int)

theorem made_zeros (k : Nat) : (madeCells #[Value.int .u8 0] k).toList = bv (List.replicate k 0) := by
  apply List.ext_getElem
  · simp [madeCells, bv]
  · intro i h1 h2
    simp [madeCells, bv, Nat.mod_one]

theorem bv_length (l : List UInt8) : (bv l).length = l.length := by simp [bv]

theorem put_round (m j : Nat) (T : List UInt8) : bv ((List.replicate (j + 1) 0 ++ T).set j (UInt8.ofNat m)) = (bv (List.replicate (j + 1) 0 ++ T)).set j (.int .u8 ((m : Int) % 256)) := by
  unfold bv
  rw [List.map_set]
  congr 2

theorem put_set (j : Nat) (T : List UInt8) (b : UInt8) : (List.replicate (j + 1) 0 ++ T).set j b = List.replicate j 0 ++ b :: T := by
  rw [List.replicate_succ', List.append_assoc, List.set_append_right _ _ (by simp)]
  simp

theorem or_low (m b : Nat) (hm : m < 72057594037927936) (hb : b < 256) : bits .or .u64 ((m : Int) * 256) (b : Int) = ((m * 256 + b : Nat) : Int) := by
  rw [show ((m : Int) * 256) = ((m * 256 : Nat) : Int) by omega, u64_or_nat _ _ (by omega) (by omega)]
  have : m * 256 ||| b = m * 256 + b := by
    rw [show m * 256 = 2 ^ 8 * m by omega, Nat.two_pow_add_eq_or_of_lt (by omega)]
  rw [this]

theorem get_step (p : ByteArray) (k : Nat) (h : k < p.size) : getL 0 (p.data.toList.take (k + 1)) = getL 0 (p.data.toList.take k) * 256 + p[k].toNat := by
  rw [take_snoc p k h, getL_snoc]

theorem same_byte (m a b : Nat) (hm : m < 256) (ha : a < 256) (hb : b < 256) :
    ∃ x : Nat, x < 256 ∧ bits .or .u8 (m : Int) (bits .xor .u8 (a : Int) (b : Int)) = (x : Int) ∧ (x = 0 ↔ m = 0 ∧ a = b) := by
  refine ⟨m ||| (a ^^^ b), Nat.or_lt_two_pow (n := 8) (by omega) (Nat.xor_lt_two_pow (n := 8) (by omega) (by omega)), ?_, ?_⟩
  · rw [u8_xor_nat a b ha hb, u8_or_nat m _ hm (Nat.xor_lt_two_pow (n := 8) (by omega) (by omega))]
  · rw [Nat.or_eq_zero_iff]
    constructor
    · rintro ⟨h0, h1⟩
      refine ⟨h0, ?_⟩
      have : (a ^^^ b) ^^^ b = b := by rw [h1, Nat.zero_xor]
      rwa [Nat.xor_assoc, Nat.xor_self, Nat.xor_zero] at this
    · rintro ⟨h0, rfl⟩
      exact ⟨h0, Nat.xor_self a⟩

theorem same_step (s t : ByteArray) (k : Nat) (h : k < s.size) (h' : k < t.size) : s.data.toList.take (k + 1) = t.data.toList.take (k + 1) ↔ s.data.toList.take k = t.data.toList.take k ∧ s[k].toNat = t[k].toNat := by
  have hs : k < s.data.toList.length := by simpa using h
  have ht : k < t.data.toList.length := by simpa using h'
  rw [take_snoc s k h, take_snoc t k h']
  constructor
  · intro e
    have := List.append_inj e (by simp; omega)
    simp at this
    exact ⟨this.1, by rw [this.2]⟩
  · rintro ⟨e1, e2⟩
    rw [e1, UInt8.toNat_inj.1 e2]

/-- Two values appended to a row of the call's own with room, in a region that draws its order. -/
theorem step_append_two {P : Program} {ops : Array Oper} {o : Oper} {a : Act} {w : World} {K : Act → World → Prop} {Q : Exit → Act → World → Prop} {E : Prop} {X Y : Value}
    (hg : o.guard = none) (s x : Operand) (t : TypeId) (hop : o.op = Op.call { callee := Callee.builtin Builtin.append, args := #[s, x], argTypes := #[t, t] })
    (base : Nat) (e : TypeId) (i : TypeInfo) (h1 : P.underlying t = some (.slice e)) (h2 : P.info? e = some i) (h4 : i.size = 1)
    (g k cap : Nat) (xs : List Value) (hs : a.eval s = .slice (some ⟨g, 0, none⟩) k cap) (hown : w.ownsRow base e 1 (.slice (some ⟨g, 0, none⟩) k cap) k xs)
    (hx : a.eval x = .slice (some ⟨w.heap.size, 0, none⟩) 2 2) (hX : X.oneCell' = true) (hY : Y.oneCell' = true) (b1 : k + 2 ≤ cap)
    (hK : ∀ w', w'.ownsRow base e 1 (.slice (some ⟨g, 0, none⟩) (k + 2) cap) (k + 2) (xs ++ [X, Y]) → (w.alloc (.cells #[X, Y] e)).drew.grownBy w' (some g) → K (a.put o.dst (.slice (some ⟨g, 0, none⟩) (k + 2) cap)) w') :
    if Region.wanted o (yielded ops a.tmps) = true then Oper.wp P o a (w.alloc (.cells #[X, Y] e)).drew K Q else E := by
  have hw : Region.wanted o (yielded ops a.tmps) = true := by simp [Region.wanted, hg]
  rw [if_pos hw]
  obtain ⟨w', hrun, r1, r2⟩ := run_append_fits (P := P) (w.alloc (.cells #[X, Y] e)).drew base t o.type e i 1 h1 h2 h4 g k cap xs ((hown.alloc _).drew) ⟨w.heap.size, 0, none⟩ 2 2 [X, Y] rfl
    (by
      intro j u hj
      match j, hj with
      | 0, hj => simp at hj; subst hj; simp [Addr.add]
      | 1, hj => simp at hj; subst hj; simp [Addr.add])
    (by
      intro u hu
      simp at hu
      rcases hu with rfl | rfl <;> assumption) b1
  unfold Oper.wp
  simp [execOp, hop, resolve, invoke, builtin, hs, hx, hrun, Result.andThen]
  exact hK w' r1 r2

theorem dig_get (n : Nat) (h : n < (⟨#[48, 49, 50, 51, 52, 53, 54, 55, 56, 57, 97, 98, 99, 100, 101, 102]⟩ : ByteArray).size) : (⟨#[48, 49, 50, 51, 52, 53, 54, 55, 56, 57, 97, 98, 99, 100, 101, 102]⟩ : ByteArray)[n]'h = hexD n := by
  have h' : ∀ n : Fin 16, (⟨#[48, 49, 50, 51, 52, 53, 54, 55, 56, 57, 97, 98, 99, 100, 101, 102]⟩ : ByteArray)[n.1]'(by have := n.2; exact this) = hexD n.1 := by decide
  exact h' ⟨n, h⟩

theorem hex_step (s : ByteArray) (k : Nat) (h : k < s.size) : bv (hexL (s.data.toList.take k)) ++
    [.int .u8 ((hexD ((s[k].toNat : Int) / 16).toNat).toNat : Int), .int .u8 ((hexD ((s[k].toNat : Int) % 16).toNat).toNat : Int)] = bv (hexL (s.data.toList.take (k + 1))) := by
  rw [take_snoc s k h, hexL_append]
  simp only [bv, hexL, List.map_append, List.map_cons, List.map_nil]
  rw [show ((s[k].toNat : Int) / 16).toNat = s[k].toNat / 16 by omega, show ((s[k].toNat : Int) % 16).toNat = s[k].toNat % 16 by omega]

end Oct
end Go.Proofs.YtmojegnflcokjaaDoor

/-
  What octet.Pad and octet.Unhex answer, for every argument (texts up to a length that the theorem names), and that they change nothing that was there.
-/
namespace Go.Proofs.YtmojegnflcokjaaDoor
open Go.RowKit
namespace Oct

/-- A text with bytes 0 behind it. -/
def padS (s : ByteArray) (n : Int) : ByteArray := s ++ ⟨(List.replicate (min n 9216 - s.size).toNat 0).toArray⟩

theorem padS_none (s : ByteArray) (n : Int) (h : min n 9216 ≤ s.size) : padS s n = s := by
  unfold padS
  rw [show (min n 9216 - s.size).toNat = 0 by omega]
  apply ByteArray.ext
  simp

/-- Unhex's answer. -/
def unhexS (s : ByteArray) : ByteArray := ⟨((unhexL s.data.toList).getD []).toArray⟩
def unhexE (s : ByteArray) : Int := if s.size % 2 ≠ 0 then 2 else if unhexL s.data.toList = none then 3 else 0

theorem bytes_at (s : ByteArray) (a cap j : Nat) (hj : j < 2) (h : a + 2 ≤ s.size) : (bytesRow (s.extract a (a + 2)) cap)[j]? = some (.int .u8 ((s[a + j]'(by omega)).toNat : Int)) := by
  have hz : (s.extract a (a + 2)).data.size = 2 := by
    have : (s.extract a (a + 2)).size = 2 := by simp; omega
    exact this
  unfold bytesRow
  rw [Array.getElem?_append_left (by simp; omega), Array.getElem?_map]
  have e : (s.extract a (a + 2)).data[j]? = some (s[a + j]'(by omega)) := by
    rw [ByteArray.data_extract, Array.getElem?_extract]
    rw [if_pos (by have : s.data.size = s.size := rfl; omega)]
    exact Array.getElem?_eq_getElem (by have : s.data.size = s.size := rfl; omega)
  rw [e]
  rfl

theorem unhex_bad (s : ByteArray) (n : Nat) (hn : s.size = 2 * n) (h : unhexL s.data.toList = none) : unhexS s = ByteArray.empty ∧ unhexE s = 3 := by
  refine ⟨by unfold unhexS; rw [h]; rfl, ?_⟩
  unfold unhexE
  rw [if_neg (by omega), if_pos h]

theorem unhex_good (s : ByteArray) (n : Nat) (hn : s.size = 2 * n) (v : List UInt8) (h : unhexL s.data.toList = some v) : unhexS s = ⟨v.toArray⟩ ∧ unhexE s = 0 := by
  refine ⟨by unfold unhexS; rw [h]; rfl, ?_⟩
  unfold unhexE
  rw [if_neg (by omega), if_neg (by rw [h]; simp)]

theorem or_first (d : Int) (h0 : 0 ≤ d) (h1 : d ≤ 15) : bits .or .u8 0 d = d := by
  have := u8_or 0 d (by omega) (by omega) h0 (by omega)
  rw [this]; simp; omega

theorem or_second (c d : Int) (g0 : 0 ≤ c) (g1 : c ≤ 15) (h0 : 0 ≤ d) (h1 : d ≤ 15) : bits .or .u8 (c * 16) d = c * 16 + d := by
  rw [u8_or _ d (by omega) (by omega) h0 (by omega)]
  have : (c * 16).toNat ||| d.toNat = 16 * c.toNat + d.toNat := by
    rw [show (c * 16).toNat = 2 ^ 4 * c.toNat by omega, ← Nat.two_pow_add_eq_or_of_lt (by omega)]
  rw [this]; omega

theorem unhex_cells (v : List UInt8) (k g : Nat) (hv : v.length = k) (X : Value) (c d : Int) (g0 : 0 ≤ c) (g1 : c ≤ 15) (h0 : 0 ≤ d) (h1 : d ≤ 15) :
    ((bv (v ++ List.replicate (g + 1) 0)).set k X).set k (.int .u8 (c * 16 + d)) = bv ((v ++ [UInt8.ofNat (16 * c.toNat + d.toNat)]) ++ List.replicate g 0) := by
  rw [List.set_set]
  have e : (.int .u8 (c * 16 + d) : Value) = .int .u8 ((UInt8.ofNat (16 * c.toNat + d.toNat)).toNat : Int) := by
    congr 1
    simp
    omega
  rw [e]
  unfold bv
  rw [← List.map_set (f := fun b : UInt8 => Value.int .u8 (b.toNat : Int)), List.set_append_right _ _ (by omega), hv, Nat.sub_self, List.replicate_succ]
  simp

theorem own_lt {w : World} {base g n cap : Nat} {xs : List Value} {e : TypeId} (h : w.ownsRow base e 1 (.slice (some ⟨g, 0, none⟩) n cap) n xs) : g < w.heap.size := by
  rcases h.2 with ⟨h', _⟩ | ⟨g', cap', cur, h', _, hg, _⟩
  · simp at h'
  · simp only [Value.slice.injEq, Option.some.injEq, Addr.mk.injEq, and_true, true_and] at h'
    obtain ⟨rfl, rfl⟩ := h'
    exact (Array.getElem?_eq_some_iff.1 hg).1

theorem unhex_none (l : List UInt8) (k : Nat) (a b : UInt8) (r v : List UInt8) (h : l.drop (2 * k) = a :: b :: r) (hv : unhexL (l.take (2 * k)) = some v) (hab : unD a < 0 ∨ unD b < 0) : unhexL l = none := by
  have hl : 2 * k ≤ l.length := by
    have := congrArg List.length h
    simp at this; omega
  have e := unhexL_append (l.take (2 * k)) (l.drop (2 * k)) (by simp; omega)
  rw [List.take_append_drop, hv, h] at e
  rw [e]
  simp [unhexL, hab]

theorem drop_two (s : ByteArray) (k : Nat) (h : 2 * k + 2 ≤ s.size) : s.data.toList.drop (2 * k) = s[2 * k] :: s[2 * k + 1] :: s.data.toList.drop (2 * k + 2) := by
  rw [List.drop_eq_getElem_cons (by simp; omega), List.drop_eq_getElem_cons (by simp; omega)]
  rfl

theorem unhex_next (s : ByteArray) (k : Nat) (h : 2 * k + 2 ≤ s.size) (v : List UInt8) (hv : unhexL (s.data.toList.take (2 * k)) = some v) (h1 : ¬ unD s[2 * k] < 0) (h2 : ¬ unD s[2 * k + 1] < 0) :
    unhexL (s.data.toList.take (2 * (k + 1))) = some (v ++ [UInt8.ofNat (16 * (unD s[2 * k]).toNat + (unD s[2 * k + 1]).toNat)]) := by
  have e0 : s.data.toList.take (2 * (k + 1)) = s.data.toList.take (2 * k) ++ [s[2 * k], s[2 * k + 1]] := by
    rw [show 2 * (k + 1) = 2 * k + 1 + 1 by omega, take_snoc s (2 * k + 1) (by omega), take_snoc s (2 * k) (by omega), List.append_assoc]; rfl
  rw [e0, unhexL_append _ _ (by simp; omega), hv]
  simp [unhexL, h1, h2]

theorem unhexL_odd (l : List UInt8) (h : l.length % 2 ≠ 0) : unhexL l = none := by
  cases hl : unhexL l with
  | none => rfl
  | some x => have := unhexL_length l x hl; omega

end Oct
end Go.Proofs.YtmojegnflcokjaaDoor

/-
  What the document's own answers for layer 1 (package tipstaffref01) answer: the same as octet's functions, for every argument (texts up to a length that the theorem names).
-/
namespace Go.Proofs.YtmojegnflcokjaaDoor
open Go.RowKit
namespace Oct

theorem cut_take (s : ByteArray) (a n k : Nat) (h : k < n) (h' : a + n ≤ s.size) : (s.extract a (a + n)).data.toList.take (k + 1) = (s.extract a (a + n)).data.toList.take k ++ [s[a + k]] := by
  have hz : k < (s.extract a (a + n)).size := by simp; omega
  rw [take_snoc _ k hz]
  congr 2
  exact ByteArray.getElem_extract ..

theorem runhex_cells (x : List UInt8) (a b : UInt8) (g0 : 0 ≤ unD a) (g1 : unD a ≤ 15) (h0 : 0 ≤ unD b) (h1 : unD b ≤ 15) :
    bv x ++ [Value.int .u8 (16 * unD a + unD b)] = bv (x ++ [UInt8.ofNat (16 * (unD a).toNat + (unD b).toNat)]) := by
  simp only [bv, List.map_append, List.map_cons, List.map_nil]
  congr 3
  simp
  omega

end Oct
end Go.Proofs.YtmojegnflcokjaaDoor

/-
  Plain facts on the texts of addresses (no program): two digits of each byte with a colon between; what is written so is read, nothing else is, and texts stand in the order of their numbers.
-/
namespace Go.Proofs.YtmojegnflcokjaaDoor
namespace Mac
open Oct

/-- Two digits of each byte, a colon between. -/
def txt : List UInt8 → List UInt8
  | [] => []
  | [b] => hexL [b]
  | b :: c :: l => hexL [b] ++ 58 :: txt (c :: l)

theorem txt_join : ∀ x : List UInt8, Lib.join (x.map fun b => hexL [b]) [58] = txt x
  | [] => rfl
  | [b] => by simp [Lib.join_one, txt]
  | b :: c :: l => by
    have ih := txt_join (c :: l)
    rw [List.map_cons, Lib.join_cons] at ih
    rw [List.map_cons, Lib.join_cons, txt, ← ih]
    simp [Lib.joinTail]

theorem txt_length6 (x : List UInt8) (h : x.length = 6) : (txt x).length = 17 := by
  match x, h with
  | [a, b, c, d, e, f], _ => simp [txt, hexL]

theorem hexD_ne (n : Nat) (h : n < 16) : hexD n ≠ 58 := by
  have h' : ∀ n : Fin 16, hexD n.1 ≠ 58 := by decide
  exact h' ⟨n, h⟩

theorem hexL_ne (x : List UInt8) : ∀ c ∈ hexL x, c ≠ 58 := by
  induction x with
  | nil => simp [hexL]
  | cons b l ih =>
    have := b.toNat_lt
    intro c hc
    simp only [hexL, List.mem_cons] at hc
    rcases hc with rfl | rfl | hc
    · exact hexD_ne _ (by omega)
    · exact hexD_ne _ (by omega)
    · exact ih c hc

theorem txt_filter : ∀ x : List UInt8, (txt x).filter (· != 58) = hexL x
  | [] => rfl
  | [b] => by
    rw [txt, List.filter_eq_self]
    intro c hc
    simpa using hexL_ne _ c hc
  | b :: c :: l => by
    rw [txt, List.filter_append, List.filter_cons, txt_filter (c :: l)]
    have : (hexL [b]).filter (· != 58) = hexL [b] := by
      rw [List.filter_eq_self]
      intro c hc
      simpa using hexL_ne _ c hc
    rw [this]
    simp [hexL]

theorem txt_unhex (x : List UInt8) : unhexL ((txt x).filter (· != 58)) = some x := by
  rw [txt_filter, unhexL_hexL]

theorem txt_inj (x y : List UInt8) (h : txt x = txt y) : x = y := by
  have h1 := txt_unhex x
  rw [h, txt_unhex y] at h1
  exact (Option.some.inj h1).symm

theorem putL_getL (x : List UInt8) : putL (getL 0 x) x.length = x := by
  suffices h : ∀ r : List UInt8, putL (getL 0 r.reverse) r.length = r.reverse by
    have := h x.reverse
    simpa using this
  intro r
  induction r with
  | nil => rfl
  | cons b r ih =>
    rw [List.reverse_cons, getL_snoc, List.length_cons, putL]
    have hb := b.toNat_lt
    rw [show (getL 0 r.reverse * 256 + b.toNat) / 256 = getL 0 r.reverse by omega, ih]
    congr 2
    apply UInt8.toNat_inj.1
    simp

theorem putL_getL6 (x : List UInt8) (h : x.length = 6) : putL (getL 0 x) 6 = x := by
  have := putL_getL x
  rwa [h] at this

theorem getL_lt6 (x : List UInt8) (h : x.length = 6) : getL 0 x < 281474976710656 := by
  have := getL_lt x
  rw [h] at this
  exact this

theorem getL_putL6 (n : Nat) (h : n < 281474976710656) : getL 0 (putL n 6) = n := by
  rw [getL_putL]
  exact Nat.mod_eq_of_lt h

/-- Parse's answer. -/
def parseR (l : List UInt8) : Nat × Int :=
  match unhexL (l.filter (· != 58)) with
  | some x => if x.length = 6 ∧ txt x = l then (getL 0 x, 0) else (0, 3)
  | none => (0, 3)

theorem parseR_good (x : List UInt8) (h : x.length = 6) : parseR (txt x) = (getL 0 x, 0) := by
  unfold parseR
  rw [txt_unhex]
  simp [h]

theorem parseR_bad (l : List UInt8) (h : ∀ x : List UInt8, x.length = 6 → txt x ≠ l) : parseR l = (0, 3) := by
  unfold parseR
  split
  · rename_i x _
    rw [if_neg (fun ⟨h1, h2⟩ => h x h1 h2)]
  · rfl

theorem parseR_zero (l : List UInt8) (h : (parseR l).2 = 0) : ∃ x : List UInt8, x.length = 6 ∧ txt x = l ∧ (parseR l).1 = getL 0 x := by
  unfold parseR at h ⊢
  split at h
  · rename_i x hx
    split at h
    · rename_i hc
      refine ⟨x, hc.1, hc.2, ?_⟩
      rw [if_pos hc]
    · simp at h
  · simp at h

theorem parseR_lt (l : List UInt8) : (parseR l).1 < 281474976710656 := by
  unfold parseR
  split
  · split
    · rename_i x _ hc
      exact getL_lt6 x hc.1
    · simp
  · simp

theorem parseR_cases (l : List UInt8) : (parseR l).2 = 0 ∨ (parseR l).2 = 3 := by
  unfold parseR
  split
  · split <;> simp
  · simp

/-- No text of an address: its digits, without colons, are none. -/
theorem parseR_none (l : List UInt8) (h : unhexL (l.filter (· != 58)) = none) : parseR l = (0, 3) := by
  unfold parseR
  rw [h]

/-- Too few digits. -/
theorem parseR_few (l v : List UInt8) (h : unhexL (l.filter (· != 58)) = some v) (hv : v.length < 6) : parseR l = (0, 3) := by
  unfold parseR
  rw [h]
  simp
  omega

theorem parseR_other (l v : List UInt8) (h : unhexL (l.filter (· != 58)) = some v) (hv : 6 ≤ v.length) (hn : txt (v.take 6) ≠ l) : parseR l = (0, 3) := by
  apply parseR_bad
  intro x hx e
  rw [← e, txt_unhex] at h
  obtain rfl := Option.some.inj h
  rw [List.take_of_length_le (by omega)] at hn
  exact hn e

theorem parseR_same (l v : List UInt8) (hv : 6 ≤ v.length) (hn : txt (v.take 6) = l) : parseR l = (getL 0 (v.take 6), 0) := by
  rw [← hn]
  exact parseR_good _ (by simp; omega)

/-- Without its colons. -/
theorem replaceK_filter (c : UInt8) : ∀ l : List UInt8, Lib.replaceK [c] [] (l.count c) l = l.filter (· != c)
  | [] => by simp [Lib.replaceK]
  | b :: l => by
    have ih := replaceK_filter c l
    by_cases hb : b = c
    · subst hb
      rw [List.count_cons_self, Lib.replaceK_hit _ _ _ _ 0 (by simp [Lib.index])]
      simpa using ih
    · rw [List.count_cons_of_ne hb, List.filter_cons, if_pos (by simpa using hb), ← ih]
      cases hk : l.count c with
      | zero => simp [Lib.replaceK]
      | succ k =>
        obtain ⟨i, hi⟩ := Lib.index_of_count (s := l) (old := [c]) (by rw [Lib.count_one]; omega)
        have hi' : Lib.index (b :: l) [c] = ((i + 1 : Nat) : Int) := by
          rw [Lib.index, if_neg (by simpa using fun e => hb e.symm), hi, if_neg (by simp <;> omega)]
          omega
        rw [Lib.replaceK_hit _ _ _ _ _ hi, Lib.replaceK_hit _ _ _ _ _ hi']
        simp

theorem replaceAll_colon (l : List UInt8) : Lib.replaceAll l [58] [] = l.filter (· != 58) := by
  rw [Lib.replaceAll, Lib.replace, if_neg (by decide), Lib.replaceNum, if_pos (by omega), Lib.count_one, replaceK_filter]

/-! The document's way: each byte's two digits by themselves. -/

/-- The j-th byte's digits, and what stands behind them. -/
def goodAt (l : List UInt8) (j : Nat) : Prop := 0 ≤ unD (l.getD (3 * j) 0) ∧ 0 ≤ unD (l.getD (3 * j + 1) 0) ∧ (j < 5 → l.getD (3 * j + 2) 0 = 58)
def valAt (l : List UInt8) (j : Nat) : UInt8 := UInt8.ofNat (16 * (unD (l.getD (3 * j) 0)).toNat + (unD (l.getD (3 * j + 1) 0)).toNat)
def vals (l : List UInt8) (k : Nat) : List UInt8 := (List.range k).map (valAt l)

theorem vals_length (l : List UInt8) (k : Nat) : (vals l k).length = k := by simp [vals]
theorem vals_succ (l : List UInt8) (k : Nat) : vals l (k + 1) = vals l k ++ [valAt l k] := by simp [vals, List.range_succ]

theorem hex_pair (a b : UInt8) (ha : 0 ≤ unD a) (hb : 0 ≤ unD b) : hexL [UInt8.ofNat (16 * (unD a).toNat + (unD b).toNat)] = [a, b] := by
  apply hexL_unhexL
  simp only [unhexL]
  rw [if_neg (by omega)]
  rfl

theorem txt_vals (l : List UInt8) (hl : l.length = 17) (h : ∀ j, j < 6 → goodAt l j) : txt (vals l 6) = l := by
  match l, hl with
  | [c0, c1, c2, c3, c4, c5, c6, c7, c8, c9, c10, c11, c12, c13, c14, c15, c16], _ =>
    have h0 := h 0 (by omega)
    have h1 := h 1 (by omega)
    have h2 := h 2 (by omega)
    have h3 := h 3 (by omega)
    have h4 := h 4 (by omega)
    have h5 := h 5 (by omega)
    simp [goodAt] at h0 h1 h2 h3 h4 h5
    simp only [vals, List.range, List.range.loop, List.map_cons, List.map_nil, valAt, txt]
    simp only [List.getD_cons_zero, List.getD_cons_succ, Nat.mul_zero, Nat.reduceMul, Nat.reduceAdd]
    rw [hex_pair _ _ h0.1 h0.2.1, hex_pair _ _ h1.1 h1.2.1, hex_pair _ _ h2.1 h2.2.1, hex_pair _ _ h3.1 h3.2.1, hex_pair _ _ h4.1 h4.2.1, hex_pair _ _ h5.1 h5.2, h0.2.2, h1.2.2, h2.2.2, h3.2.2, h4.2.2]
    rfl

theorem good_hex (b : UInt8) : 0 ≤ unD (hexD (b.toNat / 16)) ∧ 0 ≤ unD (hexD (b.toNat % 16)) := by
  have := b.toNat_lt
  rw [unD_hexD _ (by omega), unD_hexD _ (by omega)]
  omega

theorem good_txt (x : List UInt8) (h : x.length = 6) (j : Nat) (hj : j < 6) : goodAt (txt x) j := by
  match x, h with
  | [a, b, c, d, e, f], _ =>
    have := good_hex a
    have := good_hex b
    have := good_hex c
    have := good_hex d
    have := good_hex e
    have := good_hex f
    match j, hj with
    | 0, _ => simpa [goodAt, txt, hexL] using good_hex a
    | 1, _ => simpa [goodAt, txt, hexL] using good_hex b
    | 2, _ => simpa [goodAt, txt, hexL] using good_hex c
    | 3, _ => simpa [goodAt, txt, hexL] using good_hex d
    | 4, _ => simpa [goodAt, txt, hexL] using good_hex e
    | 5, _ => simpa [goodAt, txt, hexL] using good_hex f

theorem parseR_vals (l : List UInt8) (hl : l.length = 17) (h : ∀ j, j < 6 → goodAt l j) : parseR l = (getL 0 (vals l 6), 0) := by
  have := parseR_good (vals l 6) (vals_length l 6)
  rwa [txt_vals l hl h] at this

theorem parseR_broken (l : List UInt8) (j : Nat) (hj : j < 6) (h : ¬ goodAt l j) : parseR l = (0, 3) := by
  apply parseR_bad
  rintro x hx rfl
  exact h (good_txt x hx j hj)

theorem parseR_long (l : List UInt8) (h : l.length ≠ 17) : parseR l = (0, 3) := by
  apply parseR_bad
  rintro x hx rfl
  exact h (txt_length6 x hx)

/-! The order of texts. -/

theorem hexD_less (m n : Nat) (hm : m < 16) (hn : n < 16) : (hexD m < hexD n ↔ m < n) ∧ (hexD m = hexD n ↔ m = n) := by
  have h' : ∀ m n : Fin 16, (hexD m.1 < hexD n.1 ↔ m.1 < n.1) ∧ (hexD m.1 = hexD n.1 ↔ m.1 = n.1) := by decide
  exact h' ⟨m, hm⟩ ⟨n, hn⟩

theorem pair_less (a b : UInt8) (r s : List UInt8) : Op.bytesLess (hexD (a.toNat / 16) :: hexD (a.toNat % 16) :: r) (hexD (b.toNat / 16) :: hexD (b.toNat % 16) :: s) = (decide (a.toNat < b.toNat) || (decide (a.toNat = b.toNat) && Op.bytesLess r s)) := by
  have ha := a.toNat_lt
  have hb := b.toNat_lt
  obtain ⟨p1, p2⟩ := hexD_less (a.toNat / 16) (b.toNat / 16) (by omega) (by omega)
  obtain ⟨q1, q2⟩ := hexD_less (a.toNat % 16) (b.toNat % 16) (by omega) (by omega)
  rw [Op.bytesLess, Op.bytesLess]
  rw [Bool.eq_iff_iff]
  simp only [Bool.or_eq_true, Bool.and_eq_true, decide_eq_true_eq, beq_iff_eq, p1, p2, q1, q2]
  by_cases h1 : a.toNat < b.toNat
  · simp only [h1, true_or, iff_true]
    by_cases h2 : a.toNat / 16 < b.toNat / 16
    · exact .inl h2
    · exact .inr ⟨by omega, .inl (by omega)⟩
  · by_cases h3 : a.toNat = b.toNat
    · simp [h3]
    · simp only [h1, h3, false_and, or_false, iff_false]
      rintro (h | ⟨h, h' | ⟨h', _⟩⟩) <;> omega

theorem txt_less : ∀ x y : List UInt8, x.length = y.length → Op.bytesLess (txt x) (txt y) = Op.bytesLess x y
  | [], [], _ => rfl
  | [a], [b], _ => by
    simp only [txt, hexL]
    rw [pair_less, Op.bytesLess]
    rw [Bool.eq_iff_iff]
    simp [Op.bytesLess, UInt8.lt_iff_toNat_lt]
  | a :: c :: x, b :: d :: y, h => by
    have ih := txt_less (c :: x) (d :: y) (by simpa using h)
    simp only [txt, hexL, List.cons_append, List.nil_append]
    rw [pair_less, Op.bytesLess, ih]
    conv => rhs; rw [Op.bytesLess]
    rw [Bool.eq_iff_iff]
    simp [UInt8.lt_iff_toNat_lt, ← UInt8.toNat_inj]

theorem getL_from (n : Nat) (l : List UInt8) : getL n l = n * 256 ^ l.length + getL 0 l := by
  induction l generalizing n with
  | nil => simp [getL]
  | cons b l ih =>
    have e : ∀ m, getL m (b :: l) = getL (m * 256 + b.toNat) l := fun m => rfl
    rw [e n, e 0, ih, ih (0 * 256 + b.toNat), List.length_cons, Nat.pow_succ]
    simp only [Nat.zero_mul, Nat.zero_add, Nat.add_mul]
    rw [Nat.mul_assoc, Nat.mul_comm 256 (256 ^ l.length)]
    omega

theorem getL_less : ∀ x y : List UInt8, x.length = y.length → Op.bytesLess x y = decide (getL 0 x < getL 0 y)
  | [], [], _ => by simp [Op.bytesLess, getL]
  | a :: x, b :: y, h => by
    have hl : x.length = y.length := by simpa using h
    have ih := getL_less x y hl
    have e : ∀ (c : UInt8) (l : List UInt8), getL 0 (c :: l) = c.toNat * 256 ^ l.length + getL 0 l := fun c l => by
      have : getL 0 (c :: l) = getL (0 * 256 + c.toNat) l := rfl
      rw [this, getL_from]; simp
    rw [Op.bytesLess, ih, e, e, hl]
    have g1 := getL_lt x
    have g2 := getL_lt y
    rw [hl] at g1
    rw [Bool.eq_iff_iff]
    simp only [Bool.or_eq_true, Bool.and_eq_true, decide_eq_true_eq, beq_iff_eq, UInt8.lt_iff_toNat_lt, ← UInt8.toNat_inj]
    rcases Nat.lt_trichotomy a.toNat b.toNat with h1 | h1 | h1
    · have := Nat.mul_le_mul_right (256 ^ y.length) (show a.toNat + 1 ≤ b.toNat from h1)
      rw [Nat.add_mul] at this
      simp only [h1, true_or, true_iff]
      omega
    · simp [h1]
    · have := Nat.mul_le_mul_right (256 ^ y.length) (show b.toNat + 1 ≤ a.toNat from h1)
      rw [Nat.add_mul] at this
      constructor
      · rintro (h' | ⟨h', _⟩) <;> omega
      · intro h'; omega

/-- Texts of addresses stand in the order of the addresses. -/
theorem order (a b : Nat) (ha : a < 281474976710656) (hb : b < 281474976710656) : Op.bytesLess (txt (putL a 6)) (txt (putL b 6)) = decide (a < b) := by
  rw [txt_less _ _ (by simp [putL_length]), getL_less _ _ (by simp [putL_length]), getL_putL6 a ha, getL_putL6 b hb]

theorem text_same (a b : Nat) (ha : a < 281474976710656) (hb : b < 281474976710656) : (txt (putL a 6) == txt (putL b 6)) = decide (a = b) := by
  rw [Bool.eq_iff_iff]
  simp only [beq_iff_eq, decide_eq_true_eq]
  constructor
  · intro h
    have := txt_inj _ _ h
    rw [← getL_putL6 a ha, this, getL_putL6 b hb]
  · rintro rfl; rfl

end Mac
end Go.Proofs.YtmojegnflcokjaaDoor

/-
  What the functions of package mac, and the document's answers of layer 2, say of an address as a number: Right, Group, Local, Maker, Made, Reserved, Bytes, Read; and that they change nothing that was there.
-/
namespace Go.Proofs.YtmojegnflcokjaaDoor
open Go.RowKit
namespace Mac
open Oct

theorem ret_bool {a b : Bool} (h : a = b) : Ending.returned (.bool a) = .returned (.bool b) := by rw [h]
theorem ret_int {k : IntKind} {a b : Int} (h : a = b) : Ending.returned (.int k a) = .returned (.int k b) := by rw [h]

def rightB (m : Nat) : Bool := decide (m < 281474976710656)
def groupB (m : Nat) : Bool := decide (m / 1099511627776 % 2 = 1)
def localB (m : Nat) : Bool := decide (m / 2199023255552 % 2 = 1)
def makerN (m : Nat) : Nat := m / 16777216 % 16777216
def reservedB (m : Nat) : Bool := decide (m / 16 = 103282638848)

theorem and_bit (m i : Nat) : m &&& 2 ^ i = if m / 2 ^ i % 2 = 1 then 2 ^ i else 0 := by
  have ht : m.testBit i = decide (m / 2 ^ i % 2 = 1) := Nat.testBit_eq_decide_div_mod_eq
  apply Nat.eq_of_testBit_eq
  intro j
  rw [Nat.testBit_and, Nat.testBit_two_pow]
  by_cases hj : i = j
  · subst hj
    rw [ht]
    by_cases h : m / 2 ^ i % 2 = 1 <;> simp [h]
  · by_cases h : m / 2 ^ i % 2 = 1 <;> simp [h, hj]

theorem and_low (m i : Nat) : m &&& (2 ^ i - 1) = m % 2 ^ i := Nat.and_two_pow_sub_one_eq_mod m i

theorem group_bit (m : Nat) (hm : m < 18446744073709551616) : (bits .and .u64 (m : Int) 1099511627776 != 0) = groupB m := by
  have e := u64_and_nat m 1099511627776 hm (by omega)
  have f := and_bit m 40
  rw [show (2 : Nat) ^ 40 = 1099511627776 by rfl] at f
  rw [show (1099511627776 : Int) = ((1099511627776 : Nat) : Int) by rfl, e, f]
  unfold groupB
  by_cases h : m / 1099511627776 % 2 = 1 <;> simp [h]

theorem local_bit (m : Nat) (hm : m < 18446744073709551616) : (bits .and .u64 (m : Int) 2199023255552 != 0) = localB m := by
  have e := u64_and_nat m 2199023255552 hm (by omega)
  have f := and_bit m 41
  rw [show (2 : Nat) ^ 41 = 2199023255552 by rfl] at f
  rw [show (2199023255552 : Int) = ((2199023255552 : Nat) : Int) by rfl, e, f]
  unfold localB
  by_cases h : m / 2199023255552 % 2 = 1 <;> simp [h]

theorem and_one (x : Nat) (hx : x < 18446744073709551616) : bits .and .u64 (x : Int) 1 = ((x % 2 : Nat) : Int) := by
  have e := u64_and_nat x 1 hx (by omega)
  rw [show (1 : Int) = ((1 : Nat) : Int) by rfl, e]
  have f := and_low x 1
  simp at f
  rw [Nat.and_one_is_mod]

theorem and24 (x : Nat) (hx : x < 18446744073709551616) : bits .and .u64 (x : Int) 16777215 = ((x % 16777216 : Nat) : Int) := by
  have e := u64_and_nat x 16777215 hx (by omega)
  have f := and_low x 24
  rw [show (16777215 : Int) = ((16777215 : Nat) : Int) by rfl, e]
  rw [show (2 : Nat) ^ 24 = 16777216 by rfl] at f
  rw [show 16777215 = 16777216 - 1 by rfl, f]

theorem and48 (x : Nat) (hx : x < 18446744073709551616) : bits .and .u64 (x : Int) 281474976710655 = ((x % 281474976710656 : Nat) : Int) := by
  have e := u64_and_nat x 281474976710655 hx (by omega)
  have f := and_low x 48
  rw [show (281474976710655 : Int) = ((281474976710655 : Nat) : Int) by rfl, e]
  rw [show (2 : Nat) ^ 48 = 281474976710656 by rfl] at f
  rw [show 281474976710655 = 281474976710656 - 1 by rfl, f]

theorem made_or (a b : Nat) (ha : a < 16777216) (hb : b < 16777216) : bits .or .u64 ((a : Int) * 16777216) (b : Int) = ((a * 16777216 + b : Nat) : Int) := by
  rw [show ((a : Int) * 16777216) = ((a * 16777216 : Nat) : Int) by omega, u64_or_nat _ _ (by omega) (by omega)]
  have : a * 16777216 ||| b = a * 16777216 + b := by
    rw [show a * 16777216 = 2 ^ 24 * a by omega, Nat.two_pow_add_eq_or_of_lt (by omega)]
  rw [this]

theorem and_not15 (m : Nat) (hm : m < 18446744073709551616) : m &&& 18446744073709551600 = m / 16 * 16 := by
  apply Nat.eq_of_testBit_eq
  intro i
  have h1 : m / 16 * 16 = (m >>> 4) <<< 4 := by rw [Nat.shiftRight_eq_div_pow, Nat.shiftLeft_eq]
  have h2 : 18446744073709551600 = (2 ^ 60 - 1) <<< 4 := by decide
  rw [h1, h2, Nat.testBit_and, Nat.testBit_shiftLeft, Nat.testBit_shiftLeft, Nat.testBit_shiftRight, Nat.testBit_two_pow_sub_one]
  by_cases h4 : 4 ≤ i
  · rw [show 4 + (i - 4) = i by omega]
    by_cases h5 : i - 4 < 60
    · simp [h4, h5]
    · have : m.testBit i = false := Nat.testBit_lt_two_pow (Nat.lt_of_lt_of_le hm (by
        have : 2 ^ 64 ≤ 2 ^ i := Nat.pow_le_pow_right (by omega) (by omega)
        simpa using this))
      simp [this]
  · simp [h4]

theorem reserved_bits (m : Nat) (hm : m < 18446744073709551616) : (bits .andNot .u64 (m : Int) 15 == 1652522221568) = reservedB m := by
  have e := u64_andNot_nat m 15 hm (by omega)
  rw [show (15 : Int) = ((15 : Nat) : Int) by rfl, e]
  rw [show 18446744073709551615 - 15 = 18446744073709551600 by rfl, and_not15 m hm]
  unfold reservedB
  rw [Bool.eq_iff_iff]
  simp
  omega

set_option maxRecDepth 40000 in
theorem right_any (m : Nat) (w : World) : Calls Tryd.prog 72 #[.int .u64 m] w fun e w' => e = .returned (.bool (rightB m)) ∧ w = w' := by
  go_enter Tryd.func72, Tryd.ntmps72
  go_wp2
  go_ret
  refine ⟨ret_bool ?_, rfl⟩
  unfold rightB
  rw [Bool.eq_iff_iff]
  simp
  omega

set_option maxRecDepth 40000 in
theorem rright_any (m : Nat) (w : World) : Calls Tryd.prog 78 #[.int .u64 m] w fun e w' => e = .returned (.bool (rightB m)) ∧ w = w' := by
  go_enter Tryd.func78, Tryd.ntmps78
  go_wp2
  go_ret
  refine ⟨ret_bool ?_, rfl⟩
  unfold rightB
  rw [Bool.eq_iff_iff]
  simp
  omega

set_option maxRecDepth 40000 in
theorem group_any (m : Nat) (hm : m < 18446744073709551616) (w : World) : Calls Tryd.prog 26 #[.int .u64 m] w fun e w' => e = .returned (.bool (groupB m)) ∧ w = w' := by
  have HG := Lib.hid (group_bit m hm)
  go_enter Tryd.func26, Tryd.ntmps26
  go_wp2
  go_ret
  exact ⟨ret_bool HG.out, rfl⟩

set_option maxRecDepth 40000 in
theorem rgroup_any (m : Nat) (hm : m < 18446744073709551616) (w : World) : Calls Tryd.prog 31 #[.int .u64 m] w fun e w' => e = .returned (.bool (groupB m)) ∧ w = w' := by
  have HG : Hid ((bits .and .u64 ((m : Int) / 1099511627776) 1 == 1) = groupB m) := by
    show _ = _
    rw [show (m : Int) / 1099511627776 = ((m / 1099511627776 : Nat) : Int) by omega, and_one _ (by omega)]
    unfold groupB
    rw [Bool.eq_iff_iff]
    simp
    omega
  go_enter Tryd.func31, Tryd.ntmps31
  go_wp2
  go_ret
  exact ⟨ret_bool HG.out, rfl⟩

/-- Made's answer. -/
def madeR (a : Nat) (n : Int) : Nat × Int := if a < 16777216 ∧ 0 ≤ n ∧ n < 16777216 then (a * 16777216 + n.toNat, 0) else (0, 1)

theorem ret_pair {k l : IntKind} {a b c d : Int} (h : a = b) (g : c = d) : Ending.returned (.tuple #[.int k a, .int l c]) = .returned (.tuple #[.int k b, .int l d]) := by rw [h, g]

set_option maxRecDepth 40000 in
theorem rreserved_any (m : Nat) (hm : m < 18446744073709551616) (w : World) : Calls Tryd.prog 40 #[.int .u64 m] w fun e w' => e = .returned (.bool (reservedB m)) ∧ w = w' := by
  have HG := Lib.hid (reserved_bits m hm)
  go_enter Tryd.func40, Tryd.ntmps40
  go_wp2
  go_ret
  exact ⟨ret_bool HG.out, rfl⟩

end Mac
end Go.Proofs.YtmojegnflcokjaaDoor
