/-
  What the functions of package octet answer: Put, Get, Cut, Pad, Same, Hex, Unhex, each for every argument (texts up to a length that the theorem names), and that they change nothing that was there.
-/
import Derived.Test.YtfnjgjehmddkcaaDoorProg
import Derived.Test.YtfnjgjehmddkcaaDoorOctNum
import Derived.WalkKit
import Derived.WalkSpells
import Derived.WalkLawsBesides
import Derived.Lib.Hide
import Derived.RegionTactic
import Derived.Deep.RegionLaw
import Derived.Deep.QuietTactic
import Derived.BigQuiet
namespace Go.Proofs.YtfnjgjehmddkcaaDoor
open Go.RowKit
namespace Oct
theorem info5 : (Tryd.prog.info? 5).map (fun i => (i.zero, i.size, i.bytes)) = some (some (.int .u8 0), 1, 1) := by kernel_rfl

/-- Bytes as cells. -/
def bv (l : List UInt8) : List Value := l.map fun b => .int .u8 (b.toNat : Int)

theorem made_zeros (k : Nat) : (madeCells #[Value.int .u8 0] k).toList = bv (List.replicate k 0) := by
  apply List.ext_getElem
  · simp [madeCells, bv]
  · intro i h1 h2
    simp [madeCells, bv, Nat.mod_one]

theorem bv_length (l : List UInt8) : (bv l).length = l.length := by simp [bv]

/-- string(b), b a row of the call's own. -/
theorem conv_back {w : World} {base g n cap : Nat} {l : List UInt8} (h : w.ownsRow base 5 1 (.slice (some ⟨g, 0, none⟩) n cap) n (bv l)) :
    (convert 50 9 (.slice (some ⟨g, 0, none⟩) n cap)).run Tryd.prog w = .ok (.string ⟨l.toArray⟩) w := by
  have hl : l.length = n := by have := h.1; simpa [bv] using this
  subst hl
  refine run_convert_bytes_back w 50 9 5 ⟨g, 0, none⟩ cap l Tryd.underlying50 Tryd.underlying5 Tryd.underlying9 fun j hj => ?_
  have := h.cellAt j (by omega)
  cases j with
  | zero => simpa [Addr.add, bv, hj] using this
  | succ j => simpa [Addr.add, bv, hj] using this

theorem put_round (m j : Nat) (T : List UInt8) : bv ((List.replicate (j + 1) 0 ++ T).set j (UInt8.ofNat m)) = (bv (List.replicate (j + 1) 0 ++ T)).set j (.int .u8 ((m : Int) % 256)) := by
  unfold bv
  rw [List.map_set]
  congr 2

theorem put_set (j : Nat) (T : List UInt8) (b : UInt8) : (List.replicate (j + 1) 0 ++ T).set j b = List.replicate j 0 ++ b :: T := by
  rw [List.replicate_succ', List.append_assoc, List.set_append_right _ _ (by simp)]
  simp

set_option maxRecDepth 40000 in
set_option maxHeartbeats 400000 in
theorem put_core (n : Nat) (hn : n < 18446744073709551616) (width : Int) (k : Nat) (hk : k ≤ 8) (hw : width < 0 ∧ k = 0 ∨ 0 ≤ width ∧ width ≤ 8 ∧ width = k ∨ 8 < width ∧ k = 8) (w : World) :
    Calls Tryd.prog 61 #[.int .u64 n, .int .i64 width] w fun e w' => e = .returned (.string ⟨(putL n k).toArray⟩) ∧ Below w.heap.size w w' := by
  obtain ⟨i0, hi, hz0, hz1, hz2⟩ := info_parts info5
  have HW := Lib.hid hw; clear hw
  go_enter Tryd.func61, Tryd.ntmps61
  go_wp2_with (at_make; refine wpList_make_full _ rfl (.tmp 9) (.tmp 9) 50 rfl w.heap.size 5 i0 (.int .u8 0) 1 Tryd.underlying50 hi hz0 hz1 .i64 .i64 _ _ k rfl rfl ?h1 ?h2 ?h3 ?h4 (Nat.le_refl _) ?_)
  case h3 => rw [hz2]; omega
  case h4 => unfold maxLen; omega
  case h1.inl | h1.inr.inl | h1.inr.inr | h2.inl | h2.inr.inl | h2.inr.inr => have := HW.out; omega
  all_goals
    rw [made_zeros]
    intro w1 hown hgrow
    go_wp2
    go_loopw [0, 6] (fun nn i wr => ∃ (m j : Nat) (T : List UInt8), j ≤ k ∧ m < 18446744073709551616 ∧ nn = .int .u64 m ∧ i = .int .i64 ((j : Int) - 1) ∧ putL m j ++ T = putL n k ∧
      wr.ownsRow w.heap.size 5 1 (.slice (some ⟨w.heap.size, 0, none⟩) k k) k (bv (List.replicate j 0 ++ T)) ∧ Below w.heap.size w wr) (fun _ i _ => (intOf i + 1).toNat)
    case atStart => exact ⟨n, k, [], Nat.le_refl _, hn, rfl, rfl, by simp, by simpa using hown, Below.grown (Below.refl _ _) hgrow (Nat.le_refl _) (by simp)⟩
    case round =>
      obtain ⟨m, j, T, hj, hm, rfl, rfl, hT, ho, hb⟩ := hrel
      cases j with
      | zero =>
        simp only [putL, List.nil_append, List.replicate_zero] at hT ho
        subst hT
        have hcv := conv_back ho
        rw [show (((0 : Nat) : Int) - 1) = -1 from rfl]
        go_wp2
        go_ret
        exact ⟨rfl, hb⟩
      | succ j =>
        have HT := Lib.hid hT
        clear hT
        rw [show (((j + 1 : Nat) : Int) - 1) = (j : Int) by omega]
        have hfz := ho.frozenAt j
        have hcl : wr.cell? ⟨w.heap.size, j, none⟩ = some (.int .u8 0) := by rw [ho.cellAt j (by omega)]; simp [bv, List.getElem?_append]
        have hst := ho.stored j (.int .u8 ((m : Int) % 256))
        have Hst := Lib.hid hst
        clear hst
        go_wp2
        go_roundw
        case rel =>
          refine ⟨m / 256, j, UInt8.ofNat m :: T, by omega, by omega, by go_num, by go_num, ?_, ?_, ?_⟩
          · have := HT.out
            rw [← this, putL]; simp
          · have := Hst.out.1
            rw [← put_round, put_set] at this
            exact this
          · exact hb.grown Hst.out.2 hb.size (by simp)
        case measure => simp [intOf]

/-- Put(n, width). -/
theorem put_any (n : Nat) (hn : n < 18446744073709551616) (width : Int) (w : World) :
    Calls Tryd.prog 61 #[.int .u64 n, .int .i64 width] w fun e w' => e = .returned (.string ⟨(putL n (clampW width)).toArray⟩) ∧ Below w.heap.size w w' :=
  put_core n hn width (clampW width) (clampW_le width) (by unfold clampW; omega) w

theorem or_low (m b : Nat) (hm : m < 72057594037927936) (hb : b < 256) : bits .or .u64 ((m : Int) * 256) (b : Int) = ((m * 256 + b : Nat) : Int) := by
  rw [show ((m : Int) * 256) = ((m * 256 : Nat) : Int) by omega, u64_or_nat _ _ (by omega) (by omega)]
  have : m * 256 ||| b = m * 256 + b := by
    rw [show m * 256 = 2 ^ 8 * m by omega, Nat.two_pow_add_eq_or_of_lt (by omega)]
  rw [this]

theorem get_step (p : ByteArray) (k : Nat) (h : k < p.size) : getL 0 (p.data.toList.take (k + 1)) = getL 0 (p.data.toList.take k) * 256 + p[k].toNat := by
  rw [take_snoc p k h, getL_snoc]

theorem same_byte (m a b : Nat) (hm : m < 256) (ha : a < 256) (hb : b < 256) :
    ∃ x : Nat, x < 256 ∧ bits .or .u8 (m : Int) (bits .xor .u8 (a : Int) (b : Int)) = (x : Int) ∧ (x = 0 ↔ m = 0 ∧ a = b) := by
  refine ⟨m ||| (a ^^^ b), Nat.or_lt_two_pow (n := 8) (by omega) (Nat.xor_lt_two_pow (n := 8) (by omega) (by omega)), ?_, ?_⟩
  · rw [u8_xor_nat a b ha hb, u8_or_nat m _ hm (Nat.xor_lt_two_pow (n := 8) (by omega) (by omega))]
  · rw [Nat.or_eq_zero_iff]
    constructor
    · rintro ⟨h0, h1⟩
      refine ⟨h0, ?_⟩
      have : (a ^^^ b) ^^^ b = b := by rw [h1, Nat.zero_xor]
      rwa [Nat.xor_assoc, Nat.xor_self, Nat.xor_zero] at this
    · rintro ⟨h0, rfl⟩
      exact ⟨h0, Nat.xor_self a⟩

theorem same_step (s t : ByteArray) (k : Nat) (h : k < s.size) (h' : k < t.size) : s.data.toList.take (k + 1) = t.data.toList.take (k + 1) ↔ s.data.toList.take k = t.data.toList.take k ∧ s[k].toNat = t[k].toNat := by
  have hs : k < s.data.toList.length := by simpa using h
  have ht : k < t.data.toList.length := by simpa using h'
  rw [take_snoc s k h, take_snoc t k h']
  constructor
  · intro e
    have := List.append_inj e (by simp; omega)
    simp at this
    exact ⟨this.1, by rw [this.2]⟩
  · rintro ⟨e1, e2⟩
    rw [e1, UInt8.toNat_inj.1 e2]

/-- Two values appended to a row of the call's own with room, in a region that draws its order. -/
theorem step_append_two {P : Program} {ops : Array Oper} {o : Oper} {a : Act} {w : World} {K : Act → World → Prop} {Q : Exit → Act → World → Prop} {E : Prop} {X Y : Value}
    (hg : o.guard = none) (s x : Operand) (t : TypeId) (hop : o.op = Op.call { callee := Callee.builtin Builtin.append, args := #[s, x], argTypes := #[t, t] })
    (base : Nat) (e : TypeId) (i : TypeInfo) (h1 : P.underlying t = some (.slice e)) (h2 : P.info? e = some i) (h4 : i.size = 1)
    (g k cap : Nat) (xs : List Value) (hs : a.eval s = .slice (some ⟨g, 0, none⟩) k cap) (hown : w.ownsRow base e 1 (.slice (some ⟨g, 0, none⟩) k cap) k xs)
    (hx : a.eval x = .slice (some ⟨w.heap.size, 0, none⟩) 2 2) (hX : X.oneCell' = true) (hY : Y.oneCell' = true) (b1 : k + 2 ≤ cap)
    (hK : ∀ w', w'.ownsRow base e 1 (.slice (some ⟨g, 0, none⟩) (k + 2) cap) (k + 2) (xs ++ [X, Y]) → (w.alloc (.cells #[X, Y] e)).drew.grownBy w' (some g) → K (a.put o.dst (.slice (some ⟨g, 0, none⟩) (k + 2) cap)) w') :
    if Region.wanted o (yielded ops a.tmps) = true then Oper.wp P o a (w.alloc (.cells #[X, Y] e)).drew K Q else E := by
  have hw : Region.wanted o (yielded ops a.tmps) = true := by simp [Region.wanted, hg]
  rw [if_pos hw]
  obtain ⟨w', hrun, r1, r2⟩ := run_append_fits (P := P) (w.alloc (.cells #[X, Y] e)).drew base t o.type e i 1 h1 h2 h4 g k cap xs ((hown.alloc _).drew) ⟨w.heap.size, 0, none⟩ 2 2 [X, Y] rfl
    (by
      intro j u hj
      match j, hj with
      | 0, hj => simp at hj; subst hj; simp [Addr.add]
      | 1, hj => simp at hj; subst hj; simp [Addr.add])
    (by
      intro u hu
      simp at hu
      rcases hu with rfl | rfl <;> assumption) b1
  unfold Oper.wp
  simp [execOp, hop, resolve, invoke, builtin, hs, hx, hrun, Result.andThen]
  exact hK w' r1 r2

theorem dig_get (n : Nat) (h : n < (⟨#[48, 49, 50, 51, 52, 53, 54, 55, 56, 57, 97, 98, 99, 100, 101, 102]⟩ : ByteArray).size) : (⟨#[48, 49, 50, 51, 52, 53, 54, 55, 56, 57, 97, 98, 99, 100, 101, 102]⟩ : ByteArray)[n]'h = hexD n := by
  have h' : ∀ n : Fin 16, (⟨#[48, 49, 50, 51, 52, 53, 54, 55, 56, 57, 97, 98, 99, 100, 101, 102]⟩ : ByteArray)[n.1]'(by have := n.2; exact this) = hexD n.1 := by decide
  exact h' ⟨n, h⟩

theorem hex_step (s : ByteArray) (k : Nat) (h : k < s.size) : bv (hexL (s.data.toList.take k)) ++
    [.int .u8 ((hexD ((s[k].toNat : Int) / 16).toNat).toNat : Int), .int .u8 ((hexD ((s[k].toNat : Int) % 16).toNat).toNat : Int)] = bv (hexL (s.data.toList.take (k + 1))) := by
  rw [take_snoc s k h, hexL_append]
  simp only [bv, hexL, List.map_append, List.map_cons, List.map_nil]
  rw [show ((s[k].toNat : Int) / 16).toNat = s[k].toNat / 16 by omega, show ((s[k].toNat : Int) % 16).toNat = s[k].toNat % 16 by omega]

set_option maxRecDepth 40000 in
set_option maxHeartbeats 400000 in
/-- Hex(s). -/
theorem hex_any (s : ByteArray) (w : World) (hs : s.size ≤ 1048576) :
    Calls Tryd.prog 50 #[.string s] w fun e w' => e = .returned (.string ⟨(hexL s.data.toList).toArray⟩) ∧ Below w.heap.size w w' := by
  obtain ⟨i0, hi, hz0, hz1, hz2⟩ := info_parts info5
  go_enter Tryd.func50, Tryd.ntmps50
  go_wp2_with (at_make; refine wpList_make_own _ rfl (.const (.int .i64 0)) (.tmp 7) 50 rfl w.heap.size 5 i0 (.int .u8 0) 1 Tryd.underlying50 hi hz0 hz1 .i64 .i64 _ (2 * s.size) rfl rfl ?h1 ?h3 ?h4 (Nat.le_refl _) ?_)
  case h1 => omega
  case h3 => rw [hz2]; omega
  case h4 => unfold maxLen; omega
  intro w1 hown hgrow
  go_wp2
  go_loopw [3, 4] (fun v i wr => ∃ k : Nat, k ≤ s.size ∧ i = .int .i64 k ∧ v = .slice (some ⟨w.heap.size, 0, none⟩) (2 * k) (2 * s.size) ∧
      wr.ownsRow w.heap.size 5 1 (.slice (some ⟨w.heap.size, 0, none⟩) (2 * k) (2 * s.size)) (2 * k) (bv (hexL (s.data.toList.take k))) ∧ Below w.heap.size w wr) (fun _ i _ => s.size - (intOf i).toNat)
  case atStart => exact ⟨0, Nat.zero_le _, rfl, rfl, by simpa [hexL, bv] using hown, Below.grown (Below.refl _ _) hgrow (Nat.le_refl _) (by simp)⟩
  case round =>
    obtain ⟨k, hk, rfl, rfl, ho, hb⟩ := hrel
    by_cases hlt : k < s.size
    · have hb8 := s[k].toNat_lt
      have q1 : (0 : Int) ≤ (s[k].toNat : Int) / 16 := by omega
      have q2 : (s[k].toNat : Int) / 16 < 16 := by omega
      have q3 : (0 : Int) ≤ (s[k].toNat : Int) % 16 := by omega
      have q4 : (s[k].toNat : Int) % 16 < 16 := by omega
      have q5 := u8_and15 (x := (s[k].toNat : Int)) (by omega) (by omega)
      have HO := Lib.hid ho
      clear ho
      have hk2 : 2 * k + 2 ≤ 2 * s.size := by omega
      go_wp2
      go_region_law (refine step_append_two rfl (.tmp 15) (.tmp 26) 50 rfl w.heap.size 5 i0 Tryd.underlying50 hi hz1 w.heap.size (2 * k) (2 * s.size) _ (by simp [Act.eval]) HO.out (by simp [Act.eval]) rfl rfl hk2 ?_; intro w2 ho2 hg2)
      all_goals
        rw [dig_get, dig_get, hex_step s k hlt] at ho2
        have HO2 := Lib.hid ho2
        have HG2 := Lib.hid hg2
        clear ho2 hg2
        go_wp2
        go_roundw
        case rel => exact ⟨k + 1, by omega, by go_num, rfl, HO2.out, (((hb.alloc hb.size _).drew).grown HG2.out (by have := hb.size; simp; omega) (by simp))⟩
        case measure => simp [intOf]; omega
    · rw [List.take_of_length_le (by simpa using Nat.le_of_not_lt hlt)] at ho
      have hcv := conv_back ho
      go_wp2
      go_ret
      exact ⟨rfl, hb⟩

end Oct
end Go.Proofs.YtfnjgjehmddkcaaDoor
