/-
  What packet.Right and packet.Bytes, and the document's answers beside them, say of any packet.
-/
import Derived.Test.YtaeeonohakkgbaaDoorAttI
import Derived.Test.YtaeeonohakkgbaaDoorPacNum
namespace Go.Proofs.YtaeeonohakkgbaaDoor
open Go.RowKit
namespace Pac
open Oct Att Bx

/-- A packet as a value, and its four cells. -/
abbrev pv (c i : Int) (a : ByteArray) (A : Option Addr) (n k : Nat) : Value := .agg #[.int .i64 c, .int .i64 i, .string a, .slice A n k]
abbrev pl (c i : Int) (a : ByteArray) (A : Option Addr) (n k : Nat) : List Value := [.int .i64 c, .int .i64 i, .string a, .slice A n k]
abbrev po (c i : Int) (a : ByteArray) (A : Option Addr) (n k : Nat) : Obj := .cells #[.int .i64 c, .int .i64 i, .string a, .slice A n k] 24

def headB (c i : Int) (a : ByteArray) : Bool := decide ((1 ≤ c ∧ c ≤ 255) ∧ (0 ≤ i ∧ i ≤ 255) ∧ a.size = 16)

theorem right_eq (c i : Int) (a : ByteArray) (l : List At) : rightP c i a l = (headB c i a && decide (bytesE l = 0 ∧ (bytesT l).size ≤ 4076)) := rfl

set_option maxHeartbeats 1000000 in
theorem head_any (c i : Int) (a : ByteArray) (ha : a.size ≤ maxLen) (A : Option Addr) (n k : Nat) (w : World) :
    Calls Tryd.prog 65 #[pv c i a A n k] w fun e w' => e = .returned (.bool (headB c i a)) ∧ Below w.heap.size w w' := by
  have ha' : a.size ≤ 9223372036854775807 := ha
  clear ha
  unfold headB
  rcases (show c < 1 ∨ (1 ≤ c ∧ 255 < c) ∨ ((1 ≤ c ∧ c ≤ 255) ∧ i < 0) ∨ ((1 ≤ c ∧ c ≤ 255) ∧ (0 ≤ i ∧ 255 < i)) ∨ (((1 ≤ c ∧ c ≤ 255) ∧ (0 ≤ i ∧ i ≤ 255)) ∧ a.size ≠ 16) ∨ (((1 ≤ c ∧ c ≤ 255) ∧ (0 ≤ i ∧ i ≤ 255)) ∧ a.size = 16) by omega) with h | ⟨h, h1⟩ | ⟨⟨h, h1⟩, h2⟩ | ⟨⟨h, h1⟩, h2, h3⟩ | ⟨⟨⟨h, h1⟩, h2, h3⟩, h4⟩ | ⟨⟨⟨h, h1⟩, h2, h3⟩, h4⟩ <;>
  · go_enter Tryd.func65, Tryd.ntmps65
    go_wp2
    go_ret
    exact ⟨ret_bool (by rw [Bool.eq_iff_iff]; simp <;> omega), Bx.box_below _ _⟩

theorem bel_three {a b c d : World} (h1 : Below a.heap.size a b) (h2 : Below b.heap.size b c) (h3 : Below c.heap.size c d) : Below a.heap.size a d := then_below (then_below h1 h2) h3

set_option maxHeartbeats 1000000 in
theorem bytes_err (c i : Int) (a : ByteArray) (A : Option Addr) (n k : Nat) (T : ByteArray) (E : Int) (l : List At) (w : World) (hA : Ats w A l) (hE : (E != 0) = true)
    (HB : Hid (∀ w, Ats w A l → Calls Tryd.prog 64 #[.slice A n k] w fun e w' => e = .returned (.tuple #[.string T, .int .i64 E]) ∧ Below w.heap.size w w')) :
    Calls Tryd.prog 45 #[pv c i a A n k] w fun e w' => e = .returned (.tuple #[.string ⟨#[]⟩, .int .i64 1]) ∧ Below w.heap.size w w' := by
  have HA := Lib.hid (fun o : Obj => hA.below (Bx.box_below w o))
  clear hA
  go_enter Tryd.func45, Tryd.ntmps45
  go_wp2_with fail
  refine (HB.out _ (HA.out _)).mono ?_; rintro e w1 ⟨rfl, hb1⟩
  have bel := Lib.hid (then_below (box_below w (po c i a A n k)) hb1)
  clear hb1
  go_wp2_with fail
  go_ret2
  exact ⟨rfl, bel.out⟩

set_option maxHeartbeats 1000000 in
theorem bytes_big (c i : Int) (a : ByteArray) (A : Option Addr) (n k : Nat) (T : ByteArray) (l : List At) (w : World) (hA : Ats w A l) (hT : 4076 < T.size) (hT2 : T.size ≤ 20000)
    (HB : Hid (∀ w, Ats w A l → Calls Tryd.prog 64 #[.slice A n k] w fun e w' => e = .returned (.tuple #[.string T, .int .i64 0]) ∧ Below w.heap.size w w')) :
    Calls Tryd.prog 45 #[pv c i a A n k] w fun e w' => e = .returned (.tuple #[.string ⟨#[]⟩, .int .i64 1]) ∧ Below w.heap.size w w' := by
  have HA := Lib.hid (fun o : Obj => hA.below (Bx.box_below w o))
  clear hA
  have hT' : (4076 : Int) < T.size := by omega
  go_enter Tryd.func45, Tryd.ntmps45
  go_wp2_with fail
  refine (HB.out _ (HA.out _)).mono ?_; rintro e w1 ⟨rfl, hb1⟩
  have bel := Lib.hid (then_below (box_below w (po c i a A n k)) hb1)
  clear hb1
  go_wp2_with fail
  go_ret2
  exact ⟨rfl, bel.out⟩

set_option maxHeartbeats 1000000 in
theorem bytes_head (c i : Int) (a : ByteArray) (A : Option Addr) (n k : Nat) (T : ByteArray) (l : List At) (w : World) (hA : Ats w A l) (hT : T.size ≤ 4076)
    (HB : Hid (∀ w, Ats w A l → Calls Tryd.prog 64 #[.slice A n k] w fun e w' => e = .returned (.tuple #[.string T, .int .i64 0]) ∧ Below w.heap.size w w'))
    (HH : Hid (∀ w, Calls Tryd.prog 65 #[pv c i a A n k] w fun e w' => e = .returned (.bool false) ∧ Below w.heap.size w w')) :
    Calls Tryd.prog 45 #[pv c i a A n k] w fun e w' => e = .returned (.tuple #[.string ⟨#[]⟩, .int .i64 1]) ∧ Below w.heap.size w w' := by
  have HA := Lib.hid (fun o : Obj => hA.below (Bx.box_below w o))
  clear hA
  have hT' : ¬ (4076 : Int) < T.size := by omega
  go_enter Tryd.func45, Tryd.ntmps45
  go_wp2_with fail
  refine (HB.out _ (HA.out _)).mono ?_; rintro e w1 ⟨rfl, hb1⟩
  have bel := Lib.hid (then_below (box_below w (po c i a A n k)) hb1)
  obtain ⟨c0, c1, c2, c3⟩ := ((Blk.new w (pl c i a A n k) 24).keep hb1).all4
  clear hb1
  go_wp2_with fail
  refine (HH.out _).mono ?_; rintro e w2 ⟨rfl, hb2⟩
  have bel2 := Lib.hid (then_below bel.out hb2)
  clear hb2
  go_wp2_with fail
  go_ret2
  exact ⟨rfl, bel2.out⟩

set_option maxHeartbeats 2000000 in
theorem bytes_right (c i : Nat) (a : ByteArray) (A : Option Addr) (n k : Nat) (T C I L : ByteArray) (l : List At) (w : World) (hA : Ats w A l) (hT : T.size ≤ 4076) (hc : c < 256) (hi : i < 256) (ha : a.size = 16) (zC : C.size = 1) (zI : I.size = 1) (zL : L.size = 2)
    (HB : Hid (∀ w, Ats w A l → Calls Tryd.prog 64 #[.slice A n k] w fun e w' => e = .returned (.tuple #[.string T, .int .i64 0]) ∧ Below w.heap.size w w'))
    (HH : Hid (∀ w, Calls Tryd.prog 65 #[pv c i a A n k] w fun e w' => e = .returned (.bool true) ∧ Below w.heap.size w w'))
    (HC : Hid (∀ w, Calls Tryd.prog 66 #[.int .u64 c, .int .i64 1] w fun e w' => e = .returned (.string C) ∧ Below w.heap.size w w'))
    (HI : Hid (∀ w, Calls Tryd.prog 66 #[.int .u64 i, .int .i64 1] w fun e w' => e = .returned (.string I) ∧ Below w.heap.size w w'))
    (HL : Hid (∀ w, Calls Tryd.prog 66 #[.int .u64 (20 + (T.size : Int)), .int .i64 2] w fun e w' => e = .returned (.string L) ∧ Below w.heap.size w w')) :
    Calls Tryd.prog 45 #[pv c i a A n k] w fun e w' => e = .returned (.tuple #[.string (C ++ I ++ L ++ a ++ T), .int .i64 0]) ∧ Below w.heap.size w w' := by
  have HA := Lib.hid (fun o : Obj => hA.below (Bx.box_below w o))
  clear hA
  have hT' : ¬ (4076 : Int) < T.size := by omega
  have z1 : ¬ (20 + T.size > 9223372036854775807) := by omega
  have q0 : IntKind.i64.wrap (20 + (T.size : Int)) = 20 + (T.size : Int) := by rw [IntKind.wrap_i64]; omega
  have q1 : IntKind.u64.wrap (c : Int) = c := by rw [IntKind.wrap_u64]; omega
  have q2 : IntKind.u64.wrap (i : Int) = i := by rw [IntKind.wrap_u64]; omega
  have q3 : IntKind.u64.wrap (20 + (T.size : Int)) = 20 + (T.size : Int) := by rw [IntKind.wrap_u64]; omega
  go_enter Tryd.func45, Tryd.ntmps45
  go_wp2_with fail
  refine (HB.out _ (HA.out _)).mono ?_; rintro e w1 ⟨rfl, hb1⟩
  have bel := Lib.hid (then_below (box_below w (po c i a A n k)) hb1)
  have B1 := Lib.hid ((Blk.new w (pl c i a A n k) 24).keep hb1)
  obtain ⟨c0, c1, c2, c3⟩ := B1.out.all4
  clear hb1
  go_wp2_with fail
  refine (HH.out _).mono ?_; rintro e w2 ⟨rfl, hb2⟩
  have bel2 := Lib.hid (then_below bel.out hb2)
  have B2 := Lib.hid (B1.out.keep hb2)
  clear hb2 c0 c1 c2 c3 B1 bel
  go_wp2_with fail
  refine (HL.out _).mono ?_; rintro e w3 ⟨rfl, hb3⟩
  have bel3 := then_below bel2.out hb3
  obtain ⟨c0, c1, c2, c3⟩ := (B2.out.keep hb3).all4
  clear hb3 B2 bel2
  go_wp2_with fail
  go_region_held3 (fun w' => w'.cell? ⟨w.heap.size, 0, none⟩ = some (.int .i64 c) ∧ w'.cell? ⟨w.heap.size, 1, none⟩ = some (.int .i64 i) ∧ w'.cell? ⟨w.heap.size, 2, none⟩ = some (.string a))
    (first | go_keep | (go_split_ands; exact ⟨keep_cell (by assumption) (by assumption), keep_cell (by assumption) (by assumption), keep_cell (by assumption) (by assumption)⟩))
    (first | (go_at_call 66; with_reducible refine (HC.out _).mono ?_; rintro e w4 ⟨rfl, hb4⟩) | (go_at_call 66; with_reducible refine (HI.out _).mono ?_; rintro e w5 ⟨rfl, hb5⟩))
  go_wp2
  go_ret2
  exact ⟨rfl, then_below (bel_drew bel3 hb4) hb5⟩

theorem not_right {c i : Int} {a : ByteArray} {l : List At} (h : rightP c i a l = false) : txtP c i a l = ⟨#[]⟩ ∧ errP c i a l = 1 := by
  unfold txtP errP
  rw [if_neg (by rw [h]; decide), if_neg (by rw [h]; decide)]
  exact ⟨rfl, rfl⟩

theorem is_right {c i : Int} {a : ByteArray} {l : List At} (h : rightP c i a l = true) : txtP c i a l = wireP c i a l ∧ errP c i a l = 0 := by
  unfold txtP errP
  rw [if_pos h, if_pos h]
  exact ⟨rfl, rfl⟩

theorem bytesT_le (l : List At) : (bytesT l).size ≤ 20000 := by
  unfold bytesT
  split
  · rename_i h
    obtain ⟨h1, h2⟩ := bytesE_zero h
    have : (wireA l).length ≤ 255 * l.length := by
      clear h h1
      induction l with
      | nil => exact Nat.le_refl _
      | cons a l ih =>
        rw [List.all_cons, Bool.and_eq_true] at h2
        have h3 := ih h2.2
        have h4 := ((Att.right_iff a).1 h2.1).2.2
        show (oneW a ++ wireA l).length ≤ _
        rw [List.length_append, oneW_length, List.length_cons]
        omega
    show (wireA l).toArray.size ≤ _
    rw [List.size_toArray]
    omega
  · exact Nat.zero_le _

theorem bytes_any (c i : Int) (a : ByteArray) (ha : a.size ≤ maxLen) (l : List At) (hl : l.length ≤ maxLen) (A : Option Addr) (k : Nat) (w : World) (hA : Ats w A l) :
    Calls Tryd.prog 45 #[pv c i a A l.length k] w fun e w' => e = .returned (.tuple #[.string (txtP c i a l), .int .i64 (errP c i a l)]) ∧ Below w.heap.size w w' := by
  have HB := Lib.hid (fun w hA => Att.bytes_any l hl A k w hA)
  by_cases h0 : bytesE l = 0
  · rw [h0] at HB
    have hT := bytesT_le l
    by_cases h1 : 4076 < (bytesT l).size
    · obtain ⟨e1, e2⟩ := not_right (c := c) (i := i) (a := a) (l := l) (by rw [right_eq, decide_eq_false (by omega), Bool.and_false])
      rw [e1, e2]
      exact bytes_big c i a A l.length k _ l w hA h1 hT HB
    · have HH := Lib.hid (fun w => head_any c i a ha A l.length k w)
      cases hb : headB c i a with
      | false =>
        rw [hb] at HH
        obtain ⟨e1, e2⟩ := not_right (c := c) (i := i) (a := a) (l := l) (by rw [right_eq, hb]; rfl)
        rw [e1, e2]
        exact bytes_head c i a A l.length k _ l w hA (by omega) HB HH
      | true =>
        rw [hb] at HH
        have hr : rightP c i a l = true := by rw [right_eq, hb, decide_eq_true ⟨h0, by omega⟩]; rfl
        obtain ⟨e1, e2⟩ := is_right hr
        obtain ⟨⟨⟨hc, hc2⟩, ⟨hi, hi2⟩, ha2⟩, _⟩ := right_iff.1 hr
        rw [e1, e2]
        unfold wireP
        obtain ⟨x, rfl⟩ := Int.eq_ofNat_of_zero_le (show 0 ≤ c by omega)
        obtain ⟨y, rfl⟩ := Int.eq_ofNat_of_zero_le (show 0 ≤ i by omega)
        rw [Int.toNat_natCast, Int.toNat_natCast]
        exact bytes_right x y a A l.length k _ _ _ _ l w hA (by omega) (by omega) (by omega) ha2 (num_size _ _) (num_size _ _) (num_size _ _) HB HH
          (Lib.hid fun w => put_any x (by omega) 1 w) (Lib.hid fun w => put_any y (by omega) 1 w) (Lib.hid fun w => put_any (20 + (bytesT l).size) (by omega) 2 w)
  · obtain ⟨e1, e2⟩ := not_right (c := c) (i := i) (a := a) (l := l) (by rw [right_eq, decide_eq_false (by omega), Bool.and_false])
    rw [e1, e2]
    exact bytes_err c i a A l.length k _ _ l w hA (by simp [h0]) HB

set_option maxHeartbeats 1000000 in
theorem right_any (c i : Int) (a : ByteArray) (ha : a.size ≤ maxLen) (l : List At) (hl : l.length ≤ maxLen) (A : Option Addr) (k : Nat) (w : World) (hA : Ats w A l) :
    Calls Tryd.prog 35 #[pv c i a A l.length k] w fun e w' => e = .returned (.bool (rightP c i a l)) ∧ Below w.heap.size w w' := by
  have HB := Lib.hid (fun w hA => bytes_any c i a ha l hl A k w hA)
  have HA := Lib.hid (fun o : Obj => hA.below (Bx.box_below w o))
  cases hr : rightP c i a l with
  | false =>
    rw [(not_right hr).1, (not_right hr).2] at HB
    go_enter Tryd.func35, Tryd.ntmps35
    go_wp2_with fail
    refine (HB.out _ (HA.out _)).mono ?_; rintro e w1 ⟨rfl, hb1⟩
    have bel := Lib.hid (then_below (box_below w (po c i a A l.length k)) hb1)
    clear hb1
    go_wp2_with fail
    go_ret
    exact ⟨rfl, bel.out⟩
  | true =>
    rw [(is_right hr).1, (is_right hr).2] at HB
    go_enter Tryd.func35, Tryd.ntmps35
    go_wp2_with fail
    refine (HB.out _ (HA.out _)).mono ?_; rintro e w1 ⟨rfl, hb1⟩
    have bel := Lib.hid (then_below (box_below w (po c i a A l.length k)) hb1)
    clear hb1
    go_wp2_with fail
    go_ret
    exact ⟨rfl, bel.out⟩

set_option maxHeartbeats 1000000 in
theorem rright_head (c i : Int) (a : ByteArray) (ha : a.size ≤ maxLen) (A : Option Addr) (n k : Nat) (w : World) (hb : headB c i a = false) :
    Calls Tryd.prog 38 #[pv c i a A n k] w fun e w' => e = .returned (.bool false) ∧ Below w.heap.size w w' := by
  have ha' : a.size ≤ 9223372036854775807 := ha
  clear ha
  rw [headB, decide_eq_false_iff_not] at hb
  rcases (show c < 1 ∨ (1 ≤ c ∧ 255 < c) ∨ ((1 ≤ c ∧ c ≤ 255) ∧ i < 0) ∨ ((1 ≤ c ∧ c ≤ 255) ∧ (0 ≤ i ∧ 255 < i)) ∨ (((1 ≤ c ∧ c ≤ 255) ∧ (0 ≤ i ∧ i ≤ 255)) ∧ a.size ≠ 16) by omega) with h | ⟨h, h1⟩ | ⟨⟨h, h1⟩, h2⟩ | ⟨⟨h, h1⟩, h2, h3⟩ | ⟨⟨⟨h, h1⟩, h2, h3⟩, h4⟩ <;>
  · clear hb
    try have h5 : ((a.size : Int) != 16) = true := by simp; omega
    go_enter Tryd.func38, Tryd.ntmps38
    go_wp2
    go_ret
    exact ⟨rfl, Bx.box_below _ _⟩

set_option maxHeartbeats 1000000 in
theorem rright_head_ok (c i : Int) (a : ByteArray) (A : Option Addr) (n k : Nat) (T : ByteArray) (E : Int) (l : List At) (w : World) (hA : Ats w A l) (hT2 : T.size ≤ 20000) (hb : headB c i a = true)
    (HB : Hid (∀ w, Ats w A l → Calls Tryd.prog 47 #[.slice A n k] w fun e w' => e = .returned (.tuple #[.string T, .int .i64 E]) ∧ Below w.heap.size w w')) :
    Calls Tryd.prog 38 #[pv c i a A n k] w fun e w' => e = .returned (.bool (decide (E = 0 ∧ T.size ≤ 4076))) ∧ Below w.heap.size w w' := by
  have HA := Lib.hid (fun o : Obj => hA.below (Bx.box_below w o))
  clear hA
  rw [headB, decide_eq_true_eq] at hb
  obtain ⟨⟨hc, hc2⟩, ⟨hi, hi2⟩, ha⟩ := hb
  rcases (show (E ≠ 0) ∨ (E = 0 ∧ 4076 < T.size) ∨ (E = 0 ∧ T.size ≤ 4076) by omega) with hE | ⟨rfl, hT⟩ | ⟨rfl, hT⟩
  · have hE1 : (E == 0) = false := by simp [hE]
    go_enter Tryd.func38, Tryd.ntmps38
    go_wp2_with fail
    refine (HB.out _ (HA.out _)).mono ?_; rintro e w1 ⟨rfl, hb1⟩
    have bel := Lib.hid (then_below (box_below w (po c i a A n k)) hb1)
    clear hb1
    go_wp2_with fail
    go_ret
    exact ⟨ret_bool (by rw [Bool.eq_iff_iff]; simp <;> omega), bel.out⟩
  · have hT' : ¬ (T.size : Int) ≤ 4076 := by omega
    go_enter Tryd.func38, Tryd.ntmps38
    go_wp2_with fail
    refine (HB.out _ (HA.out _)).mono ?_; rintro e w1 ⟨rfl, hb1⟩
    have bel := Lib.hid (then_below (box_below w (po c i a A n k)) hb1)
    clear hb1
    go_wp2_with fail
    go_ret
    exact ⟨ret_bool (by rw [Bool.eq_iff_iff]; simp <;> omega), bel.out⟩
  · have hT' : (T.size : Int) ≤ 4076 := by omega
    go_enter Tryd.func38, Tryd.ntmps38
    go_wp2_with fail
    refine (HB.out _ (HA.out _)).mono ?_; rintro e w1 ⟨rfl, hb1⟩
    have bel := Lib.hid (then_below (box_below w (po c i a A n k)) hb1)
    clear hb1
    go_wp2_with fail
    go_ret
    exact ⟨ret_bool (by rw [Bool.eq_iff_iff]; simp <;> omega), bel.out⟩

theorem rright_any (c i : Int) (a : ByteArray) (ha : a.size ≤ maxLen) (l : List At) (hl : l.length ≤ maxLen) (A : Option Addr) (k : Nat) (w : World) (hA : Ats w A l) :
    Calls Tryd.prog 38 #[pv c i a A l.length k] w fun e w' => e = .returned (.bool (rightP c i a l)) ∧ Below w.heap.size w w' := by
  rw [right_eq]
  cases hb : headB c i a with
  | false => exact rright_head c i a ha A _ k w hb
  | true => exact rright_head_ok c i a A _ k _ _ l w hA (bytesT_le l) hb (Lib.hid (fun w hA => Att.rbytes_any l hl A k w hA))

set_option maxHeartbeats 1000000 in
theorem rbytes_wrong (c i : Int) (a : ByteArray) (A : Option Addr) (n k : Nat) (l : List At) (w : World) (hA : Ats w A l)
    (HR : Hid (∀ w, Ats w A l → Calls Tryd.prog 38 #[pv c i a A n k] w fun e w' => e = .returned (.bool false) ∧ Below w.heap.size w w')) :
    Calls Tryd.prog 26 #[pv c i a A n k] w fun e w' => e = .returned (.tuple #[.string ⟨#[]⟩, .int .i64 1]) ∧ Below w.heap.size w w' := by
  have HA := Lib.hid (fun o : Obj => hA.below (Bx.box_below w o))
  clear hA
  go_enter Tryd.func26, Tryd.ntmps26
  go_wp2_with fail
  refine (HR.out _ (HA.out _)).mono ?_; rintro e w1 ⟨rfl, hb1⟩
  have bel := Lib.hid (then_below (box_below w (po c i a A n k)) hb1)
  clear hb1
  go_wp2_with fail
  go_ret2
  exact ⟨rfl, bel.out⟩

set_option maxHeartbeats 2000000 in
theorem rbytes_right (c i : Nat) (a : ByteArray) (A : Option Addr) (n k : Nat) (T C I L : ByteArray) (E : Int) (l : List At) (w : World) (hA : Ats w A l) (hT : T.size ≤ 4076) (hc : c < 256) (hi : i < 256) (ha : a.size = 16) (zC : C.size = 1) (zI : I.size = 1) (zL : L.size = 2)
    (HR : Hid (∀ w, Ats w A l → Calls Tryd.prog 38 #[pv c i a A n k] w fun e w' => e = .returned (.bool true) ∧ Below w.heap.size w w'))
    (HB : Hid (∀ w, Ats w A l → Calls Tryd.prog 47 #[.slice A n k] w fun e w' => e = .returned (.tuple #[.string T, .int .i64 E]) ∧ Below w.heap.size w w'))
    (HC : Hid (∀ w, Calls Tryd.prog 48 #[.int .u64 c, .int .i64 1] w fun e w' => e = .returned (.string C) ∧ Below w.heap.size w w'))
    (HI : Hid (∀ w, Calls Tryd.prog 48 #[.int .u64 i, .int .i64 1] w fun e w' => e = .returned (.string I) ∧ Below w.heap.size w w'))
    (HL : Hid (∀ w, Calls Tryd.prog 48 #[.int .u64 (20 + (T.size : Int)), .int .i64 2] w fun e w' => e = .returned (.string L) ∧ Below w.heap.size w w')) :
    Calls Tryd.prog 26 #[pv c i a A n k] w fun e w' => e = .returned (.tuple #[.string (C ++ I ++ L ++ a ++ T), .int .i64 0]) ∧ Below w.heap.size w w' := by
  have HA := Lib.hid (fun o : Obj => hA.below (Bx.box_below w o))
  clear hA
  have z1 : ¬ (20 + T.size > 9223372036854775807) := by omega
  have q0 : IntKind.i64.wrap (20 + (T.size : Int)) = 20 + (T.size : Int) := by rw [IntKind.wrap_i64]; omega
  have q1 : IntKind.u64.wrap (c : Int) = c := by rw [IntKind.wrap_u64]; omega
  have q2 : IntKind.u64.wrap (i : Int) = i := by rw [IntKind.wrap_u64]; omega
  have q3 : IntKind.u64.wrap (20 + (T.size : Int)) = 20 + (T.size : Int) := by rw [IntKind.wrap_u64]; omega
  go_enter Tryd.func26, Tryd.ntmps26
  go_wp2_with fail
  refine (HR.out _ (HA.out _)).mono ?_; rintro e w1 ⟨rfl, hb1⟩
  have bel := Lib.hid (then_below (box_below w (po c i a A n k)) hb1)
  have B1 := Lib.hid ((Blk.new w (pl c i a A n k) 24).keep hb1)
  have A1 := Lib.hid ((HA.out (po c i a A n k)).below hb1)
  obtain ⟨c0, c1, c2, c3⟩ := B1.out.all4
  clear hb1
  go_wp2_with fail
  refine (HB.out _ A1.out).mono ?_; rintro e w2 ⟨rfl, hb2⟩
  have bel2 := then_below bel.out hb2
  have B2 := Lib.hid (B1.out.keep hb2)
  clear hb2 c0 c1 c2 c3 B1 bel
  obtain ⟨c0, c1, c2, c3⟩ := B2.out.all4
  clear B2
  go_wp2_with fail
  go_region_held3 (fun w' => w'.cell? ⟨w.heap.size, 0, none⟩ = some (.int .i64 c) ∧ w'.cell? ⟨w.heap.size, 1, none⟩ = some (.int .i64 i) ∧ w'.cell? ⟨w.heap.size, 2, none⟩ = some (.string a))
    (first | go_keep | (go_split_ands; exact ⟨keep_cell (by assumption) (by assumption), keep_cell (by assumption) (by assumption), keep_cell (by assumption) (by assumption)⟩))
    (first | (go_at_call 48; with_reducible refine (HC.out _).mono ?_; rintro e w4 ⟨rfl, hb4⟩) | (go_at_call 48; with_reducible refine (HI.out _).mono ?_; rintro e w5 ⟨rfl, hb5⟩) | (go_at_call 48; with_reducible refine (HL.out _).mono ?_; rintro e w6 ⟨rfl, hb6⟩))
  go_wp2
  go_ret2
  exact ⟨rfl, then_below (then_below (bel_drew bel2 hb4) hb5) hb6⟩

theorem rbytes_any (c i : Int) (a : ByteArray) (ha : a.size ≤ maxLen) (l : List At) (hl : l.length ≤ maxLen) (A : Option Addr) (k : Nat) (w : World) (hA : Ats w A l) :
    Calls Tryd.prog 26 #[pv c i a A l.length k] w fun e w' => e = .returned (.tuple #[.string (txtP c i a l), .int .i64 (errP c i a l)]) ∧ Below w.heap.size w w' := by
  have HR := Lib.hid (fun w hA => rright_any c i a ha l hl A k w hA)
  have HB := Lib.hid (fun w hA => Att.rbytes_any l hl A k w hA)
  cases hr : rightP c i a l with
  | false =>
    rw [hr] at HR
    rw [(not_right hr).1, (not_right hr).2]
    exact rbytes_wrong c i a A _ k l w hA HR
  | true =>
    rw [hr] at HR
    obtain ⟨⟨⟨hc, hc2⟩, ⟨hi, hi2⟩, ha2⟩, h0, h1⟩ := right_iff.1 hr
    rw [(is_right hr).1, (is_right hr).2]
    unfold wireP
    obtain ⟨x, rfl⟩ := Int.eq_ofNat_of_zero_le (show 0 ≤ c by omega)
    obtain ⟨y, rfl⟩ := Int.eq_ofNat_of_zero_le (show 0 ≤ i by omega)
    rw [Int.toNat_natCast, Int.toNat_natCast]
    exact rbytes_right x y a A l.length k _ _ _ _ _ l w hA (by omega) (by omega) (by omega) ha2 (num_size _ _) (num_size _ _) (num_size _ _) HR HB
      (Lib.hid fun w => rput_any x (by omega) 1 w) (Lib.hid fun w => rput_any y (by omega) 1 w) (Lib.hid fun w => rput_any (20 + (bytesT l).size) (by omega) 2 w)

end Pac
end Go.Proofs.YtaeeonohakkgbaaDoor
