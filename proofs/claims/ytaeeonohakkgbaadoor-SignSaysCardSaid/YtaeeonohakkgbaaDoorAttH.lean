/-
  What attr.written, and attr.Bytes, write of any attributes.
-/
import Derived.Test.YtaeeonohakkgbaaDoorAttB
import Derived.Test.YtaeeonohakkgbaaDoorAttShelf
import Derived.IntWalk
namespace Go.Proofs.YtaeeonohakkgbaaDoor
open Go.RowKit
namespace Att
open Oct

/-- An attribute that stands in a block of its own. -/
def Boxed (w : World) (k : Nat) (x : At) : Prop := w.heap[k]? = some (.cells #[.int .i64 x.1, .string x.2] 39 (0, 0))

theorem Boxed.new (w : World) (x : At) : Boxed (w.alloc (Obj.cells #[.int .i64 x.1, .string x.2] 39)) w.heap.size x := Go.heap_alloc_new w _

theorem Boxed.lt {w : World} {k : Nat} {x : At} (h : Boxed w k x) : k < w.heap.size := (Array.getElem?_eq_some_iff.1 h).1

theorem Boxed.below {w w' : World} {k : Nat} {x : At} (h : Boxed w k x) (hb : Below w.heap.size w w') : Boxed w' k x := (hb.block k h.lt).trans h

theorem Boxed.c0 {w : World} {k : Nat} {x : At} (h : Boxed w k x) : w.cell? ⟨k, 0, none⟩ = some (.int .i64 x.1) := by rw [Lib.cell_of_heap h]; rfl
theorem Boxed.c1 {w : World} {k : Nat} {x : At} (h : Boxed w k x) : w.cell? ⟨k, 1, none⟩ = some (.string x.2) := by rw [Lib.cell_of_heap h]; rfl

theorem build_keep {T e : TypeId} {B b : Nat} {bs : List Value} {w w' : World} (h : Lib.IsBuilderF T e B b bs w) (hb : Below w.heap.size w w') : Lib.IsBuilderF T e B b bs w' := by
  have k : ∀ p, Lib.BuilderAtF T e B b p bs w → Lib.BuilderAtF T e B b p bs w' := fun p h => by
    have hlt := h.lt
    obtain ⟨hB, v, h1, h2, h3⟩ := h
    exact ⟨hB, v, (hb.block b hlt).trans h1, h2.kept (row := none) ⟨hb.os, hb.tape, hb.output, hb.size, fun k hk _ => hb.block k hk⟩ (by cases v.ownBlock <;> simp), h3⟩
  exact h.elim (fun h => .inl (k _ h)) (fun h => .inr (k _ h))

theorem ws_any (B : Nat) (l : List UInt8) (s : ByteArray) (w : World) (h : Lib.IsBuilderF 68 5 B B (Lib.byteCells l) w) (hlen : l.length + s.size ≤ 140737488355328) (hBw : B ≤ w.heap.size) :
    Calls Tryd.prog 61 #[.pointer (some ⟨B, 0, none⟩), .string s] w fun e w' => e = .returned (.tuple #[.int .i64 s.size, .nilIface]) ∧ Lib.IsBuilderF 68 5 B B (Lib.byteCells (l ++ s.data.toList)) w' ∧ Below B w w' ∧ ∀ k x, k ≠ B → Boxed w k x → Boxed w' k x := by
  refine (Tryd.WriteString_any B B (Lib.byteCells l) s w h (by rw [Lib.byteCells_length]; exact hlen) hBw).mono ?_
  rintro e w' ⟨h1, h2, h3, h4⟩
  refine ⟨h1, .inr ?_, h3, fun k x hk hx => h4 k _ hx (fun e => hk (Option.some.inj e)) (fun c fz e => by injection e with _ e2 _; cases e2)⟩
  rw [Lib.strCells_eq] at h2
  have e : Lib.byteCells (l ++ s.data.toList) = Lib.byteCells l ++ Lib.byteCells s.data.toList := by simp [Lib.byteCells]
  rw [e]
  exact h2

theorem new_ats (w : World) (x : At) : Ats (w.alloc (Obj.cells #[.int .i64 x.1, .string x.2] 39)) (some ⟨w.heap.size, 0, none⟩) [x] := by
  intro j z hj
  match j, hj with
  | 0, hj =>
    cases hj
    exact ⟨_, _, rfl, by simp, (Boxed.new w x).c0, (Boxed.new w x).c1⟩

theorem lgA_one (x : At) (h : x.2.size ≤ 253) : lgA [x] = ((2 + x.2.size : Nat) : Int) := by
  have e : lgA [x] = wrap64 (0 + wrap64 (2 + x.2.size)) := by unfold lgA; rw [List.foldl_cons, List.foldl_nil]
  have e1 : wrap64 (2 + x.2.size) = 2 + x.2.size := IntWalk.wrap64_in _ (by omega)
  rw [e, e1, IntWalk.wrap64_in _ (by omega)]
  omega

theorem length_one (x : At) (h : x.2.size ≤ 253) (w : World) :
    Calls Tryd.prog 92 #[.slice (some ⟨w.heap.size, 0, none⟩) 1 1] (w.alloc (Obj.cells #[.int .i64 x.1, .string x.2] 39)) fun e w' => e = .returned (.int .i64 ((2 + x.2.size : Nat) : Int)) ∧ Below w.heap.size w w' := by
  have hL := length_any [x] (show 1 ≤ maxLen by decide) (some ⟨w.heap.size, 0, none⟩) 1 (w.alloc (Obj.cells #[.int .i64 x.1, .string x.2] 39)) (new_ats w x)
  rw [lgA_one x h] at hL
  exact hL.mono fun _ _ ⟨h1, h2⟩ => ⟨h1, Bx.then_below (Bx.box_below _ _) h2⟩

theorem put_one (n : Nat) (hn : n ≤ 255) (w : World) :
    Calls Tryd.prog 66 #[.int .u64 n, .int .i64 1] w fun e w' => e = .returned (.string ⟨#[UInt8.ofNat n]⟩) ∧ Below w.heap.size w w' :=
  put_any n (by omega) 1 w

theorem wireA_take (l : List At) (k : Nat) (h : k < l.length) : wireA (l.take (k + 1)) = wireA (l.take k) ++ oneW l[k] := by
  rw [List.take_succ_eq_append_getElem h]
  unfold wireA
  rw [List.map_append, List.flatten_append]
  simp

set_option maxHeartbeats 2000000 in
theorem written_any (l : List At) (hl : l.length ≤ 64) (hr : l.all rightA = true) (A : Option Addr) (c : Nat) (w : World) (hA : Ats w A l) :
    Calls Tryd.prog 87 #[.slice A l.length c] w fun e w' => e = .returned (.string ⟨(wireA l).toArray⟩) ∧ Below w.heap.size w w' := by
  have HA := Lib.hid hA
  clear hA
  have HW := Lib.hid ws_any
  have HP := Lib.hid put_one
  have HLN := Lib.hid length_one
  have HRR := Lib.hid (fun k (hk : k < l.length) => (right_iff l[k]).1 (List.all_eq_true.1 hr _ (List.getElem_mem hk)))
  go_enter Tryd.func87, Tryd.ntmps87
  go_wp2
  have BX := Lib.hid (Bx.box_below w (Obj.cells #[.pointer none, .slice none 0 0] 68))
  have HI0 := Lib.hid (Lib.IsBuilderF.of (Lib.fresh_isBuilder 68 5 w))
  go_loopw [5, 9] (fun _ ix wr => ∃ k : Nat, k ≤ l.length ∧ ix = .int .i64 k ∧ Aside ((wireA (l.take k)).length ≤ 255 * k) ∧ Aside (Lib.IsBuilderF 68 5 w.heap.size w.heap.size (Lib.byteCells (wireA (l.take k))) wr) ∧ Aside (Below w.heap.size w wr)) (fun _ ix _ => l.length - (intOf ix).toNat)
  case atStart => exact ⟨0, Nat.zero_le _, rfl, Nat.zero_le _, HI0.out, BX.out⟩
  case round =>
    obtain ⟨k, hk, rfl, HZ, HI, HB⟩ := hrel
    by_cases hlt : k < l.length
    · obtain ⟨b, o, rfl, _, c0, c1⟩ := (HA.out.below HB.out).at hlt
      have HN := Lib.hid (wireA_take l k hlt)
      obtain ⟨r1, r2, r3⟩ := HRR.out k hlt
      have hsz : w.heap.size < wr.heap.size := HI.out.elim (fun h => h.lt) (fun h => h.lt)
      have HP2 := Lib.hid (fun k (hk : k < l.length) (w : World) => put_one (2 + l[k].2.size) (by have := HRR.out k hk; omega) w)
      replace HP2 := Lib.hid (HP2.out k hlt)
      have HO := Lib.hid (show oneW l[k] = UInt8.ofNat l[k].1.toNat :: UInt8.ofNat (2 + l[k].2.size) :: l[k].2.data.toList from rfl)
      generalize wireA (l.take k) = s at *
      generalize l[k] = x at *
      obtain ⟨x1, x2⟩ := x
      simp only at c0 c1 r1 r2 r3 HP2 HO
      generalize UInt8.ofNat (2 + x2.size) = b2 at *
      obtain ⟨n, rfl⟩ := Int.eq_ofNat_of_zero_le (show 0 ≤ x1 by omega)
      have HX0 := Lib.hid (Boxed.new wr ((n : Int), x2))
      have HI0 := Lib.hid (build_keep HI.out (Bx.box_below wr (Obj.cells #[.int .i64 n, .string x2] 39)))
      have HB0 := Lib.hid (Bx.bel_box HB.out (Obj.cells #[.int .i64 n, .string x2] 39))
      clear HI HB
      go_wp2_with fail
      refine (HP.out n (by omega) _).mono ?_; rintro e w1 ⟨rfl, hb1⟩
      have HX1 := Lib.hid (HX0.out.below hb1)
      have HI1 := Lib.hid (build_keep HI0.out hb1)
      have HB1 := Lib.hid (Bx.then_below HB0.out hb1)
      have hs1 : w.heap.size ≤ w1.heap.size := HB1.out.size
      clear HX0 HI0 HB0 hb1
      go_wp2_with fail
      refine (HW.out _ _ _ _ HI1.out (by show s.length + 1 ≤ _; have := HZ.out; omega) hs1).mono ?_; rintro e w2 ⟨rfl, hi2, hb2, hk2⟩
      have HX2 := Lib.hid (hk2 _ _ (by omega) HX1.out)
      have HI2 := Lib.hid hi2
      have HB2 := Lib.hid (HB1.out.trans hb2)
      have d0 := HX2.out.c0
      have d1 := HX2.out.c1
      simp only at d0 d1
      clear HX1 HI1 HB1 hi2 hb2 hk2
      go_wp2_with fail
      refine (HLN.out ((n : Int), x2) r3 _).mono ?_; rintro e w3 ⟨rfl, hb3⟩
      have HX3 := Lib.hid (HX2.out.below hb3)
      have HI3 := Lib.hid (build_keep HI2.out hb3)
      have HB3 := Lib.hid (Bx.then_below HB2.out hb3)
      clear HX2 HI2 HB2 hb3 d0 d1 hs1
      go_wp2_with fail
      refine (HP2.out _).mono ?_; rintro e w4 ⟨rfl, hb4⟩
      have HX4 := Lib.hid (HX3.out.below hb4)
      have HI4 := Lib.hid (build_keep HI3.out hb4)
      have HB4 := Lib.hid (Bx.then_below HB3.out hb4)
      clear HX3 HI3 HB3 hb4
      go_wp2_with fail
      refine (HW.out _ _ _ _ HI4.out (by show (s ++ [_]).length + 1 ≤ _; rw [List.length_append]; have := HZ.out; simp; omega) HB4.out.size).mono ?_; rintro e w5 ⟨rfl, hi5, hb5, hk5⟩
      have HX5 := Lib.hid (hk5 _ _ (by omega) HX4.out)
      have HI5 := Lib.hid hi5
      have HB5 := Lib.hid (HB4.out.trans hb5)
      have d1 := HX5.out.c1
      simp only at d1
      clear HX4 HI4 HB4 hi5 hb5 hk5
      go_wp2_with fail
      refine (HW.out _ _ _ _ HI5.out (by show ((s ++ [_]) ++ [_]).length + x2.size ≤ _; rw [List.length_append, List.length_append]; have := HZ.out; simp; omega) HB5.out.size).mono ?_; rintro e w6 ⟨rfl, hi6, hb6, hk6⟩
      have HI6 := Lib.hid hi6
      have HB6 := Lib.hid (HB5.out.trans hb6)
      clear HX5 HI5 HB5 hi6 hb6 hk6 d1
      have HE : Hid (((s ++ [UInt8.ofNat n]) ++ [b2]) ++ x2.data.toList = s ++ oneW ((n : Int), x2)) := Lib.hid (by rw [HO.out, Int.toNat_natCast]; simp)
      have HZ2 : Hid ((s ++ oneW ((n : Int), x2)).length ≤ 255 * (k + 1)) := Lib.hid (by rw [List.length_append, oneW_length]; have := HZ.out; show s.length + (2 + x2.size) ≤ _; omega)
      go_wp2
      go_roundw
      case rel => exact ⟨k + 1, by omega, by go_num, show Aside _ from (by rw [HN.out]; exact HZ2.out), show Aside _ from (by rw [HN.out, ← HE.out]; exact HI6.out), HB6.out⟩
      case measure => simp [intOf]; omega
    · have HS := Lib.hid (fun wr h h2 => Tryd.String_any w.heap.size w.heap.size (wireA l) wr h h2)
      have HI2 := HI.out
      rw [List.take_of_length_le (by omega)] at HI2
      have HI3 := Lib.hid HI2
      clear HI2 HI
      go_wp2_with fail
      refine (HS.out _ HI3.out HB.out.size).mono ?_; rintro e w6 ⟨rfl, hb6⟩
      have HB6 := Lib.hid (HB.out.trans hb6)
      go_wp2_with fail
      go_ret
      exact ⟨rfl, HB6.out⟩

theorem bytes_any (l : List At) (hl : l.length ≤ maxLen) (A : Option Addr) (c : Nat) (w : World) (hA : Ats w A l) :
    Calls Tryd.prog 64 #[.slice A l.length c] w fun e w' => e = .returned (.tuple #[.string (bytesT l), .int .i64 (bytesE l)]) ∧ Below w.heap.size w w' := by
  have hl' : l.length ≤ 9223372036854775807 := hl
  by_cases h1 : 64 < l.length
  · have e1 : bytesE l = 4 := if_pos h1
    have e2 : bytesT l = ⟨#[]⟩ := by unfold bytesT; rw [e1]; rfl
    rw [e1, e2]
    go_enter Tryd.func64, Tryd.ntmps64
    go_wp2
    go_ret2
    exact ⟨rfl, Below.refl _ _⟩
  · have HR := Lib.hid (allRight_any l hl A c w hA)
    by_cases h2 : l.all rightA = true
    · have e1 : bytesE l = 0 := by unfold bytesE; rw [if_neg h1, if_pos h2]
      have e2 : bytesT l = ⟨(wireA l).toArray⟩ := by unfold bytesT; rw [e1]; rfl
      have HW := Lib.hid (fun w hA => written_any l (by omega) h2 A c w hA)
      have HA := Lib.hid hA
      rw [h2] at HR
      rw [e1, e2]
      clear hA
      go_enter Tryd.func64, Tryd.ntmps64
      go_wp2_with fail
      refine HR.out.mono ?_; rintro e w1 ⟨rfl, hb1⟩
      have HB1 := Lib.hid hb1
      clear hb1
      go_wp2_with fail
      refine (HW.out _ (HA.out.below HB1.out)).mono ?_; rintro e w2 ⟨rfl, hb2⟩
      have HB2 := Lib.hid (Bx.then_below HB1.out hb2)
      go_wp2_with fail
      go_ret2
      exact ⟨rfl, HB2.out⟩
    · have e1 : bytesE l = 1 := by unfold bytesE; rw [if_neg h1, if_neg h2]
      have e2 : bytesT l = ⟨#[]⟩ := by unfold bytesT; rw [e1]; rfl
      rw [Bool.not_eq_true] at h2
      rw [h2] at HR
      rw [e1, e2]
      go_enter Tryd.func64, Tryd.ntmps64
      go_wp2_with fail
      refine HR.out.mono ?_; rintro e w1 ⟨rfl, hb1⟩
      have HB1 := Lib.hid hb1
      clear hb1
      go_wp2_with fail
      go_ret2
      exact ⟨rfl, HB1.out⟩

end Att
end Go.Proofs.YtaeeonohakkgbaaDoor
