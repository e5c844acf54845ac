/-
  The check of single answers that the statements of layer 9 end with (tipstafflaw09.awake) comes out true, and changes nothing that was there.
-/
import Derived.Test.YtjocabnhdifedaaAttM
import Derived.Test.YtjocabnhdifedaaAttL
import Derived.Test.YtjocabnhdifedaaAttI
import Derived.Test.YtjocabnhdifedaaAttG
import Derived.Test.YtjocabnhdifedaaAttD
namespace Go.Proofs.Ytjocabnhdifedaa
open Go.RowKit
namespace Att
open Oct

def La : List At := [(1, ⟨#[98, 111, 98]⟩), (79, ⟨#[120]⟩), (79, ⟨#[121]⟩)]

theorem la_bytes : bytesE La = 0 ∧ bytesT La = ⟨#[1, 5, 98, 111, 98, 79, 3, 120, 79, 3, 121]⟩ := by decide +kernel
theorem la_read : readL 64 (⟨#[1, 5, 98, 111, 98, 79, 3, 120, 79, 3, 121]⟩ : ByteArray).data.toList [] = (0, La) := by decide +kernel
theorem la_find : findV La 79 = (⟨#[120]⟩, true) ∧ findV La 2 = (⟨#[]⟩, false) := by decide +kernel
theorem la_all : allV La 79 = [⟨#[120]⟩, ⟨#[121]⟩] := by decide +kernel
theorem la_join : catS (allV La 79) = ⟨#[120, 121]⟩ := by decide +kernel
theorem la_right : rightA (1, ⟨#[98, 111, 98]⟩) = true := by decide +kernel
theorem la_form : readL 64 [1, 1] [] = (3, []) := by decide +kernel
theorem la_short : readL 64 [1, 5, 97, 98] [] = (2, []) := by decide +kernel

theorem aw_bytes (A : Option Addr) (w : World) (h : Ats w A La) : Calls Try.prog 10 #[.slice A 3 3] w fun e w' => e = .returned (.tuple #[.string ⟨#[1, 5, 98, 111, 98, 79, 3, 120, 79, 3, 121]⟩, .int .i64 0]) ∧ Below w.heap.size w w' := by
  have e := bytes_any La (by decide) A 3 w h
  rw [la_bytes.1, la_bytes.2] at e
  exact e

theorem aw_read (w : World) : Calls Try.prog 12 #[.string ⟨#[1, 5, 98, 111, 98, 79, 3, 120, 79, 3, 121]⟩] w fun e w' => ∃ A c, e = .returned (.tuple #[.slice A 3 c, .int .i64 0]) ∧ Ats w' A La ∧ Below w.heap.size w w' := read_any ⟨#[1, 5, 98, 111, 98, 79, 3, 120, 79, 3, 121]⟩ (by decide) 0 La w la_read
theorem aw_form (w : World) : Calls Try.prog 12 #[.string ⟨#[1, 1]⟩] w (GivesE [] 3 w) := read_any ⟨#[1, 1]⟩ (by decide) 3 [] w la_form
theorem aw_short (w : World) : Calls Try.prog 12 #[.string ⟨#[1, 5, 97, 98]⟩] w (GivesE [] 2 w) := read_any ⟨#[1, 5, 97, 98]⟩ (by decide) 2 [] w la_short

theorem aw_split (Z : ByteArray) (hZ : Z.size = 254) (w : World) : Calls Try.prog 24 #[.int .i64 79, .string Z] w fun e w' => ∃ x y : At, GivesE [x, y] 0 w e w' ∧ y.2.size = 1 := by
  have e := split_any 79 Z (by omega) w
  have e1 : splitE 79 Z.size = 0 := by unfold splitE; rw [if_neg (by omega), if_neg (by omega)]
  have e2 : splitR 79 Z = [(79, Z.extract 0 253), (79, (Z.extract 253 Z.size).extract 0 1)] := by
    have s1 : (Z.extract 253 Z.size).size = 1 := by rw [ByteArray.size_extract]; omega
    have s2 : ((Z.extract 253 Z.size).extract 1 (Z.extract 253 Z.size).size).data.toList = [] := by
      apply List.eq_nil_of_length_eq_zero
      rw [size_list, ByteArray.size_extract]
      omega
    unfold splitR
    rw [if_pos e1, splitL_next 79 63 Z (by omega) 253 (by omega), splitL_next 79 62 (Z.extract 253 Z.size) (by omega) 1 (by omega), s2, splitL_none]
  rw [e1, e2] at e
  refine e.mono fun _ _ h => ⟨_, _, h, ?_⟩
  show ((Z.extract 253 Z.size).extract 0 1).size = 1
  rw [ByteArray.size_extract, ByteArray.size_extract]
  omega

theorem aw_find (A : Option Addr) (w : World) (h : Ats w A La) : Calls Try.prog 14 #[.slice A 3 3, .int .i64 79] w fun e w' => e = .returned (.tuple #[.string ⟨#[120]⟩, .bool true]) ∧ Below w.heap.size w w' := by
  have e := find_any La (by decide) 79 A 3 w h
  rw [la_find.1] at e
  exact e

theorem aw_none (A : Option Addr) (w : World) (h : Ats w A La) : Calls Try.prog 14 #[.slice A 3 3, .int .i64 2] w fun e w' => e = .returned (.tuple #[.string ⟨#[]⟩, .bool false]) ∧ Below w.heap.size w w' := by
  have e := find_any La (by decide) 2 A 3 w h
  rw [la_find.2] at e
  exact e

theorem aw_join (A : Option Addr) (w : World) (h : Ats w A La) : Calls Try.prog 21 #[.slice A 3 3, .int .i64 79] w fun e w' => e = .returned (.string ⟨#[120, 121]⟩) ∧ Below w.heap.size w w' := by
  have e := join_any La (by decide) 79 (by rw [la_join]; decide) A 3 w h
  rw [la_join] at e
  exact e

theorem aw_all (A : Option Addr) (w : World) (h : Ats w A La) : Calls Try.prog 16 #[.slice A 3 3, .int .i64 79] w fun e w' => (∃ B c, e = .returned (.slice B 2 c)) ∧ Below w.heap.size w w' := by
  have e := all_any La (by decide) 79 A 3 w h
  rw [la_all] at e
  exact e.mono fun _ _ ⟨B, c, h1, _, _, h2⟩ => ⟨⟨B, c, h1⟩, h2⟩

theorem aw_same (A B : Option Addr) (c : Nat) (w : World) (h : Ats w A La) (h2 : Ats w B La) : Calls Try.prog 23 #[.slice B 3 c, .slice A 3 3] w fun e w' => e = .returned (.bool true) ∧ Below w.heap.size w w' := by
  have e := same_any La La (by decide) (by decide) B A c 3 w h2 h
  rw [decide_eq_true rfl] at e
  exact e.mono fun _ _ ⟨h1, q, h3⟩ => ⟨h1, by subst h3; exact drew_below _ _⟩

theorem aw_unlike (A : Option Addr) (w : World) (h : Ats w A La) : Calls Try.prog 23 #[.slice A 3 3, .slice none 0 0] w fun e w' => e = .returned (.bool false) ∧ Below w.heap.size w w' := by
  have e := same_any La [] (by decide) (by decide) A none 3 0 w h (Ats.nil _ _)
  rw [decide_eq_false (by decide)] at e
  exact e.mono fun _ _ ⟨h1, q, h3⟩ => ⟨h1, by subst h3; exact drew_below _ _⟩

theorem aw_right (w : World) : Calls Try.prog 19 #[.agg #[.int .i64 1, .string ⟨#[98, 111, 98]⟩]] w fun e w' => e = .returned (.bool true) ∧ Below w.heap.size w w' := by
  have e := right_any (1, ⟨#[98, 111, 98]⟩) w
  rw [la_right] at e
  exact e

theorem info_by : (Try.prog.info? 5).map (fun i => (i.zero, i.size, i.bytes)) = some (some (.int .u8 0), 1, 1) := by kernel_rfl

theorem made_get (v : Value) (n j : Nat) (h : j < n) : (madeCells #[v] n)[j]? = some v := by
  unfold madeCells
  rw [Array.getElem?_map, Array.getElem?_range, if_pos h]
  simp [Nat.mod_one]

/-- A text of 254 bytes, all nothing. -/
theorem zeros (w : World) : ∃ (Z : ByteArray) (w' : World), Z.size = 254 ∧ (Instr.makeSlice 49 (.int .i64 254) (.int .i64 254)).run Try.prog w = .ok (.slice (some ⟨w.heap.size, 0, none⟩) 254 254) w' ∧
    (convert 49 9 (.slice (some ⟨w.heap.size, 0, none⟩) 254 254)).run Try.prog w' = .ok (.string Z) w' ∧ Below w.heap.size w w' := by
  obtain ⟨i0, hi, hz0, hz1, hz2⟩ := info_parts info_by
  have hm := run_makeSlice (P := Try.prog) (w := w) 49 5 i0 (.int .u8 0) Try.underlying49 hi hz0 .i64 .i64 254 254 (by decide) (by decide) (by rw [hz1]; decide) (by rw [hz2]; decide) (by decide)
  rw [hz1] at hm
  refine ⟨⟨(List.replicate 254 (0 : UInt8)).toArray⟩, _, ?_, hm, ?_, Bx.box_below _ _⟩
  · show (List.replicate 254 (0 : UInt8)).toArray.size = 254
    rw [List.size_toArray, List.length_replicate]
  · have e := run_convert_bytes_back (P := Try.prog) (w.alloc (.cells (madeCells (Value.int .u8 0).cells ((254 : Int).toNat * 1)) 5)) 49 9 5 ⟨w.heap.size, 0, none⟩ 254 (List.replicate 254 (0 : UInt8)) Try.underlying49 Try.underlying5 Try.underlying9 (fun j hj => by
      have hj' : j < 254 := Nat.lt_of_lt_of_eq hj List.length_replicate
      rw [Addr.add_lit, Nat.zero_add, World.cell?_alloc_new, List.getElem_replicate]
      exact made_get (.int .u8 0) 254 j hj')
    rw [List.length_replicate] at e
    exact e

set_option maxHeartbeats 4000000 in
theorem awake_any (w : World) : Calls Try.prog 9 #[] w fun e w' => e = .returned (.bool true) ∧ Below w.heap.size w w' := by
  have HA0 : Hid (Ats (w.alloc (Obj.cells #[.int .i64 1, .string ⟨#[98, 111, 98]⟩, .int .i64 79, .string ⟨#[120]⟩, .int .i64 79, .string ⟨#[121]⟩] 37)) (some ⟨w.heap.size, 0, none⟩) La) := Lib.hid (by
    intro j x hj
    refine ⟨w.heap.size, 0, rfl, by simp, ?_, ?_⟩ <;>
    · match j, hj with
      | 0, hj => cases hj; rw [World.cell?_alloc_new]; rfl
      | 1, hj => cases hj; rw [World.cell?_alloc_new]; rfl
      | 2, hj => cases hj; rw [World.cell?_alloc_new]; rfl)
  have B0 := Lib.hid (Bx.box_below w (Obj.cells #[.int .i64 1, .string ⟨#[98, 111, 98]⟩, .int .i64 79, .string ⟨#[120]⟩, .int .i64 79, .string ⟨#[121]⟩] 37))
  go_enter Try.func9, Try.ntmps9
  go_wp2_with fail
  refine (aw_bytes _ _ HA0.out).mono ?_; rintro e w1 ⟨rfl, hb1⟩
  have A1 := Lib.hid (HA0.out.below hb1)
  have B1 := Lib.hid (Bx.then_below B0.out hb1)
  clear hb1 HA0 B0
  go_wp2_with fail
  refine (aw_read _).mono ?_; rintro e w2 ⟨C, c2, rfl, ha2, hb2⟩
  have A2 := Lib.hid (A1.out.below hb2)
  have B2 := Lib.hid (Bx.then_below B1.out hb2)
  have M2 := Lib.hid ha2
  clear hb2 ha2 A1 B1
  go_wp2_with fail
  refine (aw_form _).mono ?_; rintro e w3 ⟨_, _, rfl, _, hb3⟩
  have A3 := Lib.hid (A2.out.below hb3)
  have B3 := Lib.hid (Bx.then_below B2.out hb3)
  have M3 := Lib.hid (M2.out.below hb3)
  clear hb3 A2 B2 M2
  go_wp2_with fail
  refine (aw_short _).mono ?_; rintro e w4 ⟨_, _, rfl, _, hb4⟩
  have A4 := Lib.hid (A3.out.below hb4)
  have B4 := Lib.hid (Bx.then_below B3.out hb4)
  have M4 := Lib.hid (M3.out.below hb4)
  clear hb4 A3 B3 M3
  obtain ⟨Z, W4, hZ, hmk, hcv, hb⟩ := zeros w4
  have A5 := Lib.hid (A4.out.below hb)
  have B5 := Lib.hid (Bx.then_below B4.out hb)
  have M5 := Lib.hid (M4.out.below hb)
  clear hb A4 B4 M4
  go_wp2_with fail
  refine (aw_split Z hZ _).mono ?_; rintro e w6 ⟨⟨x1, x2⟩, ⟨y1, y2⟩, ⟨D, c6, rfl, hd6, hb6⟩, hy⟩
  have A6 := Lib.hid (A5.out.below hb6)
  have B6 := Lib.hid (Bx.then_below B5.out hb6)
  have M6 := Lib.hid (M5.out.below hb6)
  have D6 := Lib.hid hd6
  clear hb6 A5 B5 M5 hd6
  go_wp2_with fail
  refine (aw_find _ _ A6.out).mono ?_; rintro e w7 ⟨rfl, hb7⟩
  have A7 := Lib.hid (A6.out.below hb7)
  have B7 := Lib.hid (Bx.then_below B6.out hb7)
  have M7 := Lib.hid (M6.out.below hb7)
  have D7 := Lib.hid (D6.out.below hb7)
  clear hb7 A6 B6 M6 D6
  go_wp2_with fail
  refine (aw_none _ _ A7.out).mono ?_; rintro e w8 ⟨rfl, hb8⟩
  have A8 := Lib.hid (A7.out.below hb8)
  have B8 := Lib.hid (Bx.then_below B7.out hb8)
  have M8 := Lib.hid (M7.out.below hb8)
  have D8 := Lib.hid (D7.out.below hb8)
  clear hb8 A7 B7 M7 D7
  go_wp2_with fail
  refine (aw_same _ _ _ _ A8.out M8.out).mono ?_; rintro e w9 ⟨rfl, hb9⟩
  have A9 := Lib.hid (A8.out.below hb9)
  have B9 := Lib.hid (Bx.then_below B8.out hb9)
  have D9 := D8.out.below hb9
  clear hb9 A8 B8 M8 D8
  obtain ⟨b, o, rfl, _, _, d1⟩ := D9 1 (y1, y2) rfl
  simp only at d1 hy
  have hy' : ((y2.size : Int) == 1) = true := by simp; omega
  go_wp2_with fail
  refine (aw_join _ _ A9.out).mono ?_; rintro e w10 ⟨rfl, hb10⟩
  have A10 := Lib.hid (A9.out.below hb10)
  have B10 := Lib.hid (Bx.then_below B9.out hb10)
  clear hb10 A9 B9 D9 d1
  go_wp2_with fail
  refine (aw_all _ _ A10.out).mono ?_; rintro e w11 ⟨⟨E, c11, rfl⟩, hb11⟩
  have A11 := Lib.hid (A10.out.below hb11)
  have B11 := Lib.hid (Bx.then_below B10.out hb11)
  clear hb11 A10 B10
  obtain ⟨_, _, e3, _, f0, f1⟩ := A11.out 0 (1, ⟨#[98, 111, 98]⟩) rfl
  cases e3
  simp only at f0 f1
  go_wp2_with fail
  refine (aw_right _).mono ?_; rintro e w12 ⟨rfl, hb12⟩
  have A12 := Lib.hid (A11.out.below hb12)
  have B12 := Lib.hid (Bx.then_below B11.out hb12)
  clear hb12 A11 B11 f0 f1
  go_wp2_with fail
  refine (aw_unlike _ _ A12.out).mono ?_; rintro e w13 ⟨rfl, hb13⟩
  have B13 := Lib.hid (Bx.then_below B12.out hb13)
  clear hb13 A12 B12
  go_wp2_with fail
  go_ret
  exact ⟨rfl, B13.out⟩

end Att
end Go.Proofs.Ytjocabnhdifedaa
