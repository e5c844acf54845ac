/-
  The statement PacketBack: for every packet, text and number the law PacketBack returns true, and its arguments read afterwards as they read before.
-/
import Derived.Test.YtmacgbknmpmdiaaPacI
import Derived.Test.YtmacgbknmpmdiaaPacH
import Derived.Test.YtmacgbknmpmdiaaPacC
import Derived.Test.YtmacgbknmpmdiaaPacF
import Derived.Test.YtmacgbknmpmdiaaPacOpen
import Derived.Test.YtmacgbknmpmdiaaFrame
import Derived.Test.YtmacgbknmpmdiaaRows
namespace Go.Proofs.Ytmacgbknmpmdiaa
open Go.RowKit
namespace Pac
open Oct Att Bx

/-- What stands while a law goes on: all that lay before, the packet's box, its attributes. -/
def Pk (w0 W : World) (c i : Int) (a : ByteArray) (A : Option Addr) (l : List At) (n k : Nat) : Prop := Below w0.heap.size w0 W ∧ Blk W w0.heap.size (pl c i a A n k) ∧ Ats w0 A l

theorem Pk.new (w : World) (c i : Int) (a : ByteArray) (A : Option Addr) (l : List At) (n k : Nat) (hA : Ats w A l) : Pk w (w.alloc (po c i a A n k)) c i a A l n k := ⟨box_below _ _, Blk.new w (pl c i a A n k) 24, hA⟩
theorem Pk.keep {w0 W W' : World} {c i : Int} {a : ByteArray} {A : Option Addr} {l : List At} {n k : Nat} (h : Pk w0 W c i a A l n k) (hb : Below W.heap.size W W') : Pk w0 W' c i a A l n k := ⟨then_below h.1 hb, h.2.1.keep hb, h.2.2⟩
theorem Pk.more {w0 W : World} {c i : Int} {a : ByteArray} {A : Option Addr} {l : List At} {n k : Nat} (h : Pk w0 W c i a A l n k) (o : Obj) : Pk w0 (W.alloc o) c i a A l n k := h.keep (box_below W o)
theorem Pk.ats {w0 W : World} {c i : Int} {a : ByteArray} {A : Option Addr} {l : List At} {n k : Nat} (h : Pk w0 W c i a A l n k) : Ats W A l := h.2.2.below h.1
theorem Pk.cells {w0 W : World} {c i : Int} {a : ByteArray} {A : Option Addr} {l : List At} {n k : Nat} (h : Pk w0 W c i a A l n k) : W.cell? ⟨w0.heap.size, 0, none⟩ = some (.int .i64 c) ∧ W.cell? ⟨w0.heap.size, 1, none⟩ = some (.int .i64 i) ∧ W.cell? ⟨w0.heap.size, 2, none⟩ = some (.string a) ∧ W.cell? ⟨w0.heap.size, 3, none⟩ = some (.slice A n k) := h.2.1.all4

set_option maxHeartbeats 4000000 in
theorem back_long (c i : Int) (a : ByteArray) (A : Option Addr) (n k : Nat) (s : ByteArray) (x : Int) (l : List At) (w : World) (hA : Ats w A l)
    (HG : Hid (∀ w, Ats w A l → Calls Try.prog 6 #[pv c i a A n k] w fun e w' => e = .returned (.bool true) ∧ Below w.heap.size w w')) :
    Calls Try.prog 4 #[pv c i a A n k, .string s, .int .i64 x] w fun e w' => e = .returned (.bool true) ∧ Below w.heap.size w w' := by
  have HAW := Lib.hid awake_any
  have P0 := Lib.hid (Pk.new w c i a A l n k hA)
  clear hA
  obtain ⟨c0, c1, c2, c3⟩ := P0.out.cells
  go_enter Try.func4, Try.ntmps4
  go_wp2_with fail
  refine (HG.out _ P0.out.ats).mono ?_; rintro e w1 ⟨rfl, hb⟩
  have P1 := Lib.hid (P0.out.keep hb)
  clear hb P0 c0 c1 c2 c3
  obtain ⟨c0, c1, c2, c3⟩ := P1.out.cells
  go_wp2_with fail
  refine (HAW.out _).mono ?_; rintro e w2 ⟨rfl, hb⟩
  have P2 := Lib.hid (P1.out.keep hb)
  clear hb P1 c0 c1 c2 c3
  obtain ⟨c0, c1, c2, c3⟩ := P2.out.cells
  go_wp2_with fail
  go_ret
  exact ⟨rfl, P2.out.1⟩

set_option maxHeartbeats 4000000 in
theorem back_text (c i : Int) (a : ByteArray) (A : Option Addr) (n k : Nat) (s : ByteArray) (x : Int) (l : List At) (w : World) (hA : Ats w A l) (hs : 9000 < s.size) (hs2 : s.size ≤ 9223372036854775807)
    (HG : Hid (∀ w, Ats w A l → Calls Try.prog 6 #[pv c i a A n k] w fun e w' => e = .returned (.bool false) ∧ Below w.heap.size w w')) :
    Calls Try.prog 4 #[pv c i a A n k, .string s, .int .i64 x] w fun e w' => e = .returned (.bool true) ∧ Below w.heap.size w w' := by
  have HAW := Lib.hid awake_any
  have hs' : (9000 : Int) < s.size := by omega
  have P0 := Lib.hid (Pk.new w c i a A l n k hA)
  clear hA
  obtain ⟨c0, c1, c2, c3⟩ := P0.out.cells
  go_enter Try.func4, Try.ntmps4
  go_wp2_with fail
  refine (HG.out _ P0.out.ats).mono ?_; rintro e w1 ⟨rfl, hb⟩
  have P1 := Lib.hid (P0.out.keep hb)
  clear hb P0 c0 c1 c2 c3
  obtain ⟨c0, c1, c2, c3⟩ := P1.out.cells
  go_wp2_with fail
  refine (HAW.out _).mono ?_; rintro e w2 ⟨rfl, hb⟩
  have P2 := Lib.hid (P1.out.keep hb)
  clear hb P1 c0 c1 c2 c3
  obtain ⟨c0, c1, c2, c3⟩ := P2.out.cells
  go_wp2_with fail
  go_ret
  exact ⟨rfl, P2.out.1⟩

set_option maxHeartbeats 4000000 in
theorem back_right_ok (c i : Int) (a : ByteArray) (A : Option Addr) (n k : Nat) (s : ByteArray) (x : Int) (X : ByteArray) (r : Rd) (LP LO : List At) (Y : ByteArray) (l : List At) (w : World) (hA : Ats w A l) (hs : s.size ≤ 9000) (hX : X.size ≤ 4096) (hY : Y.size ≤ s.size) (hY2 : s.extract 0 Y.size = Y) (hr : r.e = 0)
    (HG : Hid (∀ w, Ats w A l → Calls Try.prog 6 #[pv c i a A n k] w fun e w' => e = .returned (.bool false) ∧ Below w.heap.size w w'))
    (HB : Hid (∀ w, Ats w A l → Calls Try.prog 8 #[pv c i a A n k] w fun e w' => e = .returned (.tuple #[.string X, .int .i64 0]) ∧ Below w.heap.size w w'))
    (HR2 : Hid (∀ w, Calls Try.prog 10 #[.string s] w (GivesP r w)))
    (HP : Hid (∀ w, Ats w A l → Calls Try.prog 16 #[pv c i a A n k, .int .i64 x, .string ⟨#[110, 101, 119]⟩] w (GivesC c i a LP w)))
    (HF : Hid (∀ w B k, Ats w B LP → Calls Try.prog 20 #[.slice B LP.length k, .int .i64 x] w fun e w' => e = .returned (.tuple #[.string ⟨#[110, 101, 119]⟩, .bool true]) ∧ Below w.heap.size w w'))
    (HW : Hid (∀ w, Ats w A l → Calls Try.prog 18 #[pv c i a A n k, .int .i64 x] w (GivesQ c i a LO w)))
    (HF2 : Hid (∀ w B k, Ats w B LO → Calls Try.prog 20 #[.slice B LO.length k, .int .i64 x] w fun e w' => e = .returned (.tuple #[.string ⟨#[]⟩, .bool false]) ∧ Below w.heap.size w w'))
    (HR1 : Hid (∀ w, Calls Try.prog 10 #[.string (X ++ s)] w fun e w' => ∃ B kb, e = .returned (.tuple #[pv c i a B n kb, .int .i64 0]) ∧ Ats w' B l ∧ Below w.heap.size w w'))
    (HS : Hid (∀ w B kb, Ats w B l → Ats w A l → Calls Try.prog 15 #[pv c i a B n kb, pv c i a A n k] w fun e w' => e = .returned (.bool true) ∧ Below w.heap.size w w'))
    (HB2 : Hid (∀ w B kb, Ats w B r.l → Calls Try.prog 8 #[pv r.c r.i r.a B r.l.length kb] w fun e w' => e = .returned (.tuple #[.string Y, .int .i64 0]) ∧ Below w.heap.size w w')) :
    Calls Try.prog 4 #[pv c i a A n k, .string s, .int .i64 x] w fun e w' => e = .returned (.bool true) ∧ Below w.heap.size w w' := by
  have HAW := Lib.hid awake_any
  have hfd : ∀ (B : Option Addr) (n k : Nat) (w : World), (Instr.field 24 (pv c i a B n k) 3).run Try.prog w = .ok (.slice B n k) w := fun _ _ _ _ => by kernel_rfl
  have hs1 : ¬ (9000 : Int) < s.size := by omega
  have z1 : ¬ (X.size + s.size > 9223372036854775807) := by omega
  obtain ⟨re, rc, ri, ra, rl⟩ := r
  simp only at hr HB2
  subst hr
  have hY1 : ¬ (s.size : Int) < Y.size := by omega
  have hY0 : (Y.size : Int) ≤ s.size := by omega
  have P0 := Lib.hid (Pk.new w c i a A l n k hA)
  clear hA
  obtain ⟨c0, c1, c2, c3⟩ := P0.out.cells
  go_enter Try.func4, Try.ntmps4
  go_wp2_with fail
  refine (HG.out _ P0.out.ats).mono ?_; rintro e w1 ⟨rfl, hb⟩
  have P1 := Lib.hid (P0.out.keep hb)
  clear hb P0 c0 c1 c2 c3
  obtain ⟨c0, c1, c2, c3⟩ := P1.out.cells
  go_wp2_with fail
  refine (HB.out _ P1.out.ats).mono ?_; rintro e w2 ⟨rfl, hb⟩
  have P2 := Lib.hid (P1.out.keep hb)
  clear hb P1 c0 c1 c2 c3
  obtain ⟨c0, c1, c2, c3⟩ := P2.out.cells
  go_wp2_with fail
  refine (HR1.out _).mono ?_; rintro e w3 ⟨B, kb, rfl, hB, hb⟩
  have P3 := Lib.hid ((P2.out.keep hb).more (po c i a B n kb))
  have Q3 := Lib.hid (hB.below (box_below w3 (po c i a B n kb)))
  obtain ⟨b0, b1, b2, b3⟩ := (Blk.new w3 (pl c i a B n kb) 24).all4
  clear hb hB P2 c0 c1 c2 c3
  obtain ⟨c0, c1, c2, c3⟩ := P3.out.cells
  go_wp2_with fail
  refine (HS.out _ _ _ Q3.out P3.out.ats).mono ?_; rintro e w4 ⟨rfl, hb⟩
  have P4 := Lib.hid (P3.out.keep hb)
  clear hb Q3 P3 c0 c1 c2 c3 b0 b1 b2 b3
  obtain ⟨c0, c1, c2, c3⟩ := P4.out.cells
  go_wp2_with fail
  refine (HR2.out _).mono ?_; rintro e w5 ⟨B2, kb2, rfl, hB, hb⟩
  simp only at hB
  have P5 := Lib.hid ((P4.out.keep hb).more (po rc ri ra B2 rl.length kb2))
  have Q5 := Lib.hid (hB.below (box_below w5 (po rc ri ra B2 rl.length kb2)))
  obtain ⟨b0, b1, b2, b3⟩ := (Blk.new w5 (pl rc ri ra B2 rl.length kb2) 24).all4
  clear hb hB P4 c0 c1 c2 c3
  obtain ⟨c0, c1, c2, c3⟩ := P5.out.cells
  go_wp2_with fail
  refine (HB2.out _ _ _ Q5.out).mono ?_; rintro e w6 ⟨rfl, hb⟩
  have P6 := Lib.hid (P5.out.keep hb)
  clear hb Q5 P5 c0 c1 c2 c3 b0 b1 b2 b3
  obtain ⟨c0, c1, c2, c3⟩ := P6.out.cells
  go_wp2_with fail
  refine (HP.out _ P6.out.ats).mono ?_; rintro e w7 ⟨G, kg, rfl, _, _, hG, hb⟩
  have P7 := Lib.hid (P6.out.keep hb)
  have G7 := Lib.hid hG
  clear hb hG P6 c0 c1 c2 c3
  obtain ⟨c0, c1, c2, c3⟩ := P7.out.cells
  go_wp2_with fail
  refine (HF.out _ _ _ G7.out).mono ?_; rintro e w8 ⟨rfl, hb⟩
  have P8 := Lib.hid (P7.out.keep hb)
  clear hb G7 P7 c0 c1 c2 c3
  obtain ⟨c0, c1, c2, c3⟩ := P8.out.cells
  go_wp2_with fail
  refine (HW.out _ P8.out.ats).mono ?_; rintro e w9 ⟨O, ko, rfl, hO, hb⟩
  have P9 := Lib.hid (P8.out.keep hb)
  have O9 := Lib.hid hO
  clear hb hO P8 c0 c1 c2 c3
  go_wp2_with fail
  refine (HF2.out _ _ _ O9.out).mono ?_; rintro e w10 ⟨rfl, hb⟩
  have P10 := Lib.hid (P9.out.keep hb)
  clear hb O9 P9
  go_wp2_with fail
  refine (HAW.out _).mono ?_; rintro e w11 ⟨rfl, hb⟩
  have P11 := Lib.hid (P10.out.keep hb)
  clear hb P10
  go_wp2_with fail
  go_ret
  exact ⟨rfl, P11.out.1⟩

set_option maxHeartbeats 4000000 in
theorem back_right_no (c i : Int) (a : ByteArray) (A : Option Addr) (n k : Nat) (s : ByteArray) (x : Int) (X : ByteArray) (r : Rd) (LP LO : List At) (l : List At) (w : World) (hA : Ats w A l) (hs : s.size ≤ 9000) (hX : X.size ≤ 4096) (hr : r.e ≠ 0)
    (HG : Hid (∀ w, Ats w A l → Calls Try.prog 6 #[pv c i a A n k] w fun e w' => e = .returned (.bool false) ∧ Below w.heap.size w w'))
    (HB : Hid (∀ w, Ats w A l → Calls Try.prog 8 #[pv c i a A n k] w fun e w' => e = .returned (.tuple #[.string X, .int .i64 0]) ∧ Below w.heap.size w w'))
    (HR2 : Hid (∀ w, Calls Try.prog 10 #[.string s] w (GivesP r w)))
    (HP : Hid (∀ w, Ats w A l → Calls Try.prog 16 #[pv c i a A n k, .int .i64 x, .string ⟨#[110, 101, 119]⟩] w (GivesC c i a LP w)))
    (HF : Hid (∀ w B k, Ats w B LP → Calls Try.prog 20 #[.slice B LP.length k, .int .i64 x] w fun e w' => e = .returned (.tuple #[.string ⟨#[110, 101, 119]⟩, .bool true]) ∧ Below w.heap.size w w'))
    (HW : Hid (∀ w, Ats w A l → Calls Try.prog 18 #[pv c i a A n k, .int .i64 x] w (GivesQ c i a LO w)))
    (HF2 : Hid (∀ w B k, Ats w B LO → Calls Try.prog 20 #[.slice B LO.length k, .int .i64 x] w fun e w' => e = .returned (.tuple #[.string ⟨#[]⟩, .bool false]) ∧ Below w.heap.size w w'))
    (HR1 : Hid (∀ w, Calls Try.prog 10 #[.string (X ++ s)] w fun e w' => ∃ B kb, e = .returned (.tuple #[pv c i a B n kb, .int .i64 0]) ∧ Ats w' B l ∧ Below w.heap.size w w'))
    (HS : Hid (∀ w B kb, Ats w B l → Ats w A l → Calls Try.prog 15 #[pv c i a B n kb, pv c i a A n k] w fun e w' => e = .returned (.bool true) ∧ Below w.heap.size w w')) :
    Calls Try.prog 4 #[pv c i a A n k, .string s, .int .i64 x] w fun e w' => e = .returned (.bool true) ∧ Below w.heap.size w w' := by
  have HAW := Lib.hid awake_any
  have hfd : ∀ (B : Option Addr) (n k : Nat) (w : World), (Instr.field 24 (pv c i a B n k) 3).run Try.prog w = .ok (.slice B n k) w := fun _ _ _ _ => by kernel_rfl
  have hs1 : ¬ (9000 : Int) < s.size := by omega
  have z1 : ¬ (X.size + s.size > 9223372036854775807) := by omega
  obtain ⟨re, rc, ri, ra, rl⟩ := r
  simp only at hr
  have hre : (re == 0) = false := by simp [hr]
  clear hr
  have P0 := Lib.hid (Pk.new w c i a A l n k hA)
  clear hA
  obtain ⟨c0, c1, c2, c3⟩ := P0.out.cells
  go_enter Try.func4, Try.ntmps4
  go_wp2_with fail
  refine (HG.out _ P0.out.ats).mono ?_; rintro e w1 ⟨rfl, hb⟩
  have P1 := Lib.hid (P0.out.keep hb)
  clear hb P0 c0 c1 c2 c3
  obtain ⟨c0, c1, c2, c3⟩ := P1.out.cells
  go_wp2_with fail
  refine (HB.out _ P1.out.ats).mono ?_; rintro e w2 ⟨rfl, hb⟩
  have P2 := Lib.hid (P1.out.keep hb)
  clear hb P1 c0 c1 c2 c3
  obtain ⟨c0, c1, c2, c3⟩ := P2.out.cells
  go_wp2_with fail
  refine (HR1.out _).mono ?_; rintro e w3 ⟨B, kb, rfl, hB, hb⟩
  have P3 := Lib.hid ((P2.out.keep hb).more (po c i a B n kb))
  have Q3 := Lib.hid (hB.below (box_below w3 (po c i a B n kb)))
  obtain ⟨b0, b1, b2, b3⟩ := (Blk.new w3 (pl c i a B n kb) 24).all4
  clear hb hB P2 c0 c1 c2 c3
  obtain ⟨c0, c1, c2, c3⟩ := P3.out.cells
  go_wp2_with fail
  refine (HS.out _ _ _ Q3.out P3.out.ats).mono ?_; rintro e w4 ⟨rfl, hb⟩
  have P4 := Lib.hid (P3.out.keep hb)
  clear hb Q3 P3 c0 c1 c2 c3 b0 b1 b2 b3
  obtain ⟨c0, c1, c2, c3⟩ := P4.out.cells
  go_wp2_with fail
  refine (HR2.out _).mono ?_; rintro e w5 ⟨B2, kb2, rfl, hB, hb⟩
  simp only at hB
  have P5 := Lib.hid ((P4.out.keep hb).more (po rc ri ra B2 rl.length kb2))
  clear hb hB P4 c0 c1 c2 c3
  obtain ⟨c0, c1, c2, c3⟩ := P5.out.cells
  go_wp2_with fail
  refine (HP.out _ P5.out.ats).mono ?_; rintro e w6 ⟨G, kg, rfl, _, _, hG, hb⟩
  have P6 := Lib.hid (P5.out.keep hb)
  have G6 := Lib.hid hG
  clear hb hG P5 c0 c1 c2 c3
  obtain ⟨c0, c1, c2, c3⟩ := P6.out.cells
  go_wp2_with fail
  refine (HF.out _ _ _ G6.out).mono ?_; rintro e w7 ⟨rfl, hb⟩
  have P7 := Lib.hid (P6.out.keep hb)
  clear hb G6 P6 c0 c1 c2 c3
  obtain ⟨c0, c1, c2, c3⟩ := P7.out.cells
  go_wp2_with fail
  refine (HW.out _ P7.out.ats).mono ?_; rintro e w8 ⟨O, ko, rfl, hO, hb⟩
  have P8 := Lib.hid (P7.out.keep hb)
  have O8 := Lib.hid hO
  clear hb hO P7 c0 c1 c2 c3
  go_wp2_with fail
  refine (HF2.out _ _ _ O8.out).mono ?_; rintro e w9 ⟨rfl, hb⟩
  have P9 := Lib.hid (P8.out.keep hb)
  clear hb O8 P8
  go_wp2_with fail
  refine (HAW.out _).mono ?_; rintro e w10 ⟨rfl, hb⟩
  have P10 := Lib.hid (P9.out.keep hb)
  clear hb P9
  go_wp2_with fail
  go_ret
  exact ⟨rfl, P10.out.1⟩

set_option maxHeartbeats 4000000 in
theorem back_wrong_ok (c i : Int) (a : ByteArray) (A : Option Addr) (n k : Nat) (s : ByteArray) (x : Int) (X : ByteArray) (r : Rd) (LP LO : List At) (Y : ByteArray) (l : List At) (w : World) (hA : Ats w A l) (hs : s.size ≤ 9000) (hY : Y.size ≤ s.size) (hY2 : s.extract 0 Y.size = Y) (hr : r.e = 0)
    (HG : Hid (∀ w, Ats w A l → Calls Try.prog 6 #[pv c i a A n k] w fun e w' => e = .returned (.bool false) ∧ Below w.heap.size w w'))
    (HB : Hid (∀ w, Ats w A l → Calls Try.prog 8 #[pv c i a A n k] w fun e w' => e = .returned (.tuple #[.string X, .int .i64 1]) ∧ Below w.heap.size w w'))
    (HR2 : Hid (∀ w, Calls Try.prog 10 #[.string s] w (GivesP r w)))
    (HP : Hid (∀ w, Ats w A l → Calls Try.prog 16 #[pv c i a A n k, .int .i64 x, .string ⟨#[110, 101, 119]⟩] w (GivesC c i a LP w)))
    (HF : Hid (∀ w B k, Ats w B LP → Calls Try.prog 20 #[.slice B LP.length k, .int .i64 x] w fun e w' => e = .returned (.tuple #[.string ⟨#[110, 101, 119]⟩, .bool true]) ∧ Below w.heap.size w w'))
    (HW : Hid (∀ w, Ats w A l → Calls Try.prog 18 #[pv c i a A n k, .int .i64 x] w (GivesQ c i a LO w)))
    (HF2 : Hid (∀ w B k, Ats w B LO → Calls Try.prog 20 #[.slice B LO.length k, .int .i64 x] w fun e w' => e = .returned (.tuple #[.string ⟨#[]⟩, .bool false]) ∧ Below w.heap.size w w'))
    (HB2 : Hid (∀ w B kb, Ats w B r.l → Calls Try.prog 8 #[pv r.c r.i r.a B r.l.length kb] w fun e w' => e = .returned (.tuple #[.string Y, .int .i64 0]) ∧ Below w.heap.size w w')) :
    Calls Try.prog 4 #[pv c i a A n k, .string s, .int .i64 x] w fun e w' => e = .returned (.bool true) ∧ Below w.heap.size w w' := by
  have HAW := Lib.hid awake_any
  have hfd : ∀ (B : Option Addr) (n k : Nat) (w : World), (Instr.field 24 (pv c i a B n k) 3).run Try.prog w = .ok (.slice B n k) w := fun _ _ _ _ => by kernel_rfl
  have hs1 : ¬ (9000 : Int) < s.size := by omega
  obtain ⟨re, rc, ri, ra, rl⟩ := r
  simp only at hr HB2
  subst hr
  have hY1 : ¬ (s.size : Int) < Y.size := by omega
  have hY0 : (Y.size : Int) ≤ s.size := by omega
  have P0 := Lib.hid (Pk.new w c i a A l n k hA)
  clear hA
  obtain ⟨c0, c1, c2, c3⟩ := P0.out.cells
  go_enter Try.func4, Try.ntmps4
  go_wp2_with fail
  refine (HG.out _ P0.out.ats).mono ?_; rintro e w1 ⟨rfl, hb⟩
  have P1 := Lib.hid (P0.out.keep hb)
  clear hb P0 c0 c1 c2 c3
  obtain ⟨c0, c1, c2, c3⟩ := P1.out.cells
  go_wp2_with fail
  refine (HB.out _ P1.out.ats).mono ?_; rintro e w2 ⟨rfl, hb⟩
  have P2 := Lib.hid (P1.out.keep hb)
  clear hb P1 c0 c1 c2 c3
  obtain ⟨c0, c1, c2, c3⟩ := P2.out.cells
  go_wp2_with fail
  refine (HR2.out _).mono ?_; rintro e w3 ⟨B2, kb2, rfl, hB, hb⟩
  simp only at hB
  have P3 := Lib.hid ((P2.out.keep hb).more (po rc ri ra B2 rl.length kb2))
  have Q3 := Lib.hid (hB.below (box_below w3 (po rc ri ra B2 rl.length kb2)))
  obtain ⟨b0, b1, b2, b3⟩ := (Blk.new w3 (pl rc ri ra B2 rl.length kb2) 24).all4
  clear hb hB P2 c0 c1 c2 c3
  obtain ⟨c0, c1, c2, c3⟩ := P3.out.cells
  go_wp2_with fail
  refine (HB2.out _ _ _ Q3.out).mono ?_; rintro e w4 ⟨rfl, hb⟩
  have P4 := Lib.hid (P3.out.keep hb)
  clear hb Q3 P3 c0 c1 c2 c3 b0 b1 b2 b3
  obtain ⟨c0, c1, c2, c3⟩ := P4.out.cells
  go_wp2_with fail
  refine (HP.out _ P4.out.ats).mono ?_; rintro e w5 ⟨G, kg, rfl, _, _, hG, hb⟩
  have P5 := Lib.hid (P4.out.keep hb)
  have G5 := Lib.hid hG
  clear hb hG P4 c0 c1 c2 c3
  obtain ⟨c0, c1, c2, c3⟩ := P5.out.cells
  go_wp2_with fail
  refine (HF.out _ _ _ G5.out).mono ?_; rintro e w6 ⟨rfl, hb⟩
  have P6 := Lib.hid (P5.out.keep hb)
  clear hb G5 P5 c0 c1 c2 c3
  obtain ⟨c0, c1, c2, c3⟩ := P6.out.cells
  go_wp2_with fail
  refine (HW.out _ P6.out.ats).mono ?_; rintro e w7 ⟨O, ko, rfl, hO, hb⟩
  have P7 := Lib.hid (P6.out.keep hb)
  have O7 := Lib.hid hO
  clear hb hO P6 c0 c1 c2 c3
  go_wp2_with fail
  refine (HF2.out _ _ _ O7.out).mono ?_; rintro e w8 ⟨rfl, hb⟩
  have P8 := Lib.hid (P7.out.keep hb)
  clear hb O7 P7
  go_wp2_with fail
  refine (HAW.out _).mono ?_; rintro e w9 ⟨rfl, hb⟩
  have P9 := Lib.hid (P8.out.keep hb)
  clear hb P8
  go_wp2_with fail
  go_ret
  exact ⟨rfl, P9.out.1⟩

set_option maxHeartbeats 4000000 in
theorem back_wrong_no (c i : Int) (a : ByteArray) (A : Option Addr) (n k : Nat) (s : ByteArray) (x : Int) (X : ByteArray) (r : Rd) (LP LO : List At) (l : List At) (w : World) (hA : Ats w A l) (hs : s.size ≤ 9000) (hr : r.e ≠ 0)
    (HG : Hid (∀ w, Ats w A l → Calls Try.prog 6 #[pv c i a A n k] w fun e w' => e = .returned (.bool false) ∧ Below w.heap.size w w'))
    (HB : Hid (∀ w, Ats w A l → Calls Try.prog 8 #[pv c i a A n k] w fun e w' => e = .returned (.tuple #[.string X, .int .i64 1]) ∧ Below w.heap.size w w'))
    (HR2 : Hid (∀ w, Calls Try.prog 10 #[.string s] w (GivesP r w)))
    (HP : Hid (∀ w, Ats w A l → Calls Try.prog 16 #[pv c i a A n k, .int .i64 x, .string ⟨#[110, 101, 119]⟩] w (GivesC c i a LP w)))
    (HF : Hid (∀ w B k, Ats w B LP → Calls Try.prog 20 #[.slice B LP.length k, .int .i64 x] w fun e w' => e = .returned (.tuple #[.string ⟨#[110, 101, 119]⟩, .bool true]) ∧ Below w.heap.size w w'))
    (HW : Hid (∀ w, Ats w A l → Calls Try.prog 18 #[pv c i a A n k, .int .i64 x] w (GivesQ c i a LO w)))
    (HF2 : Hid (∀ w B k, Ats w B LO → Calls Try.prog 20 #[.slice B LO.length k, .int .i64 x] w fun e w' => e = .returned (.tuple #[.string ⟨#[]⟩, .bool false]) ∧ Below w.heap.size w w')) :
    Calls Try.prog 4 #[pv c i a A n k, .string s, .int .i64 x] w fun e w' => e = .returned (.bool true) ∧ Below w.heap.size w w' := by
  have HAW := Lib.hid awake_any
  have hfd : ∀ (B : Option Addr) (n k : Nat) (w : World), (Instr.field 24 (pv c i a B n k) 3).run Try.prog w = .ok (.slice B n k) w := fun _ _ _ _ => by kernel_rfl
  have hs1 : ¬ (9000 : Int) < s.size := by omega
  obtain ⟨re, rc, ri, ra, rl⟩ := r
  simp only at hr
  have hre : (re == 0) = false := by simp [hr]
  clear hr
  have P0 := Lib.hid (Pk.new w c i a A l n k hA)
  clear hA
  obtain ⟨c0, c1, c2, c3⟩ := P0.out.cells
  go_enter Try.func4, Try.ntmps4
  go_wp2_with fail
  refine (HG.out _ P0.out.ats).mono ?_; rintro e w1 ⟨rfl, hb⟩
  have P1 := Lib.hid (P0.out.keep hb)
  clear hb P0 c0 c1 c2 c3
  obtain ⟨c0, c1, c2, c3⟩ := P1.out.cells
  go_wp2_with fail
  refine (HB.out _ P1.out.ats).mono ?_; rintro e w2 ⟨rfl, hb⟩
  have P2 := Lib.hid (P1.out.keep hb)
  clear hb P1 c0 c1 c2 c3
  obtain ⟨c0, c1, c2, c3⟩ := P2.out.cells
  go_wp2_with fail
  refine (HR2.out _).mono ?_; rintro e w3 ⟨B2, kb2, rfl, hB, hb⟩
  simp only at hB
  have P3 := Lib.hid ((P2.out.keep hb).more (po rc ri ra B2 rl.length kb2))
  clear hb hB P2 c0 c1 c2 c3
  obtain ⟨c0, c1, c2, c3⟩ := P3.out.cells
  go_wp2_with fail
  refine (HP.out _ P3.out.ats).mono ?_; rintro e w4 ⟨G, kg, rfl, _, _, hG, hb⟩
  have P4 := Lib.hid (P3.out.keep hb)
  have G4 := Lib.hid hG
  clear hb hG P3 c0 c1 c2 c3
  obtain ⟨c0, c1, c2, c3⟩ := P4.out.cells
  go_wp2_with fail
  refine (HF.out _ _ _ G4.out).mono ?_; rintro e w5 ⟨rfl, hb⟩
  have P5 := Lib.hid (P4.out.keep hb)
  clear hb G4 P4 c0 c1 c2 c3
  obtain ⟨c0, c1, c2, c3⟩ := P5.out.cells
  go_wp2_with fail
  refine (HW.out _ P5.out.ats).mono ?_; rintro e w6 ⟨O, ko, rfl, hO, hb⟩
  have P6 := Lib.hid (P5.out.keep hb)
  have O6 := Lib.hid hO
  clear hb hO P5 c0 c1 c2 c3
  go_wp2_with fail
  refine (HF2.out _ _ _ O6.out).mono ?_; rintro e w7 ⟨rfl, hb⟩
  have P7 := Lib.hid (P6.out.keep hb)
  clear hb O6 P6
  go_wp2_with fail
  refine (HAW.out _).mono ?_; rintro e w8 ⟨rfl, hb⟩
  have P8 := Lib.hid (P7.out.keep hb)
  clear hb P7
  go_wp2_with fail
  go_ret
  exact ⟨rfl, P8.out.1⟩

/-- What the law does. -/
theorem walk_back (w : World) (c i : Int) (a : ByteArray) (ha : a.size ≤ maxLen) (l : List At) (hl : l.length ≤ maxLen) (A : Option Addr) (k : Nat) (hk : l.length ≤ k) (hn : A = none → k = 0) (hA : Ats w A l) (s : ByteArray) (hs : s.size ≤ maxLen) (x : Int) (_hx : (Lit.int IntKind.i64 x).wf = true) :
    Calls Try.prog 4 #[pv c i a A l.length k, .string s, .int .i64 x] w fun e w' => e = .returned (.bool true) ∧ Below w.heap.size w w' := by
  have HG := Lib.hid (fun w hA => long_any c i a ha l hl A k w hA)
  cases hg : longP a l with
  | true =>
    rw [hg] at HG
    exact back_long c i a A _ k s x l w hA HG
  | false =>
    rw [hg] at HG
    by_cases h9 : 9000 < s.size
    · exact back_text c i a A _ k s x l w hA h9 hs HG
    · have hfew := longP_few hg
      have HB := Lib.hid (fun w hA => bytes_any c i a ha l hl A k w hA)
      have HR2 := Lib.hid (fun w => read_any s hs w)
      have HP := Lib.hid (fun w hA => put_any c i a l (by omega) A k x ⟨#[110, 101, 119]⟩ w hA)
      have HF : Hid (∀ w B k, Ats w B (putA l x ⟨#[110, 101, 119]⟩) → Calls Try.prog 20 #[.slice B (putA l x ⟨#[110, 101, 119]⟩).length k, .int .i64 x] w fun e w' => e = .returned (.tuple #[.string ⟨#[110, 101, 119]⟩, .bool true]) ∧ Below w.heap.size w w') := Lib.hid (fun w B k hB => by
        have e := find_any (putA l x ⟨#[110, 101, 119]⟩) (by have := put_length l x ⟨#[110, 101, 119]⟩; omega) x B k w hB
        rwa [put_find] at e)
      have HW := Lib.hid (fun w hA => without_any c i a l (by omega) A k hk hn x w hA)
      have HF2 : Hid (∀ w B k, Ats w B (outA l x) → Calls Try.prog 20 #[.slice B (outA l x).length k, .int .i64 x] w fun e w' => e = .returned (.tuple #[.string ⟨#[]⟩, .bool false]) ∧ Below w.heap.size w w') := Lib.hid (fun w B k hB => by
        have e := find_any (outA l x) (by have := out_length l x; omega) x B k w hB
        rwa [out_find] at e)
      cases hr : rightP c i a l with
      | true =>
        rw [(is_right hr).1, (is_right hr).2] at HB
        obtain ⟨⟨_, _, h16⟩, _, hT⟩ := right_iff.1 hr
        have hw := wire_size c i a l
        have HR1 : Hid (∀ w, Calls Try.prog 10 #[.string (wireP c i a l ++ s)] w fun e w' => ∃ B kb, e = .returned (.tuple #[pv c i a B l.length kb, .int .i64 0]) ∧ Ats w' B l ∧ Below w.heap.size w w') := Lib.hid (fun w => by
          have e := read_any (wireP c i a l ++ s) (by rw [ByteArray.size_append]; unfold maxLen; omega) w
          rwa [read_wire hr] at e)
        have HS : Hid (∀ w B kb, Ats w B l → Ats w A l → Calls Try.prog 15 #[pv c i a B l.length kb, pv c i a A l.length k] w fun e w' => e = .returned (.bool true) ∧ Below w.heap.size w w') := Lib.hid (fun w B kb hB hA => by
          have e := same_any c i a l c i a l hl hl B A kb k w hB hA
          rwa [show sameP c i a l c i a l = true from decide_eq_true ⟨rfl, rfl, rfl, rfl⟩] at e)
        by_cases he : (readP s).e = 0
        · obtain ⟨e1, e2, e3, e4⟩ := wire_read (s := s) (c := (readP s).c) (i := (readP s).i) (a := (readP s).a) (l := (readP s).l) (by rw [← he])
          have HB2 := Lib.hid (fun w B kb hB => bytes_any (readP s).c (readP s).i (readP s).a (by have := (right_iff.1 e1).1.2.2; unfold maxLen; omega) (readP s).l (by have := (bytesE_zero (right_iff.1 e1).2.1).1; unfold maxLen; omega) B kb w hB)
          rw [(is_right e1).1, (is_right e1).2] at HB2
          exact back_right_ok c i a A _ k s x _ (readP s) _ _ _ l w hA (by omega) (by omega) (by omega) (by rw [e3]; exact e4) he HG HB HR2 HP HF HW HF2 HR1 HS HB2
        · exact back_right_no c i a A _ k s x _ (readP s) _ _ l w hA (by omega) (by omega) he HG HB HR2 HP HF HW HF2 HR1 HS
      | false =>
        rw [(not_right hr).1, (not_right hr).2] at HB
        by_cases he : (readP s).e = 0
        · obtain ⟨e1, e2, e3, e4⟩ := wire_read (s := s) (c := (readP s).c) (i := (readP s).i) (a := (readP s).a) (l := (readP s).l) (by rw [← he])
          have HB2 := Lib.hid (fun w B kb hB => bytes_any (readP s).c (readP s).i (readP s).a (by have := (right_iff.1 e1).1.2.2; unfold maxLen; omega) (readP s).l (by have := (bytesE_zero (right_iff.1 e1).2.1).1; unfold maxLen; omega) B kb w hB)
          rw [(is_right e1).1, (is_right e1).2] at HB2
          exact back_wrong_ok c i a A _ k s x _ (readP s) _ _ _ l w hA (by omega) (by omega) (by rw [e3]; exact e4) he HG HB HR2 HP HF HW HF2 HB2
        · exact back_wrong_no c i a A _ k s x _ (readP s) _ _ l w hA (by omega) he HG HB HR2 HP HF HW HF2

end Pac
namespace LawPacketBack
open Go.ChangeShapes Go.WideShapes Go.ChangeAt Go.RowKit
open Go.ChangeMaps (open_string shut_string)

theorem own : ownKnob Try.prog.godebug = none := by kernel_rfl
theorem laidOut : laidOutB Try.prog = true := by kernel_rfl

set_option maxRecDepth 100000 in
theorem lifted (os : Os) (started : os.Started) (H : Type) (enc : TypeId × Value → H) :
    ReturnsInHanded {} Try.checked os 4 .any (Rows.packetBackSpec.pre6 enc Try.prog Try.f4 Rows.packetBackRow.domain false) (Rows.packetBackSpec.post enc Try.prog Try.f4 false true false false) := by
  refine Fr.law_lift (C := Try.checked) (tb := 4) own started (by kernel_rfl) Try.func4
    (ChangeSpec.witness6 (enc := enc) (C := Try.checked) false ⟨#[], #[.agg #[.int .i64 0, .int .i64 0, .string ByteArray.empty, .slice none 0 0], .string ByteArray.empty, .int .i64 0], []⟩ 8 (by kernel_rfl) (by kernel_rfl) (by kernel_rfl) (by kernel_rfl))
    laidOut (by rw [Try.params4]; decide +kernel) rfl Try.underlying4 rfl ?_ ?_
  · intro ds hl
    match ds, hl with
    | [d0, d1, d2], _ => rfl
  · intro W base args ds p hval hA
    rw [Try.params4] at hA hval
    obtain ⟨v0, vs0, d0, ds0, p0, q0, hargs, rfl, rfl, h0, r0⟩ := trodAll_cons hA
    obtain ⟨v1, vs1, d1, ds1, p1, q1, rfl, rfl, rfl, h1, r1⟩ := trodAll_cons r0
    obtain ⟨v2, vs2, d2, ds2, p2, q2, rfl, rfl, rfl, h2, r2⟩ := trodAll_cons r1
    obtain ⟨rfl, rfl, rfl⟩ := trodAll_nil r2
    obtain rfl : args = #[v0, v1, v2] := by cases args; simp_all
    obtain ⟨c0, i0, a0, A0, l0, k0, rfl, ha0, hl0, hk0, hn0, hA0⟩ := Pac.open_packet (hval 0 24 v0 rfl rfl) h0
    obtain ⟨a1, rfl, rfl, rfl, w1⟩ := open_string Try.underlying9 (hval 1 9 v1 rfl rfl) h1
    obtain ⟨a2, rfl, rfl, rfl, w2⟩ := open_int Try.underlying3 (hval 2 3 v2 rfl rfl) h2
    exact Pac.walk_back W c0 i0 a0 ha0 l0 hl0 A0 k0 hk0 hn0 hA0 a1 w1 a2 w2

theorem over : Rows.packetBackRow.holds Try.pinned (OpenSpec.ofChange Rows.packetBackSpec) :=
  OpenClaim.holds_of_wide 4 Try.f4 rfl rfl rfl rfl rfl rfl rfl ⟨rfl, rfl, rfl, rfl, rfl⟩ rfl rfl rfl rfl rfl (by kernel_rfl) Try.func4 (by kernel_rfl)
    (of_decide_eq_true (by kernel_rfl)) (by unfold Func.isWrapper; first | (rw [if_pos (by decide +kernel)]; kernel_rfl) | (rw [if_neg (by decide +kernel)]; exact ⟨rfl, rfl⟩))
    (fun os started H enc _ => lifted os started H enc)
end LawPacketBack

/-- The statement PacketBack. -/
theorem packetBack_holds : Rows.PacketBackSaid := LawPacketBack.over

end Go.Proofs.Ytmacgbknmpmdiaa
