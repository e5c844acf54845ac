/-
  The statement SignSays (a tied card): for every packet, authenticator and secret the law SignSays returns true, and its arguments read afterwards as they read before.
-/
import Derived.Test.YtaeeonohakkgbaaDoorSigE
import Derived.Test.YtaeeonohakkgbaaDoorPacH
import Derived.Test.YtaeeonohakkgbaaDoorPacOpen
import Derived.Test.YtaeeonohakkgbaaDoorDigHome
import Derived.Test.YtaeeonohakkgbaaDoorCards
import Derived.Test.YtaeeonohakkgbaaDoorTie
import Derived.SevenTiedAt
import Derived.Test.YtaeeonohakkgbaaDoorPacC
import Derived.Deep.RegionHeld3
namespace Go.Proofs.YtaeeonohakkgbaaDoor
open Go.RowKit
namespace Sig
open Oct Att Pac Key Bx Dig

set_option maxRecDepth 20000 in
set_option maxHeartbeats 2000000 in
theorem only_a (c i : Int) (a u k : ByteArray) (l : List At) (A : Option Addr) (kc : Nat) (w : World) (hA : Ats w A l) (hm : Home w)
    (HG : Hid (∀ w, Ats w A l → Calls Tryd.prog 5 #[pv c i a A l.length kc] w fun e w' => e = .returned (.bool true) ∧ Below w.heap.size w w')) :
    Calls Tryd.prog 3 #[pv c i a A l.length kc, .string u, .string k] w fun e w' => e = .returned (.bool true) ∧ Below w.heap.size w w' := by
  have S0 := Sp.new w c i a A l.length kc
  have HA := Lib.hid hA
  have HM := Lib.hid hm
  clear hA hm
  go_enter Tryd.func3, Tryd.ntmps3
  go_wp2_with fail
  refine (HG.out _ (HA.out.below S0.out.1)).mono ?_; rintro e w1 ⟨rfl, hb1⟩
  have B1 := Lib.hid (then_below S0.out.1 hb1)
  clear hb1
  go_wp2_with fail
  refine (awake_any _ (HM.out.below B1.out)).mono ?_; rintro e w2 ⟨rfl, hb2⟩
  have B2 := Lib.hid (then_below B1.out hb2)
  clear hb2
  go_wp2_with fail
  go_ret
  exact ⟨rfl, B2.out⟩

set_option maxRecDepth 20000 in
set_option maxHeartbeats 2000000 in
theorem only_b (c i : Int) (a u k : ByteArray) (l : List At) (A : Option Addr) (kc : Nat) (w : World) (hA : Ats w A l) (hm : Home w) (h1 : 300 < u.size)
    (HG : Hid (∀ w, Ats w A l → Calls Tryd.prog 5 #[pv c i a A l.length kc] w fun e w' => e = .returned (.bool false) ∧ Below w.heap.size w w')) :
    Calls Tryd.prog 3 #[pv c i a A l.length kc, .string u, .string k] w fun e w' => e = .returned (.bool true) ∧ Below w.heap.size w w' := by
  have S0 := Sp.new w c i a A l.length kc
  have HA := Lib.hid hA
  have HM := Lib.hid hm
  have q1 : decide (300 < (u.size : Int)) = true := by simp; omega
  clear hA hm
  go_enter Tryd.func3, Tryd.ntmps3
  go_wp2_with fail
  refine (HG.out _ (HA.out.below S0.out.1)).mono ?_; rintro e w1 ⟨rfl, hb1⟩
  have B1 := Lib.hid (then_below S0.out.1 hb1)
  clear hb1
  go_wp2_with fail
  refine (awake_any _ (HM.out.below B1.out)).mono ?_; rintro e w2 ⟨rfl, hb2⟩
  have B2 := Lib.hid (then_below B1.out hb2)
  clear hb2
  go_wp2_with fail
  go_ret
  exact ⟨rfl, B2.out⟩

set_option maxRecDepth 20000 in
set_option maxHeartbeats 2000000 in
theorem only_c (c i : Int) (a u k : ByteArray) (l : List At) (A : Option Addr) (kc : Nat) (w : World) (hA : Ats w A l) (hm : Home w) (h1 : u.size ≤ 300) (h2 : 300 < k.size)
    (HG : Hid (∀ w, Ats w A l → Calls Tryd.prog 5 #[pv c i a A l.length kc] w fun e w' => e = .returned (.bool false) ∧ Below w.heap.size w w')) :
    Calls Tryd.prog 3 #[pv c i a A l.length kc, .string u, .string k] w fun e w' => e = .returned (.bool true) ∧ Below w.heap.size w w' := by
  have S0 := Sp.new w c i a A l.length kc
  have HA := Lib.hid hA
  have HM := Lib.hid hm
  have q1 : decide (300 < (u.size : Int)) = false := by simp; omega
  have q2 : decide (300 < (k.size : Int)) = true := by simp; omega
  clear hA hm
  go_enter Tryd.func3, Tryd.ntmps3
  go_wp2_with fail
  refine (HG.out _ (HA.out.below S0.out.1)).mono ?_; rintro e w1 ⟨rfl, hb1⟩
  have B1 := Lib.hid (then_below S0.out.1 hb1)
  clear hb1
  go_wp2_with fail
  refine (awake_any _ (HM.out.below B1.out)).mono ?_; rintro e w2 ⟨rfl, hb2⟩
  have B2 := Lib.hid (then_below B1.out hb2)
  clear hb2
  go_wp2_with fail
  go_ret
  exact ⟨rfl, B2.out⟩

/-- A packet in a box, with its attributes. -/
def Px (W : World) (b : Nat) (c i : Int) (a : ByteArray) (l : List At) (X : Option Addr) (kx : Nat) : Prop := Blk W b (pl c i a X l.length kx) ∧ Ats W X l

theorem Px.keep {W W' : World} {b : Nat} {c i : Int} {a : ByteArray} {l : List At} {X : Option Addr} {kx : Nat} (h : Hid (Px W b c i a l X kx)) (hb : Below W.heap.size W W') : Hid (Px W' b c i a l X kx) := Lib.hid ⟨h.out.1.keep hb, h.out.2.below hb⟩

theorem Px.new {w : World} {c i : Int} {a : ByteArray} {l : List At} {X : Option Addr} {kx : Nat} (hX : Ats w X l) : Hid (Px (w.alloc (po c i a X l.length kx)) w.heap.size c i a l X kx) :=
  Lib.hid ⟨Blk.new w (pl c i a X l.length kx) 24, hX.below (box_below _ _)⟩

theorem Px.four {W : World} {b : Nat} {c i : Int} {a : ByteArray} {l : List At} {X : Option Addr} {kx : Nat} (h : Hid (Px W b c i a l X kx)) :
    W.cell? ⟨b, 0, none⟩ = some (.int .i64 c) ∧ W.cell? ⟨b, 1, none⟩ = some (.int .i64 i) ∧ W.cell? ⟨b, 2, none⟩ = some (.string a) ∧ W.cell? ⟨b, 3, none⟩ = some (.slice X l.length kx) := h.out.1.all4

/-- What stands while the answers are compared. -/
def Sy (w W : World) (c i : Int) (a : ByteArray) (A : Option Addr) (l : List At) (kc : Nat) (c1 i1 : Int) (a1 : ByteArray) (l1 : List At) (c2 i2 : Int) (a2 : ByteArray) (l2 : List At) (bx by_ bu bv : Nat) (X Y U V : Option Addr) (kx ky ku kv : Nat) : Prop :=
  Below w.heap.size w W ∧ Hid (Px W w.heap.size c i a l A kc) ∧ Hid (Px W bx c1 i1 a1 l1 X kx) ∧ Hid (Px W by_ c1 i1 a1 l1 Y ky) ∧ Hid (Px W bu c2 i2 a2 l2 U ku) ∧ Hid (Px W bv c2 i2 a2 l2 V kv)

theorem Sy.keep {w W : World} {c i : Int} {a : ByteArray} {A : Option Addr} {l : List At} {kc : Nat} {c1 i1 : Int} {a1 : ByteArray} {l1 : List At} {c2 i2 : Int} {a2 : ByteArray} {l2 : List At} {bx by_ bu bv : Nat} {X Y U V : Option Addr} {kx ky ku kv : Nat} {W' : World} (h : Hid (Sy w W c i a A l kc c1 i1 a1 l1 c2 i2 a2 l2 bx by_ bu bv X Y U V kx ky ku kv)) (hb : Below W.heap.size W W') : Hid (Sy w W' c i a A l kc c1 i1 a1 l1 c2 i2 a2 l2 bx by_ bu bv X Y U V kx ky ku kv) :=
  Lib.hid ⟨then_below h.out.1 hb, Px.keep h.out.2.1 hb, Px.keep h.out.2.2.1 hb, Px.keep h.out.2.2.2.1 hb, Px.keep h.out.2.2.2.2.1 hb, Px.keep h.out.2.2.2.2.2 hb⟩

theorem Sy.full {w W : World} {c i : Int} {a : ByteArray} {A : Option Addr} {l : List At} {kc : Nat} {c1 i1 : Int} {a1 : ByteArray} {l1 : List At} {c2 i2 : Int} {a2 : ByteArray} {l2 : List At} {bx by_ bu bv : Nat} {X Y U V : Option Addr} {kx ky ku kv : Nat} (h : Hid (Sy w W c i a A l kc c1 i1 a1 l1 c2 i2 a2 l2 bx by_ bu bv X Y U V kx ky ku kv)) : W.cell? ⟨w.heap.size, 0, none⟩ = some (.int .i64 c) ∧ W.cell? ⟨w.heap.size, 1, none⟩ = some (.int .i64 i) ∧ W.cell? ⟨w.heap.size, 2, none⟩ = some (.string a) ∧ W.cell? ⟨w.heap.size, 3, none⟩ = some (.slice A l.length kc) ∧ W.cell? ⟨bx, 0, none⟩ = some (.int .i64 c1) ∧ W.cell? ⟨bx, 1, none⟩ = some (.int .i64 i1) ∧ W.cell? ⟨bx, 2, none⟩ = some (.string a1) ∧ W.cell? ⟨bx, 3, none⟩ = some (.slice X l1.length kx) ∧ W.cell? ⟨by_, 0, none⟩ = some (.int .i64 c1) ∧ W.cell? ⟨by_, 1, none⟩ = some (.int .i64 i1) ∧ W.cell? ⟨by_, 2, none⟩ = some (.string a1) ∧ W.cell? ⟨by_, 3, none⟩ = some (.slice Y l1.length ky) ∧ W.cell? ⟨bu, 0, none⟩ = some (.int .i64 c2) ∧ W.cell? ⟨bu, 1, none⟩ = some (.int .i64 i2) ∧ W.cell? ⟨bu, 2, none⟩ = some (.string a2) ∧ W.cell? ⟨bu, 3, none⟩ = some (.slice U l2.length ku) ∧ W.cell? ⟨bv, 0, none⟩ = some (.int .i64 c2) ∧ W.cell? ⟨bv, 1, none⟩ = some (.int .i64 i2) ∧ W.cell? ⟨bv, 2, none⟩ = some (.string a2) ∧ W.cell? ⟨bv, 3, none⟩ = some (.slice V l2.length kv) := by
  obtain ⟨a0, a1, a2, a3⟩ := Px.four h.out.2.1
  obtain ⟨b0, b1, b2, b3⟩ := Px.four h.out.2.2.1
  obtain ⟨c0, c1, c2, c3⟩ := Px.four h.out.2.2.2.1
  obtain ⟨d0, d1, d2, d3⟩ := Px.four h.out.2.2.2.2.1
  obtain ⟨e0, e1, e2, e3⟩ := Px.four h.out.2.2.2.2.2
  exact ⟨a0, a1, a2, a3, b0, b1, b2, b3, c0, c1, c2, c3, d0, d1, d2, d3, e0, e1, e2, e3⟩

set_option maxRecDepth 20000 in
set_option maxHeartbeats 20000000 in
theorem says_all (c i : Int) (a u k : ByteArray) (l : List At) (A : Option Addr) (kc : Nat) (MM RR : ByteArray) (E1 E2 e1 c1 i1 : Int) (a1 : ByteArray) (l1 : List At) (e2 c2 i2 : Int) (a2 : ByteArray) (l2 : List At) (C1 C2 : Int) (w : World) (hA : Ats w A l) (hm : Home w) (h1 : u.size ≤ 300) (h2 : k.size ≤ 300)
    (HG : Hid (∀ w, Ats w A l → Calls Tryd.prog 5 #[pv c i a A l.length kc] w fun e w' => e = .returned (.bool false) ∧ Below w.heap.size w w'))
    (H1 : Hid (∀ w, Ats w A l → Home w → Calls Tryd.prog 7 #[pv c i a A l.length kc, .string u, .string k] w fun e w' => e = .returned (.tuple #[.string MM, .int .i64 E1]) ∧ Below w.heap.size w w'))
    (H2 : Hid (∀ w, Ats w A l → Home w → Calls Tryd.prog 8 #[pv c i a A l.length kc, .string u, .string k] w fun e w' => e = .returned (.tuple #[.string MM, .int .i64 E1]) ∧ Below w.heap.size w w'))
    (H3 : Hid (∀ w, Ats w A l → Home w → Calls Tryd.prog 9 #[pv c i a A l.length kc, .string u, .string k] w fun e w' => e = .returned (.tuple #[.string RR, .int .i64 E2]) ∧ Below w.heap.size w w'))
    (H4 : Hid (∀ w, Ats w A l → Home w → Calls Tryd.prog 10 #[pv c i a A l.length kc, .string u, .string k] w fun e w' => e = .returned (.tuple #[.string RR, .int .i64 E2]) ∧ Below w.heap.size w w'))
    (H5 : Hid (∀ w, Ats w A l → Home w → Calls Tryd.prog 11 #[pv c i a A l.length kc, .string k] w (GivesR ⟨e1, c1, i1, a1, l1⟩ w)))
    (H6 : Hid (∀ w, Ats w A l → Home w → Calls Tryd.prog 12 #[pv c i a A l.length kc, .string k] w (GivesD ⟨e1, c1, i1, a1, l1⟩ w)))
    (H7 : Hid (∀ w, Ats w A l → Home w → Calls Tryd.prog 13 #[pv c i a A l.length kc, .string u, .string k] w (GivesR ⟨e2, c2, i2, a2, l2⟩ w)))
    (H8 : Hid (∀ w, Ats w A l → Home w → Calls Tryd.prog 14 #[pv c i a A l.length kc, .string u, .string k] w (GivesD ⟨e2, c2, i2, a2, l2⟩ w)))
    (HS1 : Hid (∀ X kx Y ky w, Ats w X l1 → Ats w Y l1 → Calls Tryd.prog 15 #[pv c1 i1 a1 X l1.length kx, pv c1 i1 a1 Y l1.length ky] w fun e w' => e = .returned (.bool true) ∧ Below w.heap.size w w'))
    (HS2 : Hid (∀ X kx Y ky w, Ats w X l2 → Ats w Y l2 → Calls Tryd.prog 15 #[pv c2 i2 a2 X l2.length kx, pv c2 i2 a2 Y l2.length ky] w fun e w' => e = .returned (.bool true) ∧ Below w.heap.size w w'))
    (HC1 : Hid (∀ B kb w, Ats w B l → Home w → Calls Tryd.prog 16 #[pv c i a B l.length kb, .string u, .string k] w fun e w' => e = .returned (.int .i64 C1) ∧ Below w.heap.size w w'))
    (HC2 : Hid (∀ B kb w, Ats w B l → Home w → Calls Tryd.prog 17 #[pv c i a B l.length kb, .string u, .string k] w fun e w' => e = .returned (.int .i64 C1) ∧ Below w.heap.size w w'))
    (HC3 : Hid (∀ B kb w, Ats w B l2 → Home w → Calls Tryd.prog 16 #[pv c2 i2 a2 B l2.length kb, .string u, .string k] w fun e w' => e = .returned (.int .i64 C2) ∧ Below w.heap.size w w'))
    (HC4 : Hid (∀ B kb w, Ats w B l2 → Home w → Calls Tryd.prog 17 #[pv c2 i2 a2 B l2.length kb, .string u, .string k] w fun e w' => e = .returned (.int .i64 C2) ∧ Below w.heap.size w w')) :
    Calls Tryd.prog 3 #[pv c i a A l.length kc, .string u, .string k] w fun e w' => e = .returned (.bool true) ∧ Below w.heap.size w w' := by
  have S0 := Sp.new w c i a A l.length kc
  have HA := Lib.hid hA
  have HM := Lib.hid hm
  have q1 : decide (300 < (u.size : Int)) = false := by simp; omega
  have q2 : decide (300 < (k.size : Int)) = false := by simp; omega
  have HAW := Lib.hid awake_any
  clear hA hm
  go_enter Tryd.func3, Tryd.ntmps3
  go_wp2_with fail
  refine (HG.out _ (HA.out.below S0.out.1)).mono ?_; rintro e w1 ⟨rfl, hb1⟩
  have S1 := Sp.keep S0 hb1
  obtain ⟨c0, c1', c2', c3⟩ := S1.out.2.all4
  clear hb1 S0
  go_wp2_with fail
  refine (H1.out _ (HA.out.below S1.out.1) (HM.out.below S1.out.1)).mono ?_; rintro e w2 ⟨rfl, hb2⟩
  clear c0 c1' c2' c3
  have S2 := Sp.keep S1 hb2
  obtain ⟨c0, c1', c2', c3⟩ := S2.out.2.all4
  clear hb2 S1
  go_wp2_with fail
  refine (H2.out _ (HA.out.below S2.out.1) (HM.out.below S2.out.1)).mono ?_; rintro e w3 ⟨rfl, hb3⟩
  clear c0 c1' c2' c3
  have S3 := Sp.keep S2 hb3
  obtain ⟨c0, c1', c2', c3⟩ := S3.out.2.all4
  clear hb3 S2
  go_wp2_with fail
  refine (H3.out _ (HA.out.below S3.out.1) (HM.out.below S3.out.1)).mono ?_; rintro e w4 ⟨rfl, hb4⟩
  clear c0 c1' c2' c3
  have S4 := Sp.keep S3 hb4
  obtain ⟨c0, c1', c2', c3⟩ := S4.out.2.all4
  clear hb4 S3
  go_wp2_with fail
  refine (H4.out _ (HA.out.below S4.out.1) (HM.out.below S4.out.1)).mono ?_; rintro e w5 ⟨rfl, hb5⟩
  clear c0 c1' c2' c3
  have S5 := Sp.keep S4 hb5
  obtain ⟨c0, c1', c2', c3⟩ := S5.out.2.all4
  clear hb5 S4
  go_wp2_with fail
  refine (H5.out _ (HA.out.below S5.out.1) (HM.out.below S5.out.1)).mono ?_; rintro e w6 ⟨X, kx, rfl, _, _, _, hX, hb6⟩
  clear c0 c1' c2' c3
  simp only at hX
  have bel6 := bel_box hb6 (po c1 i1 a1 X l1.length kx)
  have S6 := Sp.keep S5 bel6
  have P6 := Px.new (c := c1) (i := i1) (a := a1) (kx := kx) hX
  obtain ⟨c0, c1', c2', c3⟩ := S6.out.2.all4
  clear hb6 bel6 hX S5
  go_wp2_with fail
  refine (H6.out _ (HA.out.below S6.out.1) (HM.out.below S6.out.1)).mono ?_; rintro e w7 ⟨Y, ky, rfl, _, hY, hb7⟩
  clear c0 c1' c2' c3
  simp only at hY
  have bel7 := bel_box hb7 (po c1 i1 a1 Y l1.length ky)
  have S7 := Sp.keep S6 bel7
  have P7 := Px.new (c := c1) (i := i1) (a := a1) (kx := ky) hY
  replace P6 := Px.keep P6 bel7
  obtain ⟨c0, c1', c2', c3⟩ := S7.out.2.all4
  clear hb7 bel7 hY S6
  go_wp2_with fail
  refine (H7.out _ (HA.out.below S7.out.1) (HM.out.below S7.out.1)).mono ?_; rintro e w8 ⟨U, ku, rfl, _, _, _, hU, hb8⟩
  clear c0 c1' c2' c3
  simp only at hU
  have bel8 := bel_box hb8 (po c2 i2 a2 U l2.length ku)
  have S8 := Sp.keep S7 bel8
  have P8 := Px.new (c := c2) (i := i2) (a := a2) (kx := ku) hU
  replace P6 := Px.keep P6 bel8
  replace P7 := Px.keep P7 bel8
  obtain ⟨c0, c1', c2', c3⟩ := S8.out.2.all4
  clear hb8 bel8 hU S7
  go_wp2_with fail
  refine (H8.out _ (HA.out.below S8.out.1) (HM.out.below S8.out.1)).mono ?_; rintro e w9 ⟨V, kv, rfl, _, hV, hb9⟩
  clear c0 c1' c2' c3
  simp only at hV
  have bel9 := bel_box hb9 (po c2 i2 a2 V l2.length kv)
  have S9 := Sp.keep S8 bel9
  have P9 := Px.new (c := c2) (i := i2) (a := a2) (kx := kv) hV
  replace P6 := Px.keep P6 bel9
  replace P7 := Px.keep P7 bel9
  replace P8 := Px.keep P8 bel9
  obtain ⟨c0, c1', c2', c3⟩ := S9.out.2.all4
  clear hb9 bel9 hV S8
  go_wp2_with fail
  have SS : Hid (Sy w (w9.alloc (po c2 i2 a2 V l2.length kv)) c i a A l kc c1 i1 a1 l1 c2 i2 a2 l2 w6.heap.size w7.heap.size w8.heap.size w9.heap.size X Y U V kx ky ku kv) := Lib.hid ⟨S9.out.1, Lib.hid ⟨S9.out.2, HA.out.below S9.out.1⟩, P6, P7, P8, P9⟩
  clear P6 P7 P8 P9 S9 c0 c1' c2' c3
  generalize w6.heap.size = bx at *
  generalize w7.heap.size = by_ at *
  generalize w8.heap.size = bu at *
  generalize w9.heap.size = bv at *
  generalize w9.alloc (po c2 i2 a2 V l2.length kv) = W at *
  obtain ⟨SW, hSW⟩ : ∃ SW : World → Prop, SW = fun W => Sy w W c i a A l kc c1 i1 a1 l1 c2 i2 a2 l2 bx by_ bu bv X Y U V kx ky ku kv := ⟨_, rfl⟩
  have K0 : Hid (∀ W W', Hid (SW W) → Below W.heap.size W W' → (W'.cell? ⟨w.heap.size, 0, none⟩ = some (.int .i64 c) ∧ W'.cell? ⟨w.heap.size, 1, none⟩ = some (.int .i64 i) ∧ W'.cell? ⟨w.heap.size, 2, none⟩ = some (.string a) ∧ W'.cell? ⟨w.heap.size, 3, none⟩ = some (.slice A l.length kc) ∧ W'.cell? ⟨bx, 0, none⟩ = some (.int .i64 c1) ∧ W'.cell? ⟨bx, 1, none⟩ = some (.int .i64 i1) ∧ W'.cell? ⟨bx, 2, none⟩ = some (.string a1) ∧ W'.cell? ⟨bx, 3, none⟩ = some (.slice X l1.length kx) ∧ W'.cell? ⟨by_, 0, none⟩ = some (.int .i64 c1) ∧ W'.cell? ⟨by_, 1, none⟩ = some (.int .i64 i1) ∧ W'.cell? ⟨by_, 2, none⟩ = some (.string a1) ∧ W'.cell? ⟨by_, 3, none⟩ = some (.slice Y l1.length ky) ∧ W'.cell? ⟨bu, 0, none⟩ = some (.int .i64 c2) ∧ W'.cell? ⟨bu, 1, none⟩ = some (.int .i64 i2) ∧ W'.cell? ⟨bu, 2, none⟩ = some (.string a2) ∧ W'.cell? ⟨bu, 3, none⟩ = some (.slice U l2.length ku) ∧ W'.cell? ⟨bv, 0, none⟩ = some (.int .i64 c2) ∧ W'.cell? ⟨bv, 1, none⟩ = some (.int .i64 i2) ∧ W'.cell? ⟨bv, 2, none⟩ = some (.string a2) ∧ W'.cell? ⟨bv, 3, none⟩ = some (.slice V l2.length kv)) ∧ Hid (SW W')) := Lib.hid (by
    subst hSW
    exact fun W W' h hb => ⟨Sy.full (Sy.keep h hb), Sy.keep h hb⟩)
  have D1 : Hid (∀ W, Hid (SW W) → Calls Tryd.prog 16 #[pv c i a A l.length kc, .string u, .string k] W fun e w' => e = .returned (.int .i64 C1) ∧ Below W.heap.size W w') := Lib.hid (by subst hSW; exact fun W h => HC1.out A kc W h.out.2.1.out.2 (HM.out.below h.out.1))
  have D2 : Hid (∀ W, Hid (SW W) → Calls Tryd.prog 17 #[pv c i a A l.length kc, .string u, .string k] W fun e w' => e = .returned (.int .i64 C1) ∧ Below W.heap.size W w') := Lib.hid (by subst hSW; exact fun W h => HC2.out A kc W h.out.2.1.out.2 (HM.out.below h.out.1))
  have D3 : Hid (∀ W, Hid (SW W) → Calls Tryd.prog 16 #[pv c2 i2 a2 V l2.length kv, .string u, .string k] W fun e w' => e = .returned (.int .i64 C2) ∧ Below W.heap.size W w') := Lib.hid (by subst hSW; exact fun W h => HC3.out V kv W h.out.2.2.2.2.2.out.2 (HM.out.below h.out.1))
  have D4 : Hid (∀ W, Hid (SW W) → Calls Tryd.prog 17 #[pv c2 i2 a2 V l2.length kv, .string u, .string k] W fun e w' => e = .returned (.int .i64 C2) ∧ Below W.heap.size W w') := Lib.hid (by subst hSW; exact fun W h => HC4.out V kv W h.out.2.2.2.2.2.out.2 (HM.out.below h.out.1))
  have D5 : Hid (∀ W, Hid (SW W) → Calls Tryd.prog 15 #[pv c1 i1 a1 X l1.length kx, pv c1 i1 a1 Y l1.length ky] W fun e w' => e = .returned (.bool true) ∧ Below W.heap.size W w') := Lib.hid (by subst hSW; exact fun W h => HS1.out X kx Y ky W h.out.2.2.1.out.2 h.out.2.2.2.1.out.2)
  have D6 : Hid (∀ W, Hid (SW W) → Calls Tryd.prog 15 #[pv c2 i2 a2 U l2.length ku, pv c2 i2 a2 V l2.length kv] W fun e w' => e = .returned (.bool true) ∧ Below W.heap.size W w') := Lib.hid (by subst hSW; exact fun W h => HS2.out U ku V kv W h.out.2.2.2.2.1.out.2 h.out.2.2.2.2.2.out.2)
  have D7 : Hid (∀ W, Hid (SW W) → Calls Tryd.prog 6 #[] W fun e w' => e = .returned (.bool true) ∧ Below W.heap.size W w') := Lib.hid (by subst hSW; exact fun W h => HAW.out W (HM.out.below h.out.1))
  have DB : Hid (∀ W, Hid (SW W) → Below w.heap.size w W) := Lib.hid (by subst hSW; exact fun W h => h.out.1)
  replace SS : Hid (SW W) := by subst hSW; exact SS
  clear hSW HC1 HC2 HC3 HC4 HS1 HS2 HAW HM HA HG H1 H2 H3 H4 H5 H6 H7 H8 q1 q2
  have zz := K0.out W W.drew SS ((Below.refl _ W).drew)
  go_region_held3 (fun W => (W.cell? ⟨w.heap.size, 0, none⟩ = some (.int .i64 c) ∧ W.cell? ⟨w.heap.size, 1, none⟩ = some (.int .i64 i) ∧ W.cell? ⟨w.heap.size, 2, none⟩ = some (.string a) ∧ W.cell? ⟨w.heap.size, 3, none⟩ = some (.slice A l.length kc) ∧ W.cell? ⟨bx, 0, none⟩ = some (.int .i64 c1) ∧ W.cell? ⟨bx, 1, none⟩ = some (.int .i64 i1) ∧ W.cell? ⟨bx, 2, none⟩ = some (.string a1) ∧ W.cell? ⟨bx, 3, none⟩ = some (.slice X l1.length kx) ∧ W.cell? ⟨by_, 0, none⟩ = some (.int .i64 c1) ∧ W.cell? ⟨by_, 1, none⟩ = some (.int .i64 i1) ∧ W.cell? ⟨by_, 2, none⟩ = some (.string a1) ∧ W.cell? ⟨by_, 3, none⟩ = some (.slice Y l1.length ky) ∧ W.cell? ⟨bu, 0, none⟩ = some (.int .i64 c2) ∧ W.cell? ⟨bu, 1, none⟩ = some (.int .i64 i2) ∧ W.cell? ⟨bu, 2, none⟩ = some (.string a2) ∧ W.cell? ⟨bu, 3, none⟩ = some (.slice U l2.length ku) ∧ W.cell? ⟨bv, 0, none⟩ = some (.int .i64 c2) ∧ W.cell? ⟨bv, 1, none⟩ = some (.int .i64 i2) ∧ W.cell? ⟨bv, 2, none⟩ = some (.string a2) ∧ W.cell? ⟨bv, 3, none⟩ = some (.slice V l2.length kv)) ∧ Hid (SW W))
    (first | exact zz | (go_split_ands; exact K0.out _ _ (by assumption) (by assumption)))
    (first
      | (go_at_call 16; go_split_ands; with_reducible refine (D1.out _ (by assumption)).mono ?_; rintro e x ⟨rfl, hb⟩)
      | (go_at_call 17; go_split_ands; with_reducible refine (D2.out _ (by assumption)).mono ?_; rintro e x ⟨rfl, hb⟩)
      | (go_at_call 16; go_split_ands; with_reducible refine (D3.out _ (by assumption)).mono ?_; rintro e x ⟨rfl, hb⟩)
      | (go_at_call 17; go_split_ands; with_reducible refine (D4.out _ (by assumption)).mono ?_; rintro e x ⟨rfl, hb⟩)
      | (go_at_call 15; go_split_ands; with_reducible refine (D5.out _ (by assumption)).mono ?_; rintro e x ⟨rfl, hb⟩)
      | (go_at_call 15; go_split_ands; with_reducible refine (D6.out _ (by assumption)).mono ?_; rintro e x ⟨rfl, hb⟩)
      | (go_at_call 6; go_split_ands; with_reducible refine (D7.out _ (by assumption)).mono ?_; rintro e x ⟨rfl, hb⟩))
  all_goals
    go_split_ands
    have BE := Lib.hid (DB.out _ (by assumption))
    go_wp2
    go_ret
    exact ⟨rfl, BE.out⟩

theorem sign_few (c i : Int) (a : ByteArray) (l : List At) (u k : ByteArray) : (signP c i a l u k).l.length ≤ l.length + 1 := by
  unfold signP
  split
  · exact put_length _ _ _
  · exact Nat.zero_le _

theorem sign_size (c i : Int) (a : ByteArray) (l : List At) (u k : ByteArray) (ha : a.size ≤ maxLen) : (signP c i a l u k).a.size ≤ maxLen := by
  unfold signP
  split
  · exact ha
  · exact Nat.zero_le _

theorem reply_few (c i : Int) (l : List At) (u k : ByteArray) : (replyP c i l u k).l.length ≤ l.length + 1 := by
  unfold replyP
  split
  · exact put_length _ _ _
  · exact Nat.zero_le _

theorem reply_size (c i : Int) (l : List At) (u k : ByteArray) : (replyP c i l u k).a.size ≤ maxLen := by
  unfold replyP
  split
  · exact Nat.le_trans (rT_le _ _ _ _ _) (by unfold maxLen; omega)
  · exact Nat.zero_le _

theorem same_self (c i : Int) (a : ByteArray) (l : List At) (hl : l.length ≤ maxLen) (X Y : Option Addr) (kx ky : Nat) (w : World) (hX : Ats w X l) (hY : Ats w Y l) :
    Calls Tryd.prog 15 #[pv c i a X l.length kx, pv c i a Y l.length ky] w fun e w' => e = .returned (.bool true) ∧ Below w.heap.size w w' := by
  have e := Pac.rsame_any c i a l c i a l hl hl X Y kx ky w hX hY
  rwa [show sameP c i a l c i a l = true from decide_eq_true ⟨rfl, rfl, rfl, rfl⟩] at e

theorem walk_says (w : World) (c i : Int) (a : ByteArray) (ha : a.size ≤ maxLen) (l : List At) (hl : l.length ≤ maxLen) (A : Option Addr) (kc : Nat) (_hcap : l.length ≤ kc) (_hnil : A = none → kc = 0) (hA : Ats w A l) (u : ByteArray) (hu : u.size ≤ maxLen) (k : ByteArray) (_hk : k.size ≤ maxLen) (hm : Home w) :
    Calls Tryd.prog 3 #[pv c i a A l.length kc, .string u, .string k] w fun e w' => e = .returned (.bool true) ∧ Below w.heap.size w w' := by
  have HG := Lib.hid (fun w hA => long_any c i a ha l hl A kc w hA)
  cases hg : longP a l with
  | true =>
    rw [hg] at HG
    exact only_a c i a u k l A kc w hA hm HG
  | false =>
    rw [hg] at HG
    by_cases h1 : 300 < u.size
    · exact only_b c i a u k l A kc w hA hm h1 HG
    · by_cases h2 : 300 < k.size
      · exact only_c c i a u k l A kc w hA hm (by omega) h2 HG
      · have hf := longP_few hg
        have hs1 := sign_few c i a l a k
        have hs2 := reply_few c i l u k
        have hs3 := reply_size c i l u k
        have hs4 := sign_size c i a l a k ha
        have H1 := Lib.hid (fun w hA hm => message_any c i a u k hu (by omega) l (by omega) A kc w hA hm)
        have H2 := Lib.hid (fun w hA (_ : Home w) => rmessage_any c i a u k hu (by omega) l (by omega) A kc w hA)
        have H3 := Lib.hid (fun w hA hm => response_any c i a u k hu (by omega) l hl A kc w hA hm)
        have H4 := Lib.hid (fun w hA (_ : Home w) => rresponse_any c i a u k hu (by omega) l hl A kc w hA)
        have H5 := Lib.hid (fun w hA hm => request_any c i a k ha (by omega) l (by omega) A kc w hA hm)
        have H6 := Lib.hid (fun w hA hm => rrequest_any c i a k ha (by omega) l (by omega) A kc w hA hm)
        have H7 := Lib.hid (fun w hA hm => reply_any c i a u k hu (by omega) l (by omega) A kc w hA hm)
        have H8 := Lib.hid (fun w hA hm => rreply_any c i a u k hu (by omega) l (by omega) A kc w hA hm)
        have HC1 := Lib.hid (fun B kb w hB hm => check_any c i a u k ha hu (by omega) l (by omega) B kb w hB hm)
        have HC2 := Lib.hid (fun B kb w hB hm => rcheck_any c i a u k ha hu (by omega) l (by omega) B kb w hB hm)
        generalize signP c i a l a k = r1 at *
        generalize replyP c i l u k = r2 at *
        obtain ⟨e1, c1, i1, a1, l1⟩ := r1
        obtain ⟨e2, c2, i2, a2, l2⟩ := r2
        simp only at hs1 hs2 hs3 hs4
        have HC3 := Lib.hid (fun B kb w hB hm => check_any c2 i2 a2 u k hs3 hu (by omega) l2 (by omega) B kb w hB hm)
        have HC4 := Lib.hid (fun B kb w hB hm => rcheck_any c2 i2 a2 u k hs3 hu (by omega) l2 (by omega) B kb w hB hm)
        refine says_all c i a u k l A kc _ _ _ _ e1 c1 i1 a1 l1 e2 c2 i2 a2 l2 _ _ w hA hm (by omega) (by omega) HG H1 H2 H3 H4 H5 H6 H7 H8 ?_ ?_ HC1 HC2 HC3 HC4
        · exact Lib.hid fun X kx Y ky w hX hY => same_self c1 i1 a1 l1 (by unfold maxLen; omega) X Y kx ky w hX hY
        · exact Lib.hid fun X kx Y ky w hX hY => same_self c2 i2 a2 l2 (by unfold maxLen; omega) X Y kx ky w hX hY

end Sig
namespace LawSignSays
open Go.ChangeShapes Go.WideShapes Go.ChangeAt Go.RowKit
open Go.ChangeMaps (open_string shut_string)

theorem own : ownKnob Tryd.prog.godebug = none := by kernel_rfl
theorem laidOut : laidOutB Tryd.prog = true := by kernel_rfl
theorem plain : (Rows.signSaysRow.laid.all fun x => x.2.handleName?.isNone) = true := by kernel_rfl

set_option maxRecDepth 100000 in
theorem lifted (os : Os) (started : os.Started) (H : Type) (enc : TypeId × Value → H) :
    ReturnsInHanded {} Tryd.checked os 3 .any (fun w args => (Rows.signSaysSpec.pre enc Tryd.prog Tryd.f3 Rows.signSaysRow.domain false w args ∧ laidMetH Tryd.prog Rows.signSaysRow.laid w) ∧ sizedMet enc Tryd.prog Tryd.f3 (OpenSpec.ofChange Rows.signSaysSpec) false w args)
      (Rows.signSaysSpec.post enc Tryd.prog Tryd.f3 false true false false) := by
  refine Fr.law_lift_laid (C := Tryd.checked) (laid := Rows.signSaysRow.laid) (tb := 4) own started (by kernel_rfl) Tryd.func3
    (ChangeSpec.witness_shaped (enc := enc) (C := Tryd.checked) (os := os) (X := fun w _ => laidMetH Tryd.prog Rows.signSaysRow.laid w) false (World.laidAll Tryd.prog os Rows.signSaysRow.laid) #[.agg #[.int .i64 0, .int .i64 0, .string ByteArray.empty, .slice none 0 0], .string ByteArray.empty, .string ByteArray.empty] 8 (World.laidAll_os _ _ _)
      (World.shaped_of_ZipB (by kernel_rfl) (by kernel_rfl)) (by kernel_rfl) (by kernel_rfl) (by kernel_rfl)
      (by rw [MakeChecks.laidMetH_plain _ _ _ plain]; exact laidMet_laidAll _ (by kernel_rfl) (by kernel_rfl)))
    laidOut (by rw [Tryd.params3]; decide +kernel) rfl Tryd.underlying4 rfl ?_ ?_
  · intro ds hl
    match ds, hl with
    | [d0, d1, d2], _ => rfl
  · intro W base args ds p hsh hL hval hA
    rw [Tryd.params3] at hA hval
    obtain ⟨v0, vs0, d0, ds0, p0, q0, hargs, rfl, rfl, h0, r0⟩ := trodAll_cons hA
    obtain ⟨v1, vs1, d1, ds1, p1, q1, rfl, rfl, rfl, h1, r1⟩ := trodAll_cons r0
    obtain ⟨v2, vs2, d2, ds2, p2, q2, rfl, rfl, rfl, h2, r2⟩ := trodAll_cons r1
    obtain ⟨rfl, rfl, rfl⟩ := trodAll_nil r2
    obtain rfl : args = #[v0, v1, v2] := by cases args; simp_all
    obtain ⟨c0, i0, a0, A0, l0, k0, rfl, ha0, hl0, hk0, hn0, hA0⟩ := Pac.open_packet (hval 0 24 v0 rfl rfl) h0
    obtain ⟨a1, rfl, rfl, rfl, w1⟩ := open_string Tryd.underlying9 (hval 1 9 v1 rfl rfl) h1
    obtain ⟨a2, rfl, rfl, rfl, w2⟩ := open_string Tryd.underlying9 (hval 2 9 v2 rfl rfl) h2
    exact Sig.walk_says W c0 i0 a0 ha0 l0 hl0 A0 k0 hk0 hn0 hA0 a1 w1 a2 w2 (Dig.home_of hsh hL plain (by simp [Rows.signSaysRow]))

theorem over : Rows.signSaysRow.holds Tryd.pinned (OpenSpec.ofChange Rows.signSaysSpec) :=
  OpenClaim.holds_of_wide 3 Tryd.f3 rfl rfl rfl rfl rfl rfl rfl ⟨rfl, rfl, rfl, rfl, rfl⟩ rfl rfl rfl rfl rfl (by kernel_rfl) Tryd.func3 (by kernel_rfl)
    (of_decide_eq_true (by kernel_rfl)) (by unfold Func.isWrapper; first | (rw [if_pos (by decide +kernel)]; kernel_rfl) | (rw [if_neg (by decide +kernel)]; exact ⟨rfl, rfl⟩))
    (fun os started H enc _ => lifted os started H enc)
end LawSignSays

/-- The statement SignSays (the tied card). -/
theorem signSays_holds : Rows.SignSaysCardSaid :=
  Claim7.holds_tied_plain_at .later [] _ true _ _ LawSignSays.over (fun _ h => by cases h) (by kernel_rfl) (fun _ h => by cases h) signSays_row_tie rfl ⟨rfl, rfl⟩ (by kernel_rfl) rfl
    (fun f fn hf hfn => by
      obtain rfl : f = 3 := Option.some.inj ((show Tryd.prog.funcNamed Rows.signSaysRow.func = some 3 by kernel_rfl).symm.trans hf) |>.symm
      obtain rfl : fn = Tryd.f3 := (Option.some.inj (Tryd.func3.symm.trans hfn)).symm
      exact ⟨by kernel_rfl, fun j t ht => by
        rw [Tryd.params3] at ht
        have hm : t ∈ [24, 9] := by have := Array.mem_of_getElem? ht; simp at this; simp [this]
        have hall : ([24, 9].all fun u => !Tryd.prog.wantsStandIn u) = true := by kernel_rfl
        exact (show Tryd.prog.wantsStandIn t = false by simpa using List.all_eq_true.1 hall t hm)⟩)
    (by kernel_rfl)

end Go.Proofs.YtaeeonohakkgbaaDoor
