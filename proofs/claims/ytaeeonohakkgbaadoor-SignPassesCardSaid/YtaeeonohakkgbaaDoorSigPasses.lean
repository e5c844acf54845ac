/-
  The statement SignPasses (a tied card): for every packet, authenticator and secret the law SignPasses returns true, and its arguments read afterwards as they read before.
-/
import Derived.Test.YtaeeonohakkgbaaDoorSigE
import Derived.Test.YtaeeonohakkgbaaDoorPacH
import Derived.Test.YtaeeonohakkgbaaDoorPacOpen
import Derived.Test.YtaeeonohakkgbaaDoorDigHome
import Derived.Test.YtaeeonohakkgbaaDoorCards
import Derived.Test.YtaeeonohakkgbaaDoorTie
import Derived.SevenTiedAt
import Derived.Deep.RegionHeld3
namespace Go.Proofs.YtaeeonohakkgbaaDoor
open Go.RowKit
namespace Sig
open Oct Att Pac Key Bx Dig

set_option maxRecDepth 20000 in
set_option maxHeartbeats 2000000 in
theorem only_a (c i : Int) (a u k : ByteArray) (l : List At) (A : Option Addr) (kc : Nat) (w : World) (hA : Ats w A l) (hm : Home w)
    (HG : Hid (∀ w, Ats w A l → Calls Tryd.prog 5 #[pv c i a A l.length kc] w fun e w' => e = .returned (.bool true) ∧ Below w.heap.size w w')) :
    Calls Tryd.prog 4 #[pv c i a A l.length kc, .string u, .string k] w fun e w' => e = .returned (.bool true) ∧ Below w.heap.size w w' := by
  have S0 := Sp.new w c i a A l.length kc
  have HA := Lib.hid hA
  have HM := Lib.hid hm
  clear hA hm
  go_enter Tryd.func4, Tryd.ntmps4
  go_wp2_with fail
  refine (HG.out _ (HA.out.below S0.out.1)).mono ?_; rintro e w1 ⟨rfl, hb1⟩
  have B1 := Lib.hid (then_below S0.out.1 hb1)
  clear hb1
  go_wp2_with fail
  refine (awake_any _ (HM.out.below B1.out)).mono ?_; rintro e w2 ⟨rfl, hb2⟩
  have B2 := Lib.hid (then_below B1.out hb2)
  clear hb2
  go_wp2_with fail
  go_ret
  exact ⟨rfl, B2.out⟩

set_option maxRecDepth 20000 in
set_option maxHeartbeats 2000000 in
theorem only_b (c i : Int) (a u k : ByteArray) (l : List At) (A : Option Addr) (kc : Nat) (w : World) (hA : Ats w A l) (hm : Home w) (h1 : 300 < u.size)
    (HG : Hid (∀ w, Ats w A l → Calls Tryd.prog 5 #[pv c i a A l.length kc] w fun e w' => e = .returned (.bool false) ∧ Below w.heap.size w w')) :
    Calls Tryd.prog 4 #[pv c i a A l.length kc, .string u, .string k] w fun e w' => e = .returned (.bool true) ∧ Below w.heap.size w w' := by
  have S0 := Sp.new w c i a A l.length kc
  have HA := Lib.hid hA
  have HM := Lib.hid hm
  have q1 : decide (300 < (u.size : Int)) = true := by simp; omega
  clear hA hm
  go_enter Tryd.func4, Tryd.ntmps4
  go_wp2_with fail
  refine (HG.out _ (HA.out.below S0.out.1)).mono ?_; rintro e w1 ⟨rfl, hb1⟩
  have B1 := Lib.hid (then_below S0.out.1 hb1)
  clear hb1
  go_wp2_with fail
  refine (awake_any _ (HM.out.below B1.out)).mono ?_; rintro e w2 ⟨rfl, hb2⟩
  have B2 := Lib.hid (then_below B1.out hb2)
  clear hb2
  go_wp2_with fail
  go_ret
  exact ⟨rfl, B2.out⟩

set_option maxRecDepth 20000 in
set_option maxHeartbeats 2000000 in
theorem only_c (c i : Int) (a u k : ByteArray) (l : List At) (A : Option Addr) (kc : Nat) (w : World) (hA : Ats w A l) (hm : Home w) (h1 : u.size ≤ 300) (h2 : 300 < k.size)
    (HG : Hid (∀ w, Ats w A l → Calls Tryd.prog 5 #[pv c i a A l.length kc] w fun e w' => e = .returned (.bool false) ∧ Below w.heap.size w w')) :
    Calls Tryd.prog 4 #[pv c i a A l.length kc, .string u, .string k] w fun e w' => e = .returned (.bool true) ∧ Below w.heap.size w w' := by
  have S0 := Sp.new w c i a A l.length kc
  have HA := Lib.hid hA
  have HM := Lib.hid hm
  have q1 : decide (300 < (u.size : Int)) = false := by simp; omega
  have q2 : decide (300 < (k.size : Int)) = true := by simp; omega
  clear hA hm
  go_enter Tryd.func4, Tryd.ntmps4
  go_wp2_with fail
  refine (HG.out _ (HA.out.below S0.out.1)).mono ?_; rintro e w1 ⟨rfl, hb1⟩
  have B1 := Lib.hid (then_below S0.out.1 hb1)
  clear hb1
  go_wp2_with fail
  refine (awake_any _ (HM.out.below B1.out)).mono ?_; rintro e w2 ⟨rfl, hb2⟩
  have B2 := Lib.hid (then_below B1.out hb2)
  clear hb2
  go_wp2_with fail
  go_ret
  exact ⟨rfl, B2.out⟩

/-- What stands in the law: all that was there, and the packet's box. -/
def To (w W : World) (p : List Value) : Prop := Below w.heap.size w W ∧ Fre W w.heap.size p

theorem To.keep {w W W' : World} {p : List Value} (h : Hid (To w W p)) (hb : Below W.heap.size W W') : Hid (To w W' p) := Lib.hid ⟨then_below h.out.1 hb, h.out.2.keep hb⟩

theorem To.new (w : World) (c i : Int) (a : ByteArray) (A : Option Addr) (n k : Nat) : Hid (To w (w.alloc (po c i a A n k)) (pl c i a A n k)) := Lib.hid ⟨box_below w _, Fre.new w (pl c i a A n k) 24⟩

theorem To.inp {w W : World} {y0 y1 y2 y3 x0 x1 x2 x3 : Value} (h : Hid (To w W [y0, y1, y2, y3])) : Hid (To w ((((W.setCell ⟨w.heap.size, 0, none⟩ x0).setCell ⟨w.heap.size, 1, none⟩ x1).setCell ⟨w.heap.size, 2, none⟩ x2).setCell ⟨w.heap.size, 3, none⟩ x3) [x0, x1, x2, x3]) :=
  Lib.hid ⟨(((h.out.1.setCell (p := ⟨w.heap.size, 0, none⟩) (Nat.le_refl _) x0).setCell (p := ⟨w.heap.size, 1, none⟩) (Nat.le_refl _) x1).setCell (p := ⟨w.heap.size, 2, none⟩) (Nat.le_refl _) x2).setCell (p := ⟨w.heap.size, 3, none⟩) (Nat.le_refl _) x3,
    fre_set (fre_set (fre_set (fre_set h.out.2 0 x0) 1 x1) 2 x2) 3 x3⟩

theorem To.lt {w W : World} {p : List Value} (h : Hid (To w W p)) : w.heap.size + 1 ≤ W.heap.size := h.out.2.2.1

/-- What stands while the answers are compared. -/
def Sy (w W : World) (q : Nat) (c i : Int) (a v : ByteArray) (B : Option Addr) (l : List At) (kb : Nat) (B2 : Option Addr) (L : List At) (kb2 : Nat) : Prop :=
  Below w.heap.size w W ∧ Blk W w.heap.size (pl c i a B l.length kb) ∧ Blk W q (pl c i v B2 L.length kb2) ∧ Ats W B l ∧ Ats W B2 L

theorem Sy.keep {w W : World} {q : Nat} {c i : Int} {a v : ByteArray} {B : Option Addr} {l : List At} {kb : Nat} {B2 : Option Addr} {L : List At} {kb2 : Nat} {W' : World} (h : Hid (Sy w W q c i a v B l kb B2 L kb2)) (hb : Below W.heap.size W W') : Hid (Sy w W' q c i a v B l kb B2 L kb2) :=
  Lib.hid ⟨then_below h.out.1 hb, h.out.2.1.keep hb, h.out.2.2.1.keep hb, h.out.2.2.2.1.below hb, h.out.2.2.2.2.below hb⟩
theorem Sy.drew {w W : World} {q : Nat} {c i : Int} {a v : ByteArray} {B : Option Addr} {l : List At} {kb : Nat} {B2 : Option Addr} {L : List At} {kb2 : Nat} (h : Hid (Sy w W q c i a v B l kb B2 L kb2)) : Hid (Sy w W.drew q c i a v B l kb B2 L kb2) := Sy.keep h ((Below.refl _ W).drew)
theorem Sy.b {w W : World} {q : Nat} {c i : Int} {a v : ByteArray} {B : Option Addr} {l : List At} {kb : Nat} {B2 : Option Addr} {L : List At} {kb2 : Nat} (h : Hid (Sy w W q c i a v B l kb B2 L kb2)) : Ats W B l := h.out.2.2.2.1
theorem Sy.b2 {w W : World} {q : Nat} {c i : Int} {a v : ByteArray} {B : Option Addr} {l : List At} {kb : Nat} {B2 : Option Addr} {L : List At} {kb2 : Nat} (h : Hid (Sy w W q c i a v B l kb B2 L kb2)) : Ats W B2 L := h.out.2.2.2.2
theorem Sy.home {w W : World} {q : Nat} {c i : Int} {a v : ByteArray} {B : Option Addr} {l : List At} {kb : Nat} {B2 : Option Addr} {L : List At} {kb2 : Nat} (hm : Home w) (h : Hid (Sy w W q c i a v B l kb B2 L kb2)) : Home W := hm.below h.out.1
theorem Sy.full {w W : World} {q : Nat} {c i : Int} {a v : ByteArray} {B : Option Addr} {l : List At} {kb : Nat} {B2 : Option Addr} {L : List At} {kb2 : Nat} (h : Hid (Sy w W q c i a v B l kb B2 L kb2)) : W.cell? ⟨w.heap.size, 0, none⟩ = some (.int .i64 c) ∧ W.cell? ⟨w.heap.size, 1, none⟩ = some (.int .i64 i) ∧ W.cell? ⟨w.heap.size, 3, none⟩ = some (.slice B l.length kb) ∧ W.cell? ⟨q, 0, none⟩ = some (.int .i64 c) ∧ W.cell? ⟨q, 1, none⟩ = some (.int .i64 i) ∧ W.cell? ⟨q, 2, none⟩ = some (.string v) ∧ W.cell? ⟨q, 3, none⟩ = some (.slice B2 L.length kb2) ∧ Hid (Sy w W q c i a v B l kb B2 L kb2) := by
  obtain ⟨a0, a1, a2, a3⟩ := h.out.2.1.all4
  obtain ⟨b0, b1, b2, b3⟩ := h.out.2.2.1.all4
  exact ⟨a0, a1, a3, b0, b1, b2, b3, h⟩

set_option maxRecDepth 20000 in
set_option maxHeartbeats 4000000 in
theorem pass_err (c i : Int) (a u k : ByteArray) (l l1 : List At) (A : Option Addr) (kc : Nat) (w : World) (hA : Ats w A l) (hm : Home w) (h1 : u.size ≤ 300) (h2 : k.size ≤ 300)
    (HG : Hid (∀ w, Ats w A l → Calls Tryd.prog 5 #[pv c i a A l.length kc] w fun e w' => e = .returned (.bool false) ∧ Below w.heap.size w w'))
    (HO : Hid (∀ w, Ats w A l → Calls Tryd.prog 18 #[pv c i a A l.length kc, .int .i64 80] w (GivesN c i a l1 w)))
    (HR : Hid (∀ B kb w, Ats w B l1 → Home w → Calls Tryd.prog 13 #[pv c i a B l1.length kb, .string u, .string k] w (GivesR (noR 1) w))) :
    Calls Tryd.prog 4 #[pv c i a A l.length kc, .string u, .string k] w fun e w' => e = .returned (.bool true) ∧ Below w.heap.size w w' := by
  have S0 := To.new w c i a A l.length kc
  have HA := Lib.hid hA
  have HM := Lib.hid hm
  have q1 : decide (300 < (u.size : Int)) = false := by simp; omega
  have q2 : decide (300 < (k.size : Int)) = false := by simp; omega
  clear hA hm
  go_enter Tryd.func4, Tryd.ntmps4
  go_wp2_with fail
  refine (HG.out _ (HA.out.below S0.out.1)).mono ?_; rintro e w1 ⟨rfl, hb1⟩
  have S1 := To.keep S0 hb1
  obtain ⟨⟨c0, c1, c2, c3⟩, f0, f1, f2, f3⟩ := S1.out.2.all4
  clear hb1
  go_wp2_with fail
  refine (HO.out _ (HA.out.below S1.out.1)).mono ?_; rintro e w2 ⟨B, kb, rfl, _, _, hN, hB, hb2⟩
  clear c0 c1 c2 c3 f0 f1 f2 f3
  have S2 := To.keep S1 hb2
  have HB2 := Lib.hid (ats_set4 (g := w.heap.size) (v0 := .int .i64 c) (v1 := .int .i64 i) (v2 := .string a) (v3 := .slice B l1.length kb) hB (fun b o' e => by have := hN b o' e; have := To.lt S1; omega))
  have S3 := To.inp (x0 := .int .i64 c) (x1 := .int .i64 i) (x2 := .string a) (x3 := .slice B l1.length kb) S2
  obtain ⟨⟨c0, c1, c2, c3⟩, f0, f1, f2, f3⟩ := S2.out.2.all4
  clear hb2 hN hB
  go_wp2_with fail
  refine (HR.out _ _ _ HB2.out (HM.out.below S3.out.1)).mono ?_; rintro e w3 HX
  obtain ⟨B2, kb2, rfl, _, _, _, _, hb3⟩ := HX
  have B3 := Lib.hid (bel_box (then_below S3.out.1 hb3) (po 0 0 ⟨#[]⟩ B2 0 kb2))
  clear hb3 c0 c1 c2 c3 f0 f1 f2 f3
  go_wp2_with fail
  refine (awake_any _ (HM.out.below B3.out)).mono ?_; rintro e w4 ⟨rfl, hb4⟩
  have B4 := Lib.hid (then_below B3.out hb4)
  clear hb4
  go_wp2_with fail
  go_ret
  exact ⟨rfl, B4.out⟩

set_option maxRecDepth 20000 in
set_option maxHeartbeats 8000000 in
theorem pass_ok (c i : Int) (a u k : ByteArray) (l l1 : List At) (A : Option Addr) (kc : Nat) (w : World) (hA : Ats w A l) (hm : Home w) (h1 : u.size ≤ 300) (h2 : k.size ≤ 300)
    (HG : Hid (∀ w, Ats w A l → Calls Tryd.prog 5 #[pv c i a A l.length kc] w fun e w' => e = .returned (.bool false) ∧ Below w.heap.size w w'))
    (HO : Hid (∀ w, Ats w A l → Calls Tryd.prog 18 #[pv c i a A l.length kc, .int .i64 80] w (GivesN c i a l1 w))) (V : ByteArray) (L : List At)
    (HR : Hid (∀ B kb w, Ats w B l1 → Home w → Calls Tryd.prog 13 #[pv c i a B l1.length kb, .string u, .string k] w (GivesR ⟨0, c, i, V, L⟩ w)))
    (HC : Hid (∀ B kb w, Ats w B L → Home w → Calls Tryd.prog 16 #[pv c i V B L.length kb, .string u, .string k] w fun e w' => e = .returned (.int .i64 0) ∧ Below w.heap.size w w'))
    (HD : Hid (∀ B kb w, L.length ≤ kb → (B = none → kb = 0) → Ats w B L → Calls Tryd.prog 18 #[pv c i V B L.length kb, .int .i64 80] w fun e w' => ∃ F kf, e = .returned (pv c i V F l1.length kf) ∧ Ats w' F l1 ∧ Below w.heap.size w w'))
    (HE : Hid (∀ F kf B kb w, Ats w F l1 → Ats w B l1 → Calls Tryd.prog 19 #[.slice F l1.length kf, .slice B l1.length kb] w fun e w' => e = .returned (.bool true) ∧ Below w.heap.size w w')) :
    Calls Tryd.prog 4 #[pv c i a A l.length kc, .string u, .string k] w fun e w' => e = .returned (.bool true) ∧ Below w.heap.size w w' := by
  have hfd : ∀ (F : Option Addr) (n kf : Nat) (w : World), (Instr.field 24 (pv c i V F n kf) 3).run Tryd.prog w = .ok (.slice F n kf) w := fun _ _ _ _ => by kernel_rfl
  have S0 := To.new w c i a A l.length kc
  have HA := Lib.hid hA
  have HM := Lib.hid hm
  have q1 : decide (300 < (u.size : Int)) = false := by simp; omega
  have q2 : decide (300 < (k.size : Int)) = false := by simp; omega
  clear hA hm
  go_enter Tryd.func4, Tryd.ntmps4
  go_wp2_with fail
  refine (HG.out _ (HA.out.below S0.out.1)).mono ?_; rintro e w1 ⟨rfl, hb1⟩
  have S1 := To.keep S0 hb1
  obtain ⟨⟨c0, c1, c2, c3⟩, f0, f1, f2, f3⟩ := S1.out.2.all4
  clear hb1
  go_wp2_with fail
  refine (HO.out _ (HA.out.below S1.out.1)).mono ?_; rintro e w2 ⟨B, kb, rfl, _, _, hN, hB, hb2⟩
  clear c0 c1 c2 c3 f0 f1 f2 f3
  have S2 := To.keep S1 hb2
  have HB2 := Lib.hid (ats_set4 (g := w.heap.size) (v0 := .int .i64 c) (v1 := .int .i64 i) (v2 := .string a) (v3 := .slice B l1.length kb) hB (fun b o' e => by have := hN b o' e; have := To.lt S1; omega))
  have S3 := To.inp (x0 := .int .i64 c) (x1 := .int .i64 i) (x2 := .string a) (x3 := .slice B l1.length kb) S2
  obtain ⟨⟨c0, c1, c2, c3⟩, f0, f1, f2, f3⟩ := S2.out.2.all4
  clear hb2 hN hB
  go_wp2_with fail
  refine (HR.out _ _ _ HB2.out (HM.out.below S3.out.1)).mono ?_; rintro e w3 HX
  obtain ⟨B2, kb2, rfl, hk1, hk2, _, hB2, hb3⟩ := HX
  have SS : Hid (Sy w (w3.alloc (po c i V B2 L.length kb2)) w3.heap.size c i a V B l1 kb B2 L kb2) := Lib.hid
    ⟨bel_box (then_below S3.out.1 hb3) _, (S3.out.2.1.keep hb3).more _, Blk.new w3 (pl c i V B2 L.length kb2) 24, (HB2.out.below hb3).below (box_below _ _), hB2.below (box_below _ _)⟩
  have HK := Lib.hid hk1
  have HK2 := Lib.hid hk2
  clear hb3 c0 c1 c2 c3 f0 f1 f2 f3 hB2 S0 S1 S2 S3 HB2 hk1 hk2
  go_wp2_with fail
  generalize w3.heap.size = q at *
  generalize w3.alloc (po c i V B2 L.length kb2) = W at *
  have zz := Sy.full (Sy.drew SS)
  go_region_held3 (fun W => W.cell? ⟨w.heap.size, 0, none⟩ = some (.int .i64 c) ∧ W.cell? ⟨w.heap.size, 1, none⟩ = some (.int .i64 i) ∧ W.cell? ⟨w.heap.size, 3, none⟩ = some (.slice B l1.length kb) ∧ W.cell? ⟨q, 0, none⟩ = some (.int .i64 c) ∧ W.cell? ⟨q, 1, none⟩ = some (.int .i64 i) ∧ W.cell? ⟨q, 2, none⟩ = some (.string V) ∧ W.cell? ⟨q, 3, none⟩ = some (.slice B2 L.length kb2) ∧ Hid (Sy w W q c i a V B l1 kb B2 L kb2))
    (first | exact zz | (go_split_ands; exact Sy.full (Sy.keep (by assumption) (by assumption))) | go_keep)
    (first
      | (go_at_call 16; go_split_ands; with_reducible refine (HC.out _ _ _ (Sy.b2 (w := w) (q := q) (c := c) (i := i) (a := a) (v := V) (B := B) (l := l1) (kb := kb) (kb2 := kb2) (by assumption)) (Sy.home (w := w) (q := q) (c := c) (i := i) (a := a) (v := V) (B := B) (l := l1) (kb := kb) (B2 := B2) (L := L) (kb2 := kb2) HM.out (by assumption))).mono ?_; rintro e w10 ⟨rfl, hb10⟩)
      | (go_at_call 18; go_split_ands; with_reducible refine (HD.out _ _ _ HK.out HK2.out (Sy.b2 (w := w) (q := q) (c := c) (i := i) (a := a) (v := V) (B := B) (l := l1) (kb := kb) (kb2 := kb2) (by assumption))).mono ?_; rintro e w11 ⟨FF, kf, rfl, hFF, hb11⟩)
      | (go_at_call 19; go_split_ands; with_reducible refine (HE.out _ _ _ _ _ (by assumption) (Sy.b (w := w) (q := q) (c := c) (i := i) (a := a) (v := V) (kb := kb) (B2 := B2) (L := L) (kb2 := kb2) (by assumption))).mono ?_; rintro e w12 ⟨rfl, hb12⟩)
      | (go_at_call 6; go_split_ands; with_reducible refine (awake_any _ (Sy.home (w := w) (q := q) (c := c) (i := i) (a := a) (v := V) (B := B) (l := l1) (kb := kb) (B2 := B2) (L := L) (kb2 := kb2) HM.out (by assumption))).mono ?_; rintro e w13 ⟨rfl, hb13⟩))
  have AE : Hid (Sy w w13 q c i a V B l1 kb B2 L kb2) := by go_split_ands; assumption
  have BE := Lib.hid AE.out.1
  go_wp2
  go_ret
  exact ⟨rfl, BE.out⟩

theorem walk_passes (w : World) (c i : Int) (a : ByteArray) (ha : a.size ≤ maxLen) (l : List At) (hl : l.length ≤ maxLen) (A : Option Addr) (kc : Nat) (hcap : l.length ≤ kc) (hnil : A = none → kc = 0) (hA : Ats w A l) (u : ByteArray) (hu : u.size ≤ maxLen) (k : ByteArray) (_hk : k.size ≤ maxLen) (hm : Home w) :
    Calls Tryd.prog 4 #[pv c i a A l.length kc, .string u, .string k] w fun e w' => e = .returned (.bool true) ∧ Below w.heap.size w w' := by
  have HG := Lib.hid (fun w hA => long_any c i a ha l hl A kc w hA)
  cases hg : longP a l with
  | true =>
    rw [hg] at HG
    exact only_a c i a u k l A kc w hA hm HG
  | false =>
    rw [hg] at HG
    by_cases h1 : 300 < u.size
    · exact only_b c i a u k l A kc w hA hm h1 HG
    · by_cases h2 : 300 < k.size
      · exact only_c c i a u k l A kc w hA hm (by omega) h2 HG
      · have hf := longP_few hg
        have ho := out_length l 80
        have HO := Lib.hid (fun w hA => without_fresh c i a l (by omega) A kc hcap hnil 80 w hA)
        have HR := Lib.hid (fun B kb w hB hm => reply_any c i a u k hu (by omega) (outA l 80) (by omega) B kb w hB hm)
        by_cases h : mE c i u (outA l 80) = 0
        · have hp := put_length (outA l 80) 80 (mT c i u (outA l 80) k)
          have hps := passes k h
          have hoo : outA (putA (outA l 80) 80 (mT c i u (outA l 80) k)) 80 = outA l 80 := by rw [out_put, out_out]
          unfold replyP at HR
          rw [if_pos h] at HR
          have hv : (rT c i u (putA (outA l 80) 80 (mT c i u (outA l 80) k)) k).size ≤ maxLen := Nat.le_trans (rT_le _ _ _ _ _) (by unfold maxLen; omega)
          generalize rT c i u (putA (outA l 80) 80 (mT c i u (outA l 80) k)) k = V at *
          generalize putA (outA l 80) 80 (mT c i u (outA l 80) k) = L at *
          have HC := Lib.hid (fun B kb w hB hm => check_any c i V u k hv hu (by omega) L (by omega) B kb w hB hm)
          rw [hps] at HC
          generalize outA l 80 = l1 at *
          refine pass_ok c i a u k l l1 A kc w hA hm (by omega) (by omega) HG HO V L HR HC ?_ ?_
          · exact Lib.hid fun B kb w hk hn hB => (without_any c i V L (by omega) B kb hk hn 80 w hB).mono fun _ _ ⟨F, kf, h1, h2, h3⟩ => ⟨F, kf, by rw [h1, hoo], by rw [← hoo]; exact h2, h3⟩
          · exact Lib.hid fun F kf B kb w hF hB => (Att.same_any l1 l1 (by unfold maxLen; omega) (by unfold maxLen; omega) F B kf kb w hF hB).mono fun _ _ ⟨h1, n, hw⟩ => ⟨by rw [h1, decide_eq_true rfl], hw ▸ below_drewN (Below.refl _ _) n⟩
        · rw [reply_error _ _ _ _ _ h] at HR
          exact pass_err c i a u k l _ A kc w hA hm (by omega) (by omega) HG HO HR

end Sig
namespace LawSignPasses
open Go.ChangeShapes Go.WideShapes Go.ChangeAt Go.RowKit
open Go.ChangeMaps (open_string shut_string)

theorem own : ownKnob Tryd.prog.godebug = none := by kernel_rfl
theorem laidOut : laidOutB Tryd.prog = true := by kernel_rfl
theorem plain : (Rows.signPassesRow.laid.all fun x => x.2.handleName?.isNone) = true := by kernel_rfl

set_option maxRecDepth 100000 in
theorem lifted (os : Os) (started : os.Started) (H : Type) (enc : TypeId × Value → H) :
    ReturnsInHanded {} Tryd.checked os 4 .any (fun w args => (Rows.signPassesSpec.pre enc Tryd.prog Tryd.f4 Rows.signPassesRow.domain false w args ∧ laidMetH Tryd.prog Rows.signPassesRow.laid w) ∧ sizedMet enc Tryd.prog Tryd.f4 (OpenSpec.ofChange Rows.signPassesSpec) false w args)
      (Rows.signPassesSpec.post enc Tryd.prog Tryd.f4 false true false false) := by
  refine Fr.law_lift_laid (C := Tryd.checked) (laid := Rows.signPassesRow.laid) (tb := 4) own started (by kernel_rfl) Tryd.func4
    (ChangeSpec.witness_shaped (enc := enc) (C := Tryd.checked) (os := os) (X := fun w _ => laidMetH Tryd.prog Rows.signPassesRow.laid w) false (World.laidAll Tryd.prog os Rows.signPassesRow.laid) #[.agg #[.int .i64 0, .int .i64 0, .string ByteArray.empty, .slice none 0 0], .string ByteArray.empty, .string ByteArray.empty] 8 (World.laidAll_os _ _ _)
      (World.shaped_of_ZipB (by kernel_rfl) (by kernel_rfl)) (by kernel_rfl) (by kernel_rfl) (by kernel_rfl)
      (by rw [MakeChecks.laidMetH_plain _ _ _ plain]; exact laidMet_laidAll _ (by kernel_rfl) (by kernel_rfl)))
    laidOut (by rw [Tryd.params4]; decide +kernel) rfl Tryd.underlying4 rfl ?_ ?_
  · intro ds hl
    match ds, hl with
    | [d0, d1, d2], _ => rfl
  · intro W base args ds p hsh hL hval hA
    rw [Tryd.params4] at hA hval
    obtain ⟨v0, vs0, d0, ds0, p0, q0, hargs, rfl, rfl, h0, r0⟩ := trodAll_cons hA
    obtain ⟨v1, vs1, d1, ds1, p1, q1, rfl, rfl, rfl, h1, r1⟩ := trodAll_cons r0
    obtain ⟨v2, vs2, d2, ds2, p2, q2, rfl, rfl, rfl, h2, r2⟩ := trodAll_cons r1
    obtain ⟨rfl, rfl, rfl⟩ := trodAll_nil r2
    obtain rfl : args = #[v0, v1, v2] := by cases args; simp_all
    obtain ⟨c0, i0, a0, A0, l0, k0, rfl, ha0, hl0, hk0, hn0, hA0⟩ := Pac.open_packet (hval 0 24 v0 rfl rfl) h0
    obtain ⟨a1, rfl, rfl, rfl, w1⟩ := open_string Tryd.underlying9 (hval 1 9 v1 rfl rfl) h1
    obtain ⟨a2, rfl, rfl, rfl, w2⟩ := open_string Tryd.underlying9 (hval 2 9 v2 rfl rfl) h2
    exact Sig.walk_passes W c0 i0 a0 ha0 l0 hl0 A0 k0 hk0 hn0 hA0 a1 w1 a2 w2 (Dig.home_of hsh hL plain (by simp [Rows.signPassesRow]))

theorem over : Rows.signPassesRow.holds Tryd.pinned (OpenSpec.ofChange Rows.signPassesSpec) :=
  OpenClaim.holds_of_wide 4 Tryd.f4 rfl rfl rfl rfl rfl rfl rfl ⟨rfl, rfl, rfl, rfl, rfl⟩ rfl rfl rfl rfl rfl (by kernel_rfl) Tryd.func4 (by kernel_rfl)
    (of_decide_eq_true (by kernel_rfl)) (by unfold Func.isWrapper; first | (rw [if_pos (by decide +kernel)]; kernel_rfl) | (rw [if_neg (by decide +kernel)]; exact ⟨rfl, rfl⟩))
    (fun os started H enc _ => lifted os started H enc)
end LawSignPasses

/-- The statement SignPasses (the tied card). -/
theorem signPasses_holds : Rows.SignPassesCardSaid :=
  Claim7.holds_tied_plain_at .later [] _ true _ _ LawSignPasses.over (fun _ h => by cases h) (by kernel_rfl) (fun _ h => by cases h) signPasses_row_tie rfl ⟨rfl, rfl⟩ (by kernel_rfl) rfl
    (fun f fn hf hfn => by
      obtain rfl : f = 4 := Option.some.inj ((show Tryd.prog.funcNamed Rows.signPassesRow.func = some 4 by kernel_rfl).symm.trans hf) |>.symm
      obtain rfl : fn = Tryd.f4 := (Option.some.inj (Tryd.func4.symm.trans hfn)).symm
      exact ⟨by kernel_rfl, fun j t ht => by
        rw [Tryd.params4] at ht
        have hm : t ∈ [24, 9] := by have := Array.mem_of_getElem? ht; simp at this; simp [this]
        have hall : ([24, 9].all fun u => !Tryd.prog.wantsStandIn u) = true := by kernel_rfl
        exact (show Tryd.prog.wantsStandIn t = false by simpa using List.all_eq_true.1 hall t hm)⟩)
    (by kernel_rfl)

end Go.Proofs.YtaeeonohakkgbaaDoor
