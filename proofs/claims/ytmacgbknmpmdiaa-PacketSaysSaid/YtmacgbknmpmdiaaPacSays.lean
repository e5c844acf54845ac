/-
  The statement PacketSays: for every packet, text and number the law PacketSays returns true, and its arguments read afterwards as they read before.
-/
import Derived.Test.YtmacgbknmpmdiaaPacBack
import Derived.Test.YtmacgbknmpmdiaaPacD
import Derived.Test.YtmacgbknmpmdiaaPacG
namespace Go.Proofs.Ytmacgbknmpmdiaa
open Go.RowKit
namespace Pac
open Oct Att Bx

/-- What stands while the law's last line is gone through. -/
def Sy (w0 W : World) (c i : Int) (a : ByteArray) (A : Option Addr) (l : List At) (n k : Nat) (m m2 : Nat) (rc ri : Int) (ra : ByteArray) (rl : List At) (X Y : Option Addr) (kx ky : Nat) : Prop :=
  Pk w0 W c i a A l n k ∧ Blk W m (pl rc ri ra X rl.length kx) ∧ Blk W m2 (pl rc ri ra Y rl.length ky) ∧ Ats W X rl ∧ Ats W Y rl

theorem Sy.keep {w0 W : World} {c i : Int} {a : ByteArray} {A : Option Addr} {l : List At} {n k : Nat} {m m2 : Nat} {rc ri : Int} {ra : ByteArray} {rl : List At} {X Y : Option Addr} {kx ky : Nat} {W' : World} (h : Hid (Sy w0 W c i a A l n k m m2 rc ri ra rl X Y kx ky)) (hb : Below W.heap.size W W') : Hid (Sy w0 W' c i a A l n k m m2 rc ri ra rl X Y kx ky) :=
  Lib.hid ⟨h.out.1.keep hb, h.out.2.1.keep hb, h.out.2.2.1.keep hb, h.out.2.2.2.1.below hb, h.out.2.2.2.2.below hb⟩

theorem Sy.drew {w0 W : World} {c i : Int} {a : ByteArray} {A : Option Addr} {l : List At} {n k : Nat} {m m2 : Nat} {rc ri : Int} {ra : ByteArray} {rl : List At} {X Y : Option Addr} {kx ky : Nat} (h : Hid (Sy w0 W c i a A l n k m m2 rc ri ra rl X Y kx ky)) : Hid (Sy w0 W.drew c i a A l n k m m2 rc ri ra rl X Y kx ky) := Sy.keep h ((Below.refl _ W).drew)

theorem Sy.ats {w0 W : World} {c i : Int} {a : ByteArray} {A : Option Addr} {l : List At} {n k : Nat} {m m2 : Nat} {rc ri : Int} {ra : ByteArray} {rl : List At} {X Y : Option Addr} {kx ky : Nat} (h : Hid (Sy w0 W c i a A l n k m m2 rc ri ra rl X Y kx ky)) : Ats W A l := h.out.1.ats
theorem Sy.x {w0 W : World} {c i : Int} {a : ByteArray} {A : Option Addr} {l : List At} {n k : Nat} {m m2 : Nat} {rc ri : Int} {ra : ByteArray} {rl : List At} {X Y : Option Addr} {kx ky : Nat} (h : Hid (Sy w0 W c i a A l n k m m2 rc ri ra rl X Y kx ky)) : Ats W X rl := h.out.2.2.2.1
theorem Sy.y {w0 W : World} {c i : Int} {a : ByteArray} {A : Option Addr} {l : List At} {n k : Nat} {m m2 : Nat} {rc ri : Int} {ra : ByteArray} {rl : List At} {X Y : Option Addr} {kx ky : Nat} (h : Hid (Sy w0 W c i a A l n k m m2 rc ri ra rl X Y kx ky)) : Ats W Y rl := h.out.2.2.2.2
theorem Sy.bel {w0 W : World} {c i : Int} {a : ByteArray} {A : Option Addr} {l : List At} {n k : Nat} {m m2 : Nat} {rc ri : Int} {ra : ByteArray} {rl : List At} {X Y : Option Addr} {kx ky : Nat} (h : Hid (Sy w0 W c i a A l n k m m2 rc ri ra rl X Y kx ky)) : Below w0.heap.size w0 W := h.out.1.1

theorem Sy.full {w0 W : World} {c i : Int} {a : ByteArray} {A : Option Addr} {l : List At} {n k : Nat} {m m2 : Nat} {rc ri : Int} {ra : ByteArray} {rl : List At} {X Y : Option Addr} {kx ky : Nat} (h : Hid (Sy w0 W c i a A l n k m m2 rc ri ra rl X Y kx ky)) :
    W.cell? ⟨w0.heap.size, 0, none⟩ = some (.int .i64 c) ∧ W.cell? ⟨w0.heap.size, 1, none⟩ = some (.int .i64 i) ∧ W.cell? ⟨w0.heap.size, 2, none⟩ = some (.string a) ∧ W.cell? ⟨w0.heap.size, 3, none⟩ = some (.slice A n k) ∧
    W.cell? ⟨m, 0, none⟩ = some (.int .i64 rc) ∧ W.cell? ⟨m, 1, none⟩ = some (.int .i64 ri) ∧ W.cell? ⟨m, 2, none⟩ = some (.string ra) ∧ W.cell? ⟨m, 3, none⟩ = some (.slice X rl.length kx) ∧
    W.cell? ⟨m2, 0, none⟩ = some (.int .i64 rc) ∧ W.cell? ⟨m2, 1, none⟩ = some (.int .i64 ri) ∧ W.cell? ⟨m2, 2, none⟩ = some (.string ra) ∧ W.cell? ⟨m2, 3, none⟩ = some (.slice Y rl.length ky) ∧
    Hid (Sy w0 W c i a A l n k m m2 rc ri ra rl X Y kx ky) := by
  obtain ⟨a0, a1, a2, a3⟩ := h.out.1.cells
  obtain ⟨b0, b1, b2, b3⟩ := h.out.2.1.all4
  obtain ⟨d0, d1, d2, d3⟩ := h.out.2.2.1.all4
  exact ⟨a0, a1, a2, a3, b0, b1, b2, b3, d0, d1, d2, d3, h⟩

theorem read_none {s : ByteArray} (h : (readP s).e ≠ 0) : (readP s).l = [] := by
  unfold readP at *
  split
  · rfl
  · rename_i h1
    rw [if_neg h1] at h
    split
    · rfl
    · rename_i h2
      rw [if_neg h2] at h
      split
      · rfl
      · rename_i h3
        rw [if_neg h3] at h
        split
        · rfl
        · rename_i h4
          rw [if_neg h4] at h
          split
          · rename_i h5
            rw [if_pos h5] at h
            exact absurd rfl h
          · rfl

set_option maxHeartbeats 20000000 in
theorem says_long (c i : Int) (a : ByteArray) (A : Option Addr) (n k : Nat) (s : ByteArray) (x : Int) (l : List At) (w : World) (hA : Ats w A l)
    (HG : Hid (∀ w, Ats w A l → Calls Try.prog 6 #[pv c i a A n k] w fun e w' => e = .returned (.bool true) ∧ Below w.heap.size w w')) :
    Calls Try.prog 3 #[pv c i a A n k, .string s, .int .i64 x] w fun e w' => e = .returned (.bool true) ∧ Below w.heap.size w w' := by
  have HAW := Lib.hid awake_any
  have P0 := Lib.hid (Pk.new w c i a A l n k hA)
  clear hA
  obtain ⟨c0, c1, c2, c3⟩ := P0.out.cells
  go_enter Try.func3, Try.ntmps3
  go_wp2_with fail
  refine (HG.out _ P0.out.ats).mono ?_; rintro e w1 ⟨rfl, hb⟩
  have P1 := Lib.hid (P0.out.keep hb)
  clear hb P0 c0 c1 c2 c3
  obtain ⟨c0, c1, c2, c3⟩ := P1.out.cells
  go_wp2_with fail
  refine (HAW.out _).mono ?_; rintro e w2 ⟨rfl, hb⟩
  have P2 := Lib.hid (P1.out.keep hb)
  clear hb P1 c0 c1 c2 c3
  go_wp2_with fail
  go_ret
  exact ⟨rfl, P2.out.1⟩

set_option maxHeartbeats 20000000 in
theorem says_text (c i : Int) (a : ByteArray) (A : Option Addr) (n k : Nat) (s : ByteArray) (x : Int) (l : List At) (w : World) (hA : Ats w A l) (hs : 9000 < s.size) (hs2 : s.size ≤ 9223372036854775807)
    (HG : Hid (∀ w, Ats w A l → Calls Try.prog 6 #[pv c i a A n k] w fun e w' => e = .returned (.bool false) ∧ Below w.heap.size w w')) :
    Calls Try.prog 3 #[pv c i a A n k, .string s, .int .i64 x] w fun e w' => e = .returned (.bool true) ∧ Below w.heap.size w w' := by
  have HAW := Lib.hid awake_any
  have hs' : (9000 : Int) < s.size := by omega
  have P0 := Lib.hid (Pk.new w c i a A l n k hA)
  clear hA
  obtain ⟨c0, c1, c2, c3⟩ := P0.out.cells
  go_enter Try.func3, Try.ntmps3
  go_wp2_with fail
  refine (HG.out _ P0.out.ats).mono ?_; rintro e w1 ⟨rfl, hb⟩
  have P1 := Lib.hid (P0.out.keep hb)
  clear hb P0 c0 c1 c2 c3
  obtain ⟨c0, c1, c2, c3⟩ := P1.out.cells
  go_wp2_with fail
  refine (HAW.out _).mono ?_; rintro e w2 ⟨rfl, hb⟩
  have P2 := Lib.hid (P1.out.keep hb)
  clear hb P1 c0 c1 c2 c3
  go_wp2_with fail
  go_ret
  exact ⟨rfl, P2.out.1⟩

set_option maxHeartbeats 20000000 in
theorem says_all (c i : Int) (a : ByteArray) (A : Option Addr) (n k : Nat) (s : ByteArray) (x : Int) (T : ByteArray) (E F : Int) (rc ri : Int) (ra : ByteArray) (rl LP LO : List At) (R U : Bool) (l : List At) (w : World) (hA : Ats w A l) (hs : s.size ≤ 9000)
    (HG : Hid (∀ w, Ats w A l → Calls Try.prog 6 #[pv c i a A n k] w fun e w' => e = .returned (.bool false) ∧ Below w.heap.size w w'))
    (HB : Hid (∀ (w : World), Ats w A l → Calls Try.prog 8 #[pv c i a A n k] w fun e w' => e = .returned (.tuple #[.string T, .int .i64 E]) ∧ Below w.heap.size w w'))
    (HB2 : Hid (∀ (w : World), Ats w A l → Calls Try.prog 9 #[pv c i a A n k] w fun e w' => e = .returned (.tuple #[.string T, .int .i64 E]) ∧ Below w.heap.size w w'))
    (HR : Hid (∀ (w : World), Calls Try.prog 10 #[.string s] w (GivesP ⟨F, rc, ri, ra, rl⟩ w)))
    (HR2 : Hid (∀ (w : World), Calls Try.prog 11 #[.string s] w (GivesP ⟨F, rc, ri, ra, rl⟩ w)))
    (HT : Hid (∀ (w : World), Ats w A l → Calls Try.prog 12 #[pv c i a A n k] w fun e w' => e = .returned (.bool R) ∧ Below w.heap.size w w'))
    (HT2 : Hid (∀ (w : World), Ats w A l → Calls Try.prog 13 #[pv c i a A n k] w fun e w' => e = .returned (.bool R) ∧ Below w.heap.size w w'))
    (HS1 : Hid (∀ (w : World) X Y kx ky, Ats w X rl → Ats w Y rl → Calls Try.prog 14 #[pv rc ri ra X rl.length kx, pv rc ri ra Y rl.length ky] w fun e w' => e = .returned (.bool true) ∧ Below w.heap.size w w'))
    (HS2 : Hid (∀ (w : World) X kx, Ats w A l → Ats w X rl → Calls Try.prog 15 #[pv c i a A n k, pv rc ri ra X rl.length kx] w fun e w' => e = .returned (.bool U) ∧ Below w.heap.size w w'))
    (HS3 : Hid (∀ (w : World) Y ky, Ats w A l → Ats w Y rl → Calls Try.prog 14 #[pv c i a A n k, pv rc ri ra Y rl.length ky] w fun e w' => e = .returned (.bool U) ∧ Below w.heap.size w w'))
    (HP : Hid (∀ (w : World), Ats w A l → Calls Try.prog 16 #[pv c i a A n k, .int .i64 x, .string ⟨#[118]⟩] w fun e w' => ∃ G kg, e = .returned (pv c i a G LP.length kg) ∧ Ats w' G LP ∧ Below w.heap.size w w'))
    (HP2 : Hid (∀ (w : World), Ats w A l → Calls Try.prog 17 #[pv c i a A n k, .int .i64 x, .string ⟨#[118]⟩] w fun e w' => ∃ G kg, e = .returned (pv c i a G LP.length kg) ∧ Ats w' G LP ∧ Below w.heap.size w w'))
    (HSP : Hid (∀ (w : World) X Y kx ky, Ats w X LP → Ats w Y LP → Calls Try.prog 14 #[pv c i a X LP.length kx, pv c i a Y LP.length ky] w fun e w' => e = .returned (.bool true) ∧ Below w.heap.size w w'))
    (HW : Hid (∀ (w : World), Ats w A l → Calls Try.prog 18 #[pv c i a A n k, .int .i64 x] w fun e w' => ∃ G kg, e = .returned (pv c i a G LO.length kg) ∧ Ats w' G LO ∧ Below w.heap.size w w'))
    (HW2 : Hid (∀ (w : World), Ats w A l → Calls Try.prog 19 #[pv c i a A n k, .int .i64 x] w fun e w' => ∃ G kg, e = .returned (pv c i a G LO.length kg) ∧ Ats w' G LO ∧ Below w.heap.size w w'))
    (HSO : Hid (∀ (w : World) X Y kx ky, Ats w X LO → Ats w Y LO → Calls Try.prog 14 #[pv c i a X LO.length kx, pv c i a Y LO.length ky] w fun e w' => e = .returned (.bool true) ∧ Below w.heap.size w w')) :
    Calls Try.prog 3 #[pv c i a A n k, .string s, .int .i64 x] w fun e w' => e = .returned (.bool true) ∧ Below w.heap.size w w' := by
  have HAW := Lib.hid awake_any
  have hs1 : ¬ (9000 : Int) < s.size := by omega
  have P0 := Lib.hid (Pk.new w c i a A l n k hA)
  clear hA
  obtain ⟨c0, c1, c2, c3⟩ := P0.out.cells
  go_enter Try.func3, Try.ntmps3
  go_wp2_with fail
  refine (HG.out _ P0.out.ats).mono ?_; rintro e w1 ⟨rfl, hb⟩
  have P1 := Lib.hid (P0.out.keep hb)
  clear hb P0 c0 c1 c2 c3
  obtain ⟨c0, c1, c2, c3⟩ := P1.out.cells
  go_wp2_with fail
  refine (HB.out _ P1.out.ats).mono ?_; rintro e w2 ⟨rfl, hb⟩
  have P2 := Lib.hid (P1.out.keep hb)
  clear hb P1 c0 c1 c2 c3
  obtain ⟨c0, c1, c2, c3⟩ := P2.out.cells
  go_wp2_with fail
  refine (HB2.out _ P2.out.ats).mono ?_; rintro e w3 ⟨rfl, hb⟩
  have P3 := Lib.hid (P2.out.keep hb)
  clear hb P2 c0 c1 c2 c3
  obtain ⟨c0, c1, c2, c3⟩ := P3.out.cells
  go_wp2_with fail
  refine (HR.out _).mono ?_; rintro e w4 ⟨X, kx, rfl, hX, hb⟩
  have P4 := Lib.hid ((P3.out.keep hb).more (po rc ri ra X rl.length kx))
  simp only at hX
  have X4 := Lib.hid (hX.below (box_below w4 (po rc ri ra X rl.length kx)))
  have KX4 := Lib.hid (Blk.new w4 (pl rc ri ra X rl.length kx) 24)
  clear hX
  clear hb P3 c0 c1 c2 c3
  obtain ⟨c0, c1, c2, c3⟩ := P4.out.cells
  go_wp2_with fail
  refine (HR2.out _).mono ?_; rintro e w5 ⟨Y, ky, rfl, hY, hb⟩
  simp only at hY
  have SS := Lib.hid (show Sy w (w5.alloc (po rc ri ra Y rl.length ky)) c i a A l n k w4.heap.size w5.heap.size rc ri ra rl X Y kx ky from
    ⟨(P4.out.keep hb).more _, (KX4.out.keep hb).more _, Blk.new w5 (pl rc ri ra Y rl.length ky) 24, (X4.out.below hb).below (box_below _ _), hY.below (box_below _ _)⟩)
  clear hY hb P4 X4 KX4 c0 c1 c2 c3
  go_wp2_with fail
  generalize w4.heap.size = m at *
  generalize w5.heap.size = m2 at *
  generalize w5.alloc (po rc ri ra Y rl.length ky) = W at *
  have zz := Sy.full (Sy.drew SS)
  clear HG HB HB2 HR HR2 hs1 SS
  go_region_held3 (fun W => W.cell? ⟨w.heap.size, 0, none⟩ = some (.int .i64 c) ∧ W.cell? ⟨w.heap.size, 1, none⟩ = some (.int .i64 i) ∧ W.cell? ⟨w.heap.size, 2, none⟩ = some (.string a) ∧ W.cell? ⟨w.heap.size, 3, none⟩ = some (.slice A n k) ∧
    W.cell? ⟨m, 0, none⟩ = some (.int .i64 rc) ∧ W.cell? ⟨m, 1, none⟩ = some (.int .i64 ri) ∧ W.cell? ⟨m, 2, none⟩ = some (.string ra) ∧ W.cell? ⟨m, 3, none⟩ = some (.slice X rl.length kx) ∧
    W.cell? ⟨m2, 0, none⟩ = some (.int .i64 rc) ∧ W.cell? ⟨m2, 1, none⟩ = some (.int .i64 ri) ∧ W.cell? ⟨m2, 2, none⟩ = some (.string ra) ∧ W.cell? ⟨m2, 3, none⟩ = some (.slice Y rl.length ky) ∧
    Hid (Sy w W c i a A l n k m m2 rc ri ra rl X Y kx ky))
    (first | exact zz | (go_split_ands; exact Sy.full (Sy.keep (by assumption) (by assumption))) | go_keep)
    (first
      | (go_at_call 12; go_split_ands; with_reducible refine (HT.out _ (Sy.ats (w0 := w) (c := c) (i := i) (a := a) (n := n) (k := k) (m := m) (m2 := m2) (rc := rc) (ri := ri) (ra := ra) (rl := rl) (X := X) (Y := Y) (kx := kx) (ky := ky) (by assumption))).mono ?_; rintro e u ⟨rfl, hb⟩)
      | (go_at_call 13; go_split_ands; with_reducible refine (HT2.out _ (Sy.ats (w0 := w) (c := c) (i := i) (a := a) (n := n) (k := k) (m := m) (m2 := m2) (rc := rc) (ri := ri) (ra := ra) (rl := rl) (X := X) (Y := Y) (kx := kx) (ky := ky) (by assumption))).mono ?_; rintro e u ⟨rfl, hb⟩)
      | (go_at_call 14; go_split_ands; with_reducible refine (HS1.out _ X Y kx ky (Sy.x (w0 := w) (c := c) (i := i) (a := a) (A := A) (l := l) (n := n) (k := k) (m := m) (m2 := m2) (rc := rc) (ri := ri) (ra := ra) (Y := Y) (kx := kx) (ky := ky) (by assumption)) (Sy.y (w0 := w) (c := c) (i := i) (a := a) (A := A) (l := l) (n := n) (k := k) (m := m) (m2 := m2) (rc := rc) (ri := ri) (ra := ra) (X := X) (kx := kx) (ky := ky) (by assumption))).mono ?_; rintro e u ⟨rfl, hb⟩)
      | (go_at_call 15; go_split_ands; with_reducible refine (HS2.out _ X kx (Sy.ats (w0 := w) (c := c) (i := i) (a := a) (n := n) (k := k) (m := m) (m2 := m2) (rc := rc) (ri := ri) (ra := ra) (rl := rl) (X := X) (Y := Y) (kx := kx) (ky := ky) (by assumption)) (Sy.x (w0 := w) (c := c) (i := i) (a := a) (A := A) (l := l) (n := n) (k := k) (m := m) (m2 := m2) (rc := rc) (ri := ri) (ra := ra) (Y := Y) (kx := kx) (ky := ky) (by assumption))).mono ?_; rintro e u ⟨rfl, hb⟩)
      | (go_at_call 14; go_split_ands; with_reducible refine (HS3.out _ Y ky (Sy.ats (w0 := w) (c := c) (i := i) (a := a) (n := n) (k := k) (m := m) (m2 := m2) (rc := rc) (ri := ri) (ra := ra) (rl := rl) (X := X) (Y := Y) (kx := kx) (ky := ky) (by assumption)) (Sy.y (w0 := w) (c := c) (i := i) (a := a) (A := A) (l := l) (n := n) (k := k) (m := m) (m2 := m2) (rc := rc) (ri := ri) (ra := ra) (X := X) (kx := kx) (ky := ky) (by assumption))).mono ?_; rintro e u ⟨rfl, hb⟩)
      | (go_at_call 16; go_split_ands; with_reducible refine (HP.out _ (Sy.ats (w0 := w) (c := c) (i := i) (a := a) (n := n) (k := k) (m := m) (m2 := m2) (rc := rc) (ri := ri) (ra := ra) (rl := rl) (X := X) (Y := Y) (kx := kx) (ky := ky) (by assumption))).mono ?_; rintro e u ⟨G, kg, rfl, hG, hb⟩)
      | (go_at_call 17; go_split_ands; with_reducible refine (HP2.out _ (Sy.ats (w0 := w) (c := c) (i := i) (a := a) (n := n) (k := k) (m := m) (m2 := m2) (rc := rc) (ri := ri) (ra := ra) (rl := rl) (X := X) (Y := Y) (kx := kx) (ky := ky) (by assumption))).mono ?_; rintro e u ⟨G, kg, rfl, hG, hb⟩)
      | (go_at_call 14; go_split_ands; with_reducible refine (HSP.out _ _ _ _ _ (Ats.below (by assumption) (by assumption)) (by assumption)).mono ?_; rintro e u ⟨rfl, hb⟩)
      | (go_at_call 14; go_split_ands; with_reducible refine (HSP.out _ _ _ _ _ (by assumption) (Ats.below (by assumption) (by assumption))).mono ?_; rintro e u ⟨rfl, hb⟩)
      | (go_at_call 18; go_split_ands; with_reducible refine (HW.out _ (Sy.ats (w0 := w) (c := c) (i := i) (a := a) (n := n) (k := k) (m := m) (m2 := m2) (rc := rc) (ri := ri) (ra := ra) (rl := rl) (X := X) (Y := Y) (kx := kx) (ky := ky) (by assumption))).mono ?_; rintro e u ⟨G, kg, rfl, hG, hb⟩)
      | (go_at_call 19; go_split_ands; with_reducible refine (HW2.out _ (Sy.ats (w0 := w) (c := c) (i := i) (a := a) (n := n) (k := k) (m := m) (m2 := m2) (rc := rc) (ri := ri) (ra := ra) (rl := rl) (X := X) (Y := Y) (kx := kx) (ky := ky) (by assumption))).mono ?_; rintro e u ⟨G, kg, rfl, hG, hb⟩)
      | (go_at_call 14; go_split_ands; with_reducible refine (HSO.out _ _ _ _ _ (Ats.below (by assumption) (by assumption)) (by assumption)).mono ?_; rintro e u ⟨rfl, hb⟩)
      | (go_at_call 14; go_split_ands; with_reducible refine (HSO.out _ _ _ _ _ (by assumption) (Ats.below (by assumption) (by assumption))).mono ?_; rintro e u ⟨rfl, hb⟩)
      | (go_at_call 7; go_split_ands; with_reducible refine (HAW.out _).mono ?_; rintro e u ⟨rfl, hb⟩))
  all_goals
    go_split_ands
    go_wp2
    go_ret
    exact ⟨rfl, Sy.bel (by assumption)⟩

/-- What the law does. -/
theorem walk_says (w : World) (c i : Int) (a : ByteArray) (ha : a.size ≤ maxLen) (l : List At) (hl : l.length ≤ maxLen) (A : Option Addr) (k : Nat) (hk : l.length ≤ k) (hn : A = none → k = 0) (hA : Ats w A l) (s : ByteArray) (hs : s.size ≤ maxLen) (x : Int) (_hx : (Lit.int IntKind.i64 x).wf = true) :
    Calls Try.prog 3 #[pv c i a A l.length k, .string s, .int .i64 x] w fun e w' => e = .returned (.bool true) ∧ Below w.heap.size w w' := by
  have HG := Lib.hid (fun w hA => long_any c i a ha l hl A k w hA)
  cases hg : longP a l with
  | true =>
    rw [hg] at HG
    exact says_long c i a A _ k s x l w hA HG
  | false =>
    rw [hg] at HG
    by_cases h9 : 9000 < s.size
    · exact says_text c i a A _ k s x l w hA h9 hs HG
    · have hfew := longP_few hg
      have hrl : (readP s).l.length ≤ maxLen := by
        by_cases he : (readP s).e = 0
        · obtain ⟨e1, _⟩ := wire_read (s := s) (c := (readP s).c) (i := (readP s).i) (a := (readP s).a) (l := (readP s).l) (by rw [← he])
          have := (bytesE_zero (right_iff.1 e1).2.1).1
          unfold maxLen
          omega
        · rw [read_none he]
          exact Nat.zero_le _
      have hpl : (putA l x ⟨#[118]⟩).length ≤ maxLen := by have := put_length l x ⟨#[118]⟩; unfold maxLen; omega
      have hol : (outA l x).length ≤ maxLen := by have := out_length l x; unfold maxLen; omega
      refine says_all c i a A _ k s x (txtP c i a l) (errP c i a l) (readP s).e (readP s).c (readP s).i (readP s).a (readP s).l (putA l x ⟨#[118]⟩) (outA l x) (rightP c i a l) (sameP c i a l (readP s).c (readP s).i (readP s).a (readP s).l) l w hA (by omega) HG
        (Lib.hid fun w hA => bytes_any c i a ha l hl A k w hA) (Lib.hid fun w hA => rbytes_any c i a ha l hl A k w hA)
        (Lib.hid fun w => read_any s hs w) (Lib.hid fun w => rread_any s hs w)
        (Lib.hid fun w hA => right_any c i a ha l hl A k w hA) (Lib.hid fun w hA => rright_any c i a ha l hl A k w hA)
        (Lib.hid fun w X Y kx ky hX hY => ?_)
        (Lib.hid fun w X kx hA hX => same_any c i a l _ _ _ _ hl hrl A X k kx w hA hX) (Lib.hid fun w Y ky hA hY => rsame_any c i a l _ _ _ _ hl hrl A Y k ky w hA hY)
        (Lib.hid fun w hA => (put_any c i a l (by omega) A k x ⟨#[118]⟩ w hA).mono fun _ _ h => h.q) (Lib.hid fun w hA => rput_any c i a l (by omega) A k x ⟨#[118]⟩ w hA)
        (Lib.hid fun w X Y kx ky hX hY => ?_)
        (Lib.hid fun w hA => without_any c i a l (by omega) A k hk hn x w hA) (Lib.hid fun w hA => rwithout_any c i a l (by omega) A k x w hA)
        (Lib.hid fun w X Y kx ky hX hY => ?_)
      · have e := rsame_any (readP s).c (readP s).i (readP s).a (readP s).l (readP s).c (readP s).i (readP s).a (readP s).l hrl hrl X Y kx ky w hX hY
        rwa [show sameP (readP s).c (readP s).i (readP s).a (readP s).l (readP s).c (readP s).i (readP s).a (readP s).l = true from decide_eq_true ⟨rfl, rfl, rfl, rfl⟩] at e
      · have e := rsame_any c i a _ c i a _ hpl hpl X Y kx ky w hX hY
        rwa [show sameP c i a (putA l x ⟨#[118]⟩) c i a (putA l x ⟨#[118]⟩) = true from decide_eq_true ⟨rfl, rfl, rfl, rfl⟩] at e
      · have e := rsame_any c i a _ c i a _ hol hol X Y kx ky w hX hY
        rwa [show sameP c i a (outA l x) c i a (outA l x) = true from decide_eq_true ⟨rfl, rfl, rfl, rfl⟩] at e

end Pac
namespace LawPacketSays
open Go.ChangeShapes Go.WideShapes Go.ChangeAt Go.RowKit
open Go.ChangeMaps (open_string shut_string)

theorem own : ownKnob Try.prog.godebug = none := by kernel_rfl
theorem laidOut : laidOutB Try.prog = true := by kernel_rfl

set_option maxRecDepth 100000 in
theorem lifted (os : Os) (started : os.Started) (H : Type) (enc : TypeId × Value → H) :
    ReturnsInHanded {} Try.checked os 3 .any (Rows.packetSaysSpec.pre6 enc Try.prog Try.f3 Rows.packetSaysRow.domain false) (Rows.packetSaysSpec.post enc Try.prog Try.f3 false true false false) := by
  refine Fr.law_lift (C := Try.checked) (tb := 4) own started (by kernel_rfl) Try.func3
    (ChangeSpec.witness6 (enc := enc) (C := Try.checked) false ⟨#[], #[.agg #[.int .i64 0, .int .i64 0, .string ByteArray.empty, .slice none 0 0], .string ByteArray.empty, .int .i64 0], []⟩ 8 (by kernel_rfl) (by kernel_rfl) (by kernel_rfl) (by kernel_rfl))
    laidOut (by rw [Try.params3]; decide +kernel) rfl Try.underlying4 rfl ?_ ?_
  · intro ds hl
    match ds, hl with
    | [d0, d1, d2], _ => rfl
  · intro W base args ds p hval hA
    rw [Try.params3] at hA hval
    obtain ⟨v0, vs0, d0, ds0, p0, q0, hargs, rfl, rfl, h0, r0⟩ := trodAll_cons hA
    obtain ⟨v1, vs1, d1, ds1, p1, q1, rfl, rfl, rfl, h1, r1⟩ := trodAll_cons r0
    obtain ⟨v2, vs2, d2, ds2, p2, q2, rfl, rfl, rfl, h2, r2⟩ := trodAll_cons r1
    obtain ⟨rfl, rfl, rfl⟩ := trodAll_nil r2
    obtain rfl : args = #[v0, v1, v2] := by cases args; simp_all
    obtain ⟨c0, i0, a0, A0, l0, k0, rfl, ha0, hl0, hk0, hn0, hA0⟩ := Pac.open_packet (hval 0 24 v0 rfl rfl) h0
    obtain ⟨a1, rfl, rfl, rfl, w1⟩ := open_string Try.underlying9 (hval 1 9 v1 rfl rfl) h1
    obtain ⟨a2, rfl, rfl, rfl, w2⟩ := open_int Try.underlying3 (hval 2 3 v2 rfl rfl) h2
    exact Pac.walk_says W c0 i0 a0 ha0 l0 hl0 A0 k0 hk0 hn0 hA0 a1 w1 a2 w2

theorem over : Rows.packetSaysRow.holds Try.pinned (OpenSpec.ofChange Rows.packetSaysSpec) :=
  OpenClaim.holds_of_wide 3 Try.f3 rfl rfl rfl rfl rfl rfl rfl ⟨rfl, rfl, rfl, rfl, rfl⟩ rfl rfl rfl rfl rfl (by kernel_rfl) Try.func3 (by kernel_rfl)
    (of_decide_eq_true (by kernel_rfl)) (by unfold Func.isWrapper; first | (rw [if_pos (by decide +kernel)]; kernel_rfl) | (rw [if_neg (by decide +kernel)]; exact ⟨rfl, rfl⟩))
    (fun os started H enc _ => lifted os started H enc)
end LawPacketSays

/-- The statement PacketSays. -/
theorem packetSays_holds : Rows.PacketSaysSaid := LawPacketSays.over

end Go.Proofs.Ytmacgbknmpmdiaa
