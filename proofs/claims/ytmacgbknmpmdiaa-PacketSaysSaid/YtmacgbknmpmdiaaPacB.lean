/-
  What packet.Read reads of any text.
-/
import Derived.Test.YtmacgbknmpmdiaaPacA
import Derived.Test.YtmacgbknmpmdiaaAttK
namespace Go.Proofs.Ytmacgbknmpmdiaa
open Go.RowKit
namespace Pac
open Oct Att Bx

/-- A block whose first cells are l, and may be written. -/
def Fre (W : World) (k : Nat) (l : List Value) : Prop := Blk W k l ∧ k < W.heap.size ∧ ∀ j, W.frozen? ⟨k, j, none⟩ = false

theorem Fre.new (W : World) (l : List Value) (t : TypeId) : Fre (W.alloc (.cells l.toArray t)) W.heap.size l := ⟨Blk.new W l t, by simp, fun j => World.frozen?_alloc_new W l.toArray t j⟩

theorem Fre.keep {W w1 : World} {k : Nat} {l : List Value} (h : Fre W k l) (hb : Below W.heap.size W w1) : Fre w1 k l :=
  ⟨h.1.keep hb, Nat.lt_of_lt_of_le h.2.1 hb.size, fun j => (hb.frozen (p := ⟨k, j, none⟩) h.2.1).trans (h.2.2 j)⟩

theorem Fre.drew {W : World} {k : Nat} {l : List Value} (h : Fre W k l) : Fre W.drew k l := h

theorem Fre.all4 {W : World} {k : Nat} {x0 x1 x2 x3 : Value} (h : Fre W k [x0, x1, x2, x3]) : (W.cell? ⟨k, 0, none⟩ = some x0 ∧ W.cell? ⟨k, 1, none⟩ = some x1 ∧ W.cell? ⟨k, 2, none⟩ = some x2 ∧ W.cell? ⟨k, 3, none⟩ = some x3) ∧
    W.frozen? ⟨k, 0, none⟩ = false ∧ W.frozen? ⟨k, 1, none⟩ = false ∧ W.frozen? ⟨k, 2, none⟩ = false ∧ W.frozen? ⟨k, 3, none⟩ = false := ⟨h.1.all4, h.2.2 0, h.2.2 1, h.2.2 2, h.2.2 3⟩

theorem ats_set {W : World} {B : Option Addr} {l : List At} {g o : Nat} {v : Value} (h : Ats W B l) (hB : ∀ b o', B = some ⟨b, o', none⟩ → b ≠ g) : Ats (W.setCell ⟨g, o, none⟩ v) B l := fun j x hj => by
  obtain ⟨b, q, e, h1, h2, h3⟩ := h j x hj
  have hne := hB b q e
  exact ⟨b, q, e, by simpa using h1, by rw [cell_set, if_neg (by omega)]; exact h2, by rw [cell_set, if_neg (by omega)]; exact h3⟩

/-- What Read hands back: a packet, its attributes in memory, and an error. -/
def GivesP (r : Rd) (w : World) (e : Ending) (w' : World) : Prop := ∃ A k, e = .returned (.tuple #[pv r.c r.i r.a A r.l.length k, .int .i64 r.e]) ∧ Ats w' A r.l ∧ Below w.heap.size w w'

theorem gives_none (w w' : World) (E : Int) (hb : Below w.heap.size w w') : GivesP (noR E) w (.returned (.tuple #[pv 0 0 ⟨#[]⟩ none 0 0, .int .i64 E])) w' := ⟨none, 0, rfl, Ats.nil _ _, hb⟩

theorem or_byte (m b : Nat) (hm : m < 256) (hb : b < 256) : bits .or .i64 ((m : Int) * 256) (b : Int) = ((m * 256 + b : Nat) : Int) := by
  rw [show ((m : Int) * 256) = ((m * 256 : Nat) : Int) by omega]
  have e : m * 256 ||| b = m * 256 + b := by
    rw [show m * 256 = 2 ^ 8 * m by omega, Nat.two_pow_add_eq_or_of_lt (by omega)]
  show IntKind.i64.wrap ((BitVec.ofInt 64 ((m * 256 : Nat) : Int) ||| BitVec.ofInt 64 (b : Int)).toNat : Int) = _
  rw [BitVec.toNat_or, ofInt_u64 _ (by omega), ofInt_u64 _ (by omega), e, IntKind.wrap_i64]
  omega

set_option maxHeartbeats 1000000 in
theorem way_small (s : ByteArray) (w : World) (hs : s.size < 20) :
    Calls Try.prog 10 #[.string s] w (GivesP (noR 2) w) := by
  have bel := Lib.hid (box_below w (po 0 0 ⟨#[]⟩ none 0 0))
  go_enter Try.func10, Try.ntmps10
  go_wp2_with fail
  refine bodyPost_ret (v := .tuple #[pv 0 0 ⟨#[]⟩ none 0 0, .int .i64 2]) ?_ rfl (gives_none _ _ _ ?_)
  · simp [results, Try.results10, go_sem]
  · exact bel.out

set_option maxHeartbeats 1000000 in
theorem way_over (s : ByteArray) (b0 b1 b2 b3 : Nat) (w : World) (hs : 20 ≤ s.size) (hz : s.size ≤ 9223372036854775807) (h0 : s[0].toNat = b0) (h1 : s[1].toNat = b1) (h2 : s[2].toNat = b2) (h3 : s[3].toNat = b3) (g0 : b0 < 256) (g1 : b1 < 256) (g2 : b2 < 256) (g3 : b3 < 256)
    (hN : 4096 < b2 * 256 + b3) :
    Calls Try.prog 10 #[.string s] w (GivesP (noR 4) w) := by
  have p0 : 0 < s.size := by omega
  have p1 : 1 < s.size := by omega
  have p2 : 2 < s.size := by omega
  have p3 : 3 < s.size := by omega
  have q1 := or_byte b2 b3 g2 g3
  have bel := Lib.hid (box_below w (po 0 0 ⟨#[]⟩ none 0 0)).drew
  go_enter Try.func10, Try.ntmps10
  go_wp2_with fail
  go_region
  go_wp2_with fail
  refine bodyPost_ret (v := .tuple #[pv 0 0 ⟨#[]⟩ none 0 0, .int .i64 4]) ?_ rfl (gives_none _ _ _ ?_)
  · simp [results, Try.results10, go_sem]
  · exact bel.out

set_option maxHeartbeats 1000000 in
theorem way_low (s : ByteArray) (b0 b1 b2 b3 : Nat) (w : World) (hs : 20 ≤ s.size) (hz : s.size ≤ 9223372036854775807) (h0 : s[0].toNat = b0) (h1 : s[1].toNat = b1) (h2 : s[2].toNat = b2) (h3 : s[3].toNat = b3) (g0 : b0 < 256) (g1 : b1 < 256) (g2 : b2 < 256) (g3 : b3 < 256)
    (hN : b2 * 256 + b3 < 20) :
    Calls Try.prog 10 #[.string s] w (GivesP (noR 3) w) := by
  have p0 : 0 < s.size := by omega
  have p1 : 1 < s.size := by omega
  have p2 : 2 < s.size := by omega
  have p3 : 3 < s.size := by omega
  have q1 := or_byte b2 b3 g2 g3
  have bel := Lib.hid (box_below w (po 0 0 ⟨#[]⟩ none 0 0)).drew
  go_enter Try.func10, Try.ntmps10
  go_wp2_with fail
  go_region
  go_wp2_with fail
  refine bodyPost_ret (v := .tuple #[pv 0 0 ⟨#[]⟩ none 0 0, .int .i64 3]) ?_ rfl (gives_none _ _ _ ?_)
  · simp [results, Try.results10, go_sem]
  · exact bel.out

set_option maxHeartbeats 1000000 in
theorem way_code (s : ByteArray) (b0 b1 b2 b3 : Nat) (w : World) (hs : 20 ≤ s.size) (hz : s.size ≤ 9223372036854775807) (h0 : s[0].toNat = b0) (h1 : s[1].toNat = b1) (h2 : s[2].toNat = b2) (h3 : s[3].toNat = b3) (g0 : b0 < 256) (g1 : b1 < 256) (g2 : b2 < 256) (g3 : b3 < 256)
    (hN : 20 ≤ b2 * 256 + b3) (hN2 : b2 * 256 + b3 ≤ 4096) (hC : b0 < 1) :
    Calls Try.prog 10 #[.string s] w (GivesP (noR 3) w) := by
  have p0 : 0 < s.size := by omega
  have p1 : 1 < s.size := by omega
  have p2 : 2 < s.size := by omega
  have p3 : 3 < s.size := by omega
  have q1 := or_byte b2 b3 g2 g3
  have bel := Lib.hid (box_below w (po 0 0 ⟨#[]⟩ none 0 0)).drew
  go_enter Try.func10, Try.ntmps10
  go_wp2_with fail
  go_region
  go_wp2_with fail
  refine bodyPost_ret (v := .tuple #[pv 0 0 ⟨#[]⟩ none 0 0, .int .i64 3]) ?_ rfl (gives_none _ _ _ ?_)
  · simp [results, Try.results10, go_sem]
  · exact bel.out

set_option maxHeartbeats 1000000 in
theorem way_cut (s : ByteArray) (b0 b1 b2 b3 : Nat) (w : World) (hs : 20 ≤ s.size) (hz : s.size ≤ 9223372036854775807) (h0 : s[0].toNat = b0) (h1 : s[1].toNat = b1) (h2 : s[2].toNat = b2) (h3 : s[3].toNat = b3) (g0 : b0 < 256) (g1 : b1 < 256) (g2 : b2 < 256) (g3 : b3 < 256)
    (hN : 20 ≤ b2 * 256 + b3) (hN2 : b2 * 256 + b3 ≤ 4096) (hC : 1 ≤ b0) (hL : s.size < b2 * 256 + b3) :
    Calls Try.prog 10 #[.string s] w (GivesP (noR 2) w) := by
  have p0 : 0 < s.size := by omega
  have p1 : 1 < s.size := by omega
  have p2 : 2 < s.size := by omega
  have p3 : 3 < s.size := by omega
  have q1 := or_byte b2 b3 g2 g3
  have bel := Lib.hid (box_below w (po 0 0 ⟨#[]⟩ none 0 0)).drew
  go_enter Try.func10, Try.ntmps10
  go_wp2_with fail
  go_region
  go_wp2_with fail
  refine bodyPost_ret (v := .tuple #[pv 0 0 ⟨#[]⟩ none 0 0, .int .i64 2]) ?_ rfl (gives_none _ _ _ ?_)
  · simp [results, Try.results10, go_sem]
  · exact bel.out

set_option maxHeartbeats 1000000 in
theorem way_attr (s : ByteArray) (b0 b1 b2 b3 : Nat) (N : Nat) (E : Int) (r : List At) (w : World) (hs : 20 ≤ s.size) (hz : s.size ≤ 9223372036854775807) (h0 : s[0].toNat = b0) (h1 : s[1].toNat = b1) (h2 : s[2].toNat = b2) (h3 : s[3].toNat = b3) (g0 : b0 < 256) (g1 : b1 < 256) (g2 : b2 < 256) (g3 : b3 < 256)
    (hN : 20 ≤ N) (hN2 : N ≤ 4096) (hC : 1 ≤ b0) (hL : N ≤ s.size) (hNe : b2 * 256 + b3 = N) (hE : (E != 0) = true)
    (HR : Hid (∀ w, Calls Try.prog 27 #[.string (s.extract 20 N)] w (GivesF r E w))) :
    Calls Try.prog 10 #[.string s] w (GivesP (noR E) w) := by
  have p0 : 0 < s.size := by omega
  have p1 : 1 < s.size := by omega
  have p2 : 2 < s.size := by omega
  have p3 : 3 < s.size := by omega
  have q1 := or_byte b2 b3 g2 g3
  rw [hNe] at q1
  have bel := Lib.hid (box_below w (po 0 0 ⟨#[]⟩ none 0 0)).drew
  go_enter Try.func10, Try.ntmps10
  go_wp2_with fail
  go_region
  go_wp2_with fail
  refine (HR.out _).mono ?_; rintro e w1 ⟨B, c', rfl, hB, hN1, hb1⟩
  have bel2 := Lib.hid (then_below bel.out hb1)
  have HB := Lib.hid hB
  have HNe := Lib.hid (fun b o' e => by have := hN1 b o' e; simp at this; omega : ∀ b o', B = some ⟨b, o', none⟩ → b ≠ w.heap.size)
  clear hB hN1
  have K := Lib.hid (((Fre.new w (pl 0 0 ⟨#[]⟩ none 0 0) 24).drew).keep hb1)
  clear hb1
  obtain ⟨⟨c0, c1, c2, c3⟩, f0, f1, f2, f3⟩ := K.out.all4
  go_wp2_with fail
  refine bodyPost_ret (v := .tuple #[pv 0 0 ⟨#[]⟩ none 0 0, .int .i64 E]) ?_ rfl (gives_none _ _ _ ?_)
  · obtain ⟨d0, d1, d2, d3⟩ := (K.out.1.put4 (x0 := .int .i64 0) (x1 := .int .i64 0) (x2 := .string ⟨#[]⟩) (x3 := .slice none 0 0)).all4
    simp [results, Try.results10, d0, d1, d2, d3, go_sem]
  · exact bel_set4 (Nat.le_refl _) bel2.out

set_option maxHeartbeats 1000000 in
theorem way_ok (s : ByteArray) (b0 b1 b2 b3 : Nat) (N : Nat) (r : List At) (w : World) (hs : 20 ≤ s.size) (hz : s.size ≤ 9223372036854775807) (h0 : s[0].toNat = b0) (h1 : s[1].toNat = b1) (h2 : s[2].toNat = b2) (h3 : s[3].toNat = b3) (g0 : b0 < 256) (g1 : b1 < 256) (g2 : b2 < 256) (g3 : b3 < 256)
    (hN : 20 ≤ N) (hN2 : N ≤ 4096) (hC : 1 ≤ b0) (hL : N ≤ s.size) (hNe : b2 * 256 + b3 = N)
    (HR : Hid (∀ w, Calls Try.prog 27 #[.string (s.extract 20 N)] w (GivesF r 0 w))) :
    Calls Try.prog 10 #[.string s] w (GivesP ⟨0, b0, b1, s.extract 4 20, r⟩ w) := by
  have p0 : 0 < s.size := by omega
  have p1 : 1 < s.size := by omega
  have p2 : 2 < s.size := by omega
  have p3 : 3 < s.size := by omega
  have q1 := or_byte b2 b3 g2 g3
  rw [hNe] at q1
  have bel := Lib.hid (box_below w (po 0 0 ⟨#[]⟩ none 0 0)).drew
  go_enter Try.func10, Try.ntmps10
  go_wp2_with fail
  go_region
  go_wp2_with fail
  refine (HR.out _).mono ?_; rintro e w1 ⟨B, c', rfl, hB, hN1, hb1⟩
  have bel2 := Lib.hid (then_below bel.out hb1)
  have HB := Lib.hid hB
  have HNe := Lib.hid (fun b o' e => by have := hN1 b o' e; simp at this; omega : ∀ b o', B = some ⟨b, o', none⟩ → b ≠ w.heap.size)
  clear hB hN1
  have K := Lib.hid (((Fre.new w (pl 0 0 ⟨#[]⟩ none 0 0) 24).drew).keep hb1)
  clear hb1
  obtain ⟨⟨c0, c1, c2, c3⟩, f0, f1, f2, f3⟩ := K.out.all4
  go_wp2_with fail
  refine bodyPost_ret (v := .tuple #[pv b0 b1 (s.extract 4 20) B r.length c', .int .i64 0]) ?_ rfl ?_
  · obtain ⟨d0, d1, d2, d3⟩ := (K.out.1.put4 (x0 := .int .i64 b0) (x1 := .int .i64 b1) (x2 := .string (s.extract 4 20)) (x3 := .slice B r.length c')).all4
    simp [results, Try.results10, d0, d1, d2, d3, go_sem]
  · exact ⟨B, c', rfl, ats_set (ats_set (ats_set (ats_set HB.out HNe.out) HNe.out) HNe.out) HNe.out, bel_set4 (Nat.le_refl _) bel2.out⟩

theorem read_any (s : ByteArray) (hz : s.size ≤ maxLen) (w : World) : Calls Try.prog 10 #[.string s] w (GivesP (readP s) w) := by
  have hz' : s.size ≤ 9223372036854775807 := hz
  unfold readP
  split
  · exact way_small s w (by omega)
  · rename_i h20
    have g0 := (bAt_get s 0 (by omega)).symm
    have g1 := (bAt_get s 1 (by omega)).symm
    have g2 := (bAt_get s 2 (by omega)).symm
    have g3 := (bAt_get s 3 (by omega)).symm
    have l0 := bAt_lt s 0
    have l1 := bAt_lt s 1
    have l2 := bAt_lt s 2
    have l3 := bAt_lt s 3
    split
    · rename_i h
      exact way_over s _ _ _ _ w (by omega) hz' g0 g1 g2 g3 l0 l1 l2 l3 h
    · rename_i h
      split
      · rename_i h2
        rcases (show longN s < 20 ∨ (20 ≤ longN s ∧ bAt s 0 < 1) by omega) with h3 | ⟨h3, h4⟩
        · exact way_low s _ _ _ _ w (by omega) hz' g0 g1 g2 g3 l0 l1 l2 l3 h3
        · exact way_code s _ _ _ _ w (by omega) hz' g0 g1 g2 g3 l0 l1 l2 l3 h3 (by unfold longN at h; omega) h4
      · rename_i h2
        split
        · rename_i h3
          exact way_cut s _ _ _ _ w (by omega) hz' g0 g1 g2 g3 l0 l1 l2 l3 (by unfold longN at h2; omega) (by unfold longN at h; omega) (by omega) h3
        · rename_i h3
          have hx : (s.extract 20 (longN s)).size ≤ 20000 := by rw [ByteArray.size_extract]; omega
          split
          · rename_i h4
            exact way_ok s _ _ _ _ (longN s) _ w (by omega) hz' g0 g1 g2 g3 l0 l1 l2 l3 (by omega) (by omega) (by omega) (by omega) rfl (Lib.hid fun w => read_fresh _ hx 0 _ w (Prod.ext h4 rfl))
          · rename_i h4
            exact way_attr s _ _ _ _ (longN s) _ _ w (by omega) hz' g0 g1 g2 g3 l0 l1 l2 l3 (by omega) (by omega) (by omega) (by omega) rfl (bne_iff_ne.2 h4) (Lib.hid fun w => read_fresh _ hx _ _ w rfl)

end Pac
end Go.Proofs.Ytmacgbknmpmdiaa
