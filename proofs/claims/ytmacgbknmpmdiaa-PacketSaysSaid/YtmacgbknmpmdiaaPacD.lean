/-
  What the document's Read reads of any text.
-/
import Derived.Test.YtmacgbknmpmdiaaPacB
import Derived.Test.YtmacgbknmpmdiaaAttL
namespace Go.Proofs.Ytmacgbknmpmdiaa
open Go.RowKit
namespace Pac
open Oct Att Bx

set_option maxHeartbeats 1000000 in
theorem rway_small (s : ByteArray) (w : World) (hs : s.size < 20) :
    Calls Try.prog 11 #[.string s] w (GivesP (noR 2) w) := by
  have bel := Lib.hid (box_below w (po 0 0 ⟨#[]⟩ none 0 0))
  go_enter Try.func11, Try.ntmps11
  go_wp2_with fail
  refine bodyPost_ret (v := .tuple #[pv 0 0 ⟨#[]⟩ none 0 0, .int .i64 2]) ?_ rfl (gives_none _ _ _ ?_)
  · simp [results, Try.results11, go_sem]
  · exact bel.out

set_option maxHeartbeats 1000000 in
theorem rway_over (s : ByteArray) (c i N : Nat) (E0 E1 E2 : Int) (w : World) (hs : 20 ≤ s.size) (hz : s.size ≤ 9223372036854775807) (gc : c < 256) (gi : i < 256) (gN : N < 65536) (hN : 4096 < N)
    (HC : Hid (∀ w, Calls Try.prog 28 #[.string s, .int .i64 0, .int .i64 1] w fun e w' => e = .returned (.tuple #[.int .u64 c, .int .i64 E0]) ∧ w = w'))
    (HI : Hid (∀ w, Calls Try.prog 28 #[.string s, .int .i64 1, .int .i64 1] w fun e w' => e = .returned (.tuple #[.int .u64 i, .int .i64 E1]) ∧ w = w'))
    (HN : Hid (∀ w, Calls Try.prog 28 #[.string s, .int .i64 2, .int .i64 2] w fun e w' => e = .returned (.tuple #[.int .u64 N, .int .i64 E2]) ∧ w = w')) :
    Calls Try.prog 11 #[.string s] w (GivesP (noR 4) w) := by
  have n1 : IntKind.i64.wrap (N : Int) = N := by rw [IntKind.wrap_i64]; omega
  have n2 : IntKind.i64.wrap (c : Int) = c := by rw [IntKind.wrap_i64]; omega
  have n3 : IntKind.i64.wrap (i : Int) = i := by rw [IntKind.wrap_i64]; omega
  have bel := Lib.hid (box_below w (po 0 0 ⟨#[]⟩ none 0 0))
  go_enter Try.func11, Try.ntmps11
  go_wp2_with fail
  refine (HC.out _).mono ?_; rintro e w' ⟨rfl, rfl⟩
  go_wp2_with fail
  refine (HI.out _).mono ?_; rintro e w' ⟨rfl, rfl⟩
  go_wp2_with fail
  refine (HN.out _).mono ?_; rintro e w' ⟨rfl, rfl⟩
  go_wp2_with fail
  refine bodyPost_ret (v := .tuple #[pv 0 0 ⟨#[]⟩ none 0 0, .int .i64 4]) ?_ rfl (gives_none _ _ _ ?_)
  · simp [results, Try.results11, go_sem]
  · exact bel.out

set_option maxHeartbeats 1000000 in
theorem rway_low (s : ByteArray) (c i N : Nat) (E0 E1 E2 : Int) (w : World) (hs : 20 ≤ s.size) (hz : s.size ≤ 9223372036854775807) (gc : c < 256) (gi : i < 256) (gN : N < 65536) (hN : N < 20)
    (HC : Hid (∀ w, Calls Try.prog 28 #[.string s, .int .i64 0, .int .i64 1] w fun e w' => e = .returned (.tuple #[.int .u64 c, .int .i64 E0]) ∧ w = w'))
    (HI : Hid (∀ w, Calls Try.prog 28 #[.string s, .int .i64 1, .int .i64 1] w fun e w' => e = .returned (.tuple #[.int .u64 i, .int .i64 E1]) ∧ w = w'))
    (HN : Hid (∀ w, Calls Try.prog 28 #[.string s, .int .i64 2, .int .i64 2] w fun e w' => e = .returned (.tuple #[.int .u64 N, .int .i64 E2]) ∧ w = w')) :
    Calls Try.prog 11 #[.string s] w (GivesP (noR 3) w) := by
  have n1 : IntKind.i64.wrap (N : Int) = N := by rw [IntKind.wrap_i64]; omega
  have n2 : IntKind.i64.wrap (c : Int) = c := by rw [IntKind.wrap_i64]; omega
  have n3 : IntKind.i64.wrap (i : Int) = i := by rw [IntKind.wrap_i64]; omega
  have bel := Lib.hid (box_below w (po 0 0 ⟨#[]⟩ none 0 0))
  go_enter Try.func11, Try.ntmps11
  go_wp2_with fail
  refine (HC.out _).mono ?_; rintro e w' ⟨rfl, rfl⟩
  go_wp2_with fail
  refine (HI.out _).mono ?_; rintro e w' ⟨rfl, rfl⟩
  go_wp2_with fail
  refine (HN.out _).mono ?_; rintro e w' ⟨rfl, rfl⟩
  go_wp2_with fail
  refine bodyPost_ret (v := .tuple #[pv 0 0 ⟨#[]⟩ none 0 0, .int .i64 3]) ?_ rfl (gives_none _ _ _ ?_)
  · simp [results, Try.results11, go_sem]
  · exact bel.out

set_option maxHeartbeats 1000000 in
theorem rway_code (s : ByteArray) (c i N : Nat) (E0 E1 E2 : Int) (w : World) (hs : 20 ≤ s.size) (hz : s.size ≤ 9223372036854775807) (gc : c < 256) (gi : i < 256) (gN : N < 65536) (hN : 20 ≤ N) (hN2 : N ≤ 4096) (hC : c = 0)
    (HC : Hid (∀ w, Calls Try.prog 28 #[.string s, .int .i64 0, .int .i64 1] w fun e w' => e = .returned (.tuple #[.int .u64 c, .int .i64 E0]) ∧ w = w'))
    (HI : Hid (∀ w, Calls Try.prog 28 #[.string s, .int .i64 1, .int .i64 1] w fun e w' => e = .returned (.tuple #[.int .u64 i, .int .i64 E1]) ∧ w = w'))
    (HN : Hid (∀ w, Calls Try.prog 28 #[.string s, .int .i64 2, .int .i64 2] w fun e w' => e = .returned (.tuple #[.int .u64 N, .int .i64 E2]) ∧ w = w')) :
    Calls Try.prog 11 #[.string s] w (GivesP (noR 3) w) := by
  subst hC
  have n1 : IntKind.i64.wrap (N : Int) = N := by rw [IntKind.wrap_i64]; omega
  have n3 : IntKind.i64.wrap (i : Int) = i := by rw [IntKind.wrap_i64]; omega
  have bel := Lib.hid (box_below w (po 0 0 ⟨#[]⟩ none 0 0))
  go_enter Try.func11, Try.ntmps11
  go_wp2_with fail
  refine (HC.out _).mono ?_; rintro e w' ⟨rfl, rfl⟩
  go_wp2_with fail
  refine (HI.out _).mono ?_; rintro e w' ⟨rfl, rfl⟩
  go_wp2_with fail
  refine (HN.out _).mono ?_; rintro e w' ⟨rfl, rfl⟩
  go_wp2_with fail
  refine bodyPost_ret (v := .tuple #[pv 0 0 ⟨#[]⟩ none 0 0, .int .i64 3]) ?_ rfl (gives_none _ _ _ ?_)
  · simp [results, Try.results11, go_sem]
  · exact bel.out

set_option maxHeartbeats 1000000 in
theorem rway_cut (s : ByteArray) (c i N : Nat) (E0 E1 E2 : Int) (w : World) (hs : 20 ≤ s.size) (hz : s.size ≤ 9223372036854775807) (gc : c < 256) (gi : i < 256) (gN : N < 65536) (hN : 20 ≤ N) (hN2 : N ≤ 4096) (hC : 1 ≤ c) (hL : s.size < N)
    (HC : Hid (∀ w, Calls Try.prog 28 #[.string s, .int .i64 0, .int .i64 1] w fun e w' => e = .returned (.tuple #[.int .u64 c, .int .i64 E0]) ∧ w = w'))
    (HI : Hid (∀ w, Calls Try.prog 28 #[.string s, .int .i64 1, .int .i64 1] w fun e w' => e = .returned (.tuple #[.int .u64 i, .int .i64 E1]) ∧ w = w'))
    (HN : Hid (∀ w, Calls Try.prog 28 #[.string s, .int .i64 2, .int .i64 2] w fun e w' => e = .returned (.tuple #[.int .u64 N, .int .i64 E2]) ∧ w = w')) :
    Calls Try.prog 11 #[.string s] w (GivesP (noR 2) w) := by
  have n1 : IntKind.i64.wrap (N : Int) = N := by rw [IntKind.wrap_i64]; omega
  have n2 : IntKind.i64.wrap (c : Int) = c := by rw [IntKind.wrap_i64]; omega
  have n3 : IntKind.i64.wrap (i : Int) = i := by rw [IntKind.wrap_i64]; omega
  have hc : ((c : Int) == 0) = false := by simp; omega
  have bel := Lib.hid (box_below w (po 0 0 ⟨#[]⟩ none 0 0))
  go_enter Try.func11, Try.ntmps11
  go_wp2_with fail
  refine (HC.out _).mono ?_; rintro e w' ⟨rfl, rfl⟩
  go_wp2_with fail
  refine (HI.out _).mono ?_; rintro e w' ⟨rfl, rfl⟩
  go_wp2_with fail
  refine (HN.out _).mono ?_; rintro e w' ⟨rfl, rfl⟩
  go_wp2_with fail
  refine bodyPost_ret (v := .tuple #[pv 0 0 ⟨#[]⟩ none 0 0, .int .i64 2]) ?_ rfl (gives_none _ _ _ ?_)
  · simp [results, Try.results11, go_sem]
  · exact bel.out

set_option maxHeartbeats 1000000 in
theorem rway_attr (s : ByteArray) (c i N : Nat) (E0 E1 E2 : Int) (E : Int) (r : List At) (w : World) (hs : 20 ≤ s.size) (hz : s.size ≤ 9223372036854775807) (gc : c < 256) (gi : i < 256) (gN : N < 65536) (hN : 20 ≤ N) (hN2 : N ≤ 4096) (hC : 1 ≤ c) (hL : N ≤ s.size) (hE : (E != 0) = true)
    (HC : Hid (∀ w, Calls Try.prog 28 #[.string s, .int .i64 0, .int .i64 1] w fun e w' => e = .returned (.tuple #[.int .u64 c, .int .i64 E0]) ∧ w = w'))
    (HI : Hid (∀ w, Calls Try.prog 28 #[.string s, .int .i64 1, .int .i64 1] w fun e w' => e = .returned (.tuple #[.int .u64 i, .int .i64 E1]) ∧ w = w'))
    (HN : Hid (∀ w, Calls Try.prog 28 #[.string s, .int .i64 2, .int .i64 2] w fun e w' => e = .returned (.tuple #[.int .u64 N, .int .i64 E2]) ∧ w = w'))
    (HR : Hid (∀ w, Calls Try.prog 29 #[.string (s.extract 20 N)] w (GivesF r E w))) :
    Calls Try.prog 11 #[.string s] w (GivesP (noR E) w) := by
  have n1 : IntKind.i64.wrap (N : Int) = N := by rw [IntKind.wrap_i64]; omega
  have n2 : IntKind.i64.wrap (c : Int) = c := by rw [IntKind.wrap_i64]; omega
  have n3 : IntKind.i64.wrap (i : Int) = i := by rw [IntKind.wrap_i64]; omega
  have hc : ((c : Int) == 0) = false := by simp; omega
  have bel := Lib.hid (box_below w (po 0 0 ⟨#[]⟩ none 0 0))
  go_enter Try.func11, Try.ntmps11
  go_wp2_with fail
  refine (HC.out _).mono ?_; rintro e w' ⟨rfl, rfl⟩
  go_wp2_with fail
  refine (HI.out _).mono ?_; rintro e w' ⟨rfl, rfl⟩
  go_wp2_with fail
  refine (HN.out _).mono ?_; rintro e w' ⟨rfl, rfl⟩
  go_wp2_with fail
  refine (HR.out _).mono ?_; rintro e w1 ⟨B, c', rfl, hB, hN1, hb1⟩
  have bel2 := Lib.hid (then_below bel.out hb1)
  have HB := Lib.hid hB
  have HNe := Lib.hid (fun b o' e => by have := hN1 b o' e; simp at this; omega : ∀ b o', B = some ⟨b, o', none⟩ → b ≠ w.heap.size)
  clear hB hN1
  have K := Lib.hid ((Fre.new w (pl 0 0 ⟨#[]⟩ none 0 0) 24).keep hb1)
  clear hb1
  obtain ⟨⟨c0, c1, c2, c3⟩, f0, f1, f2, f3⟩ := K.out.all4
  go_wp2_with fail
  refine bodyPost_ret (v := .tuple #[pv 0 0 ⟨#[]⟩ none 0 0, .int .i64 E]) ?_ rfl (gives_none _ _ _ ?_)
  · obtain ⟨d0, d1, d2, d3⟩ := (K.out.1.put4 (x0 := .int .i64 0) (x1 := .int .i64 0) (x2 := .string ⟨#[]⟩) (x3 := .slice none 0 0)).all4
    simp [results, Try.results11, d0, d1, d2, d3, go_sem]
  · exact bel_set4 (Nat.le_refl _) bel2.out

set_option maxHeartbeats 1000000 in
theorem rway_ok (s : ByteArray) (c i N : Nat) (E0 E1 E2 : Int) (r : List At) (w : World) (hs : 20 ≤ s.size) (hz : s.size ≤ 9223372036854775807) (gc : c < 256) (gi : i < 256) (gN : N < 65536) (hN : 20 ≤ N) (hN2 : N ≤ 4096) (hC : 1 ≤ c) (hL : N ≤ s.size)
    (HC : Hid (∀ w, Calls Try.prog 28 #[.string s, .int .i64 0, .int .i64 1] w fun e w' => e = .returned (.tuple #[.int .u64 c, .int .i64 E0]) ∧ w = w'))
    (HI : Hid (∀ w, Calls Try.prog 28 #[.string s, .int .i64 1, .int .i64 1] w fun e w' => e = .returned (.tuple #[.int .u64 i, .int .i64 E1]) ∧ w = w'))
    (HN : Hid (∀ w, Calls Try.prog 28 #[.string s, .int .i64 2, .int .i64 2] w fun e w' => e = .returned (.tuple #[.int .u64 N, .int .i64 E2]) ∧ w = w'))
    (HR : Hid (∀ w, Calls Try.prog 29 #[.string (s.extract 20 N)] w (GivesF r 0 w))) :
    Calls Try.prog 11 #[.string s] w (GivesP ⟨0, c, i, s.extract 4 20, r⟩ w) := by
  have n1 : IntKind.i64.wrap (N : Int) = N := by rw [IntKind.wrap_i64]; omega
  have n2 : IntKind.i64.wrap (c : Int) = c := by rw [IntKind.wrap_i64]; omega
  have n3 : IntKind.i64.wrap (i : Int) = i := by rw [IntKind.wrap_i64]; omega
  have hc : ((c : Int) == 0) = false := by simp; omega
  have bel := Lib.hid (box_below w (po 0 0 ⟨#[]⟩ none 0 0))
  go_enter Try.func11, Try.ntmps11
  go_wp2_with fail
  refine (HC.out _).mono ?_; rintro e w' ⟨rfl, rfl⟩
  go_wp2_with fail
  refine (HI.out _).mono ?_; rintro e w' ⟨rfl, rfl⟩
  go_wp2_with fail
  refine (HN.out _).mono ?_; rintro e w' ⟨rfl, rfl⟩
  go_wp2_with fail
  refine (HR.out _).mono ?_; rintro e w1 ⟨B, c', rfl, hB, hN1, hb1⟩
  have bel2 := Lib.hid (then_below bel.out hb1)
  have HB := Lib.hid hB
  have HNe := Lib.hid (fun b o' e => by have := hN1 b o' e; simp at this; omega : ∀ b o', B = some ⟨b, o', none⟩ → b ≠ w.heap.size)
  clear hB hN1
  have K := Lib.hid ((Fre.new w (pl 0 0 ⟨#[]⟩ none 0 0) 24).keep hb1)
  clear hb1
  obtain ⟨⟨c0, c1, c2, c3⟩, f0, f1, f2, f3⟩ := K.out.all4
  go_wp2_with fail
  refine bodyPost_ret (v := .tuple #[pv c i (s.extract 4 20) B r.length c', .int .i64 0]) ?_ rfl ?_
  · obtain ⟨d0, d1, d2, d3⟩ := (K.out.1.put4 (x0 := .int .i64 c) (x1 := .int .i64 i) (x2 := .string (s.extract 4 20)) (x3 := .slice B r.length c')).all4
    simp [results, Try.results11, d0, d1, d2, d3, go_sem]
  · exact ⟨B, c', rfl, ats_set (ats_set (ats_set (ats_set HB.out HNe.out) HNe.out) HNe.out) HNe.out, bel_set4 (Nat.le_refl _) bel2.out⟩

theorem get_one (s : ByteArray) (k : Nat) (hk : k < s.size) (_h : s.size ≤ 9223372036854775807) : (getR s k 1).1 = bAt s k := by
  have h3 : cutE s.size k 1 = 0 := cutE_zero.2 (by omega)
  have e1 : getR s k 1 = (getL 0 (cutS s k 1).data.toList, 0) := by simp [getR, h3]
  rw [e1, cutS, if_pos h3, bAt_get s k hk, show ((k : Int)).toNat = k by omega, show ((k : Int) + 1).toNat = k + 1 by omega, list_extract, show k + 1 - k = 1 by omega]
  rw [List.drop_eq_getElem_cons (by rw [size_list]; exact hk)]
  show getL 0 [s.data.toList[k]'_] = _
  simp [getL]
  rfl

theorem get_two (s : ByteArray) (hk : 20 ≤ s.size) (_h : s.size ≤ 9223372036854775807) : (getR s 2 2).1 = longN s := by
  have h3 : cutE s.size 2 2 = 0 := cutE_zero.2 (by omega)
  have e1 : getR s 2 2 = (getL 0 (cutS s 2 2).data.toList, 0) := by simp [getR, h3]
  rw [e1, cutS, if_pos h3, longN, bAt_get s 2 (by omega), bAt_get s 3 (by omega), show ((2 : Int)).toNat = 2 by omega, show ((2 : Int) + 2).toNat = 4 by omega, list_extract, show 4 - 2 = 2 by omega]
  rw [List.drop_eq_getElem_cons (by rw [size_list]; omega), List.drop_eq_getElem_cons (by rw [size_list]; omega)]
  show getL 0 [s.data.toList[2]'_, s.data.toList[3]'_] = _
  simp [getL]
  rfl

theorem rread_any (s : ByteArray) (hz : s.size ≤ maxLen) (w : World) : Calls Try.prog 11 #[.string s] w (GivesP (readP s) w) := by
  have hz' : s.size ≤ 9223372036854775807 := hz
  unfold readP
  split
  · exact rway_small s w (by omega)
  · rename_i h20
    have HC := Lib.hid (fun w => rget_any s 0 1 w hz')
    have HI := Lib.hid (fun w => rget_any s 1 1 w hz')
    have HN := Lib.hid (fun w => rget_any s 2 2 w hz')
    have e0 := get_one s 0 (by omega) hz'
    have e1 := get_one s 1 (by omega) hz'
    have e2 := get_two s (by omega) hz'
    rw [Int.natCast_zero] at e0
    rw [Int.natCast_one] at e1
    rw [e0] at HC
    rw [e1] at HI
    rw [e2] at HN
    have l0 := bAt_lt s 0
    have l1 := bAt_lt s 1
    have l2 := bAt_lt s 2
    have l3 := bAt_lt s 3
    have lN : longN s < 65536 := by unfold longN; omega
    split
    · rename_i h
      exact rway_over s _ _ _ _ _ _ w (by omega) hz' l0 l1 lN h HC HI HN
    · rename_i h
      split
      · rename_i h2
        rcases (show longN s < 20 ∨ (20 ≤ longN s ∧ bAt s 0 = 0) by omega) with h3 | ⟨h3, h4⟩
        · exact rway_low s _ _ _ _ _ _ w (by omega) hz' l0 l1 lN h3 HC HI HN
        · exact rway_code s _ _ _ _ _ _ w (by omega) hz' l0 l1 lN h3 (by omega) h4 HC HI HN
      · rename_i h2
        split
        · rename_i h3
          exact rway_cut s _ _ _ _ _ _ w (by omega) hz' l0 l1 lN (by omega) (by omega) (by omega) h3 HC HI HN
        · rename_i h3
          have hx : (s.extract 20 (longN s)).size ≤ 20000 := by rw [ByteArray.size_extract]; omega
          split
          · rename_i h4
            exact rway_ok s _ _ _ _ _ _ _ w (by omega) hz' l0 l1 lN (by omega) (by omega) (by omega) (by omega) HC HI HN (Lib.hid fun w => rread_fresh _ hx 0 _ w (Prod.ext h4 rfl))
          · rename_i h4
            exact rway_attr s _ _ _ _ _ _ _ _ w (by omega) hz' l0 l1 lN (by omega) (by omega) (by omega) (by omega) (bne_iff_ne.2 h4) HC HI HN (Lib.hid fun w => rread_fresh _ hx _ _ w rfl)

end Pac
end Go.Proofs.Ytmacgbknmpmdiaa
