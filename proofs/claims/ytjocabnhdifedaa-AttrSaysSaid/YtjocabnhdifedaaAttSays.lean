/-
  The statement AttrSays: for every slice of attributes, every text and every number the law AttrSays returns true, and its arguments read afterwards as they read before.
-/
import Derived.Test.YtjocabnhdifedaaAttN
import Derived.Test.YtjocabnhdifedaaAttReach
import Derived.Test.YtjocabnhdifedaaRows
namespace Go.Proofs.Ytjocabnhdifedaa
open Go.RowKit
namespace Att
open Oct

theorem read_none : ∀ (m : Nat) (s : List UInt8) (acc : List At) (E : Int) (r : List At), readL m s acc = (E, r) → E ≠ 0 → r = []
  | m, [], acc, E, r, h, h0 => by
    rw [readL_done] at h
    cases h
    exact absurd rfl h0
  | 0, _ :: _, acc, E, r, h, _ => by cases h; rfl
  | m + 1, [_], acc, E, r, h, _ => by cases h; rfl
  | m + 1, b0 :: b1 :: s, acc, E, r, h, h0 => by
    rw [readL] at h
    split at h
    · cases h; rfl
    · split at h
      · cases h; rfl
      · exact read_none m _ _ E r h h0

set_option maxHeartbeats 1000000 in
theorem says_long (l : List At) (hl : l.length ≤ maxLen) (A : Option Addr) (c : Nat) (S : ByteArray) (kind : Int) (w : World) (hA : Ats w A l) (hb : longB 0 0 l = true) :
    Calls Try.prog 3 #[.slice A l.length c, .string S, .int .i64 kind] w fun e w' => e = .returned (.bool true) ∧ Below w.heap.size w w' := by
  have HG := Lib.hid (guard_any l hl A c w hA)
  rw [hb] at HG
  go_enter Try.func3, Try.ntmps3
  go_wp2_with fail
  refine HG.out.mono ?_; rintro e w1 ⟨rfl, hb1⟩
  have B1 := Lib.hid hb1
  go_wp2_with fail
  refine (awake_any _).mono ?_; rintro e w2 ⟨rfl, hb2⟩
  have B2 := Lib.hid (Bx.then_below B1.out hb2)
  go_wp2_with fail
  go_ret
  exact ⟨rfl, B2.out⟩

set_option maxHeartbeats 1000000 in
theorem says_text (l : List At) (hl : l.length ≤ maxLen) (A : Option Addr) (c : Nat) (S : ByteArray) (kind : Int) (w : World) (hA : Ats w A l) (hb : longB 0 0 l = false) (hS : 20000 < S.size) :
    Calls Try.prog 3 #[.slice A l.length c, .string S, .int .i64 kind] w fun e w' => e = .returned (.bool true) ∧ Below w.heap.size w w' := by
  have HG := Lib.hid (guard_any l hl A c w hA)
  rw [hb] at HG
  have hS' : (20000 : Int) < S.size := by omega
  go_enter Try.func3, Try.ntmps3
  go_wp2_with fail
  refine HG.out.mono ?_; rintro e w1 ⟨rfl, hb1⟩
  have B1 := Lib.hid hb1
  go_wp2_with fail
  refine (awake_any _).mono ?_; rintro e w2 ⟨rfl, hb2⟩
  have B2 := Lib.hid (Bx.then_below B1.out hb2)
  go_wp2_with fail
  go_ret
  exact ⟨rfl, B2.out⟩

set_option maxRecDepth 20000 in
set_option maxHeartbeats 4000000 in
theorem says_some (l r : List At) (x : At) (hx : l[0]? = some x) (R : List ByteArray) (S T V J : ByteArray) (F E kind : Int) (fb ρ σ : Bool) (A : Option Addr) (c : Nat) (w : World) (hA : Ats w A l) (hl : l.length ≤ 1000) (hR : R.length ≤ 1000) (hS : S.size ≤ 20000)
    (HG : Hid (∀ w, Ats w A l → Calls Try.prog 8 #[.slice A l.length c] w fun e w' => e = .returned (.bool false) ∧ Below w.heap.size w w'))
    (HB1 : Hid (∀ w, Ats w A l → Calls Try.prog 10 #[.slice A l.length c] w fun e w' => e = .returned (.tuple #[.string T, .int .i64 F]) ∧ Below w.heap.size w w'))
    (HB2 : Hid (∀ w, Ats w A l → Calls Try.prog 11 #[.slice A l.length c] w fun e w' => e = .returned (.tuple #[.string T, .int .i64 F]) ∧ Below w.heap.size w w'))
    (HR1 : Hid (∀ w, Calls Try.prog 12 #[.string S] w (GivesE r E w)))
    (HR2 : Hid (∀ w, Calls Try.prog 13 #[.string S] w (GivesE r E w)))
    (HF1 : Hid (∀ w, Ats w A l → Calls Try.prog 14 #[.slice A l.length c, .int .i64 kind] w fun e w' => e = .returned (.tuple #[.string V, .bool fb]) ∧ Below w.heap.size w w'))
    (HF2 : Hid (∀ w, Ats w A l → Calls Try.prog 15 #[.slice A l.length c, .int .i64 kind] w fun e w' => e = .returned (.tuple #[.string V, .bool fb]) ∧ Below w.heap.size w w'))
    (HA1 : Hid (∀ w, Ats w A l → Calls Try.prog 16 #[.slice A l.length c, .int .i64 kind] w (GivesT R w)))
    (HA2 : Hid (∀ w, Ats w A l → Calls Try.prog 17 #[.slice A l.length c, .int .i64 kind] w (GivesT R w)))
    (HS1 : Hid (∀ w B C d f, Ats w B r → Ats w C r → Calls Try.prog 18 #[.slice B r.length d, .slice C r.length f] w fun e w' => e = .returned (.bool true) ∧ Below w.heap.size w w'))
    (HT1 : Hid (∀ w, Calls Try.prog 19 #[av x] w fun e w' => e = .returned (.bool ρ) ∧ Below w.heap.size w w'))
    (HT2 : Hid (∀ w, Calls Try.prog 20 #[av x] w fun e w' => e = .returned (.bool ρ) ∧ Below w.heap.size w w'))
    (HJ1 : Hid (∀ w, Ats w A l → Calls Try.prog 21 #[.slice A l.length c, .int .i64 kind] w fun e w' => e = .returned (.string J) ∧ Below w.heap.size w w'))
    (HJ2 : Hid (∀ w, Ats w A l → Calls Try.prog 22 #[.slice A l.length c, .int .i64 kind] w fun e w' => e = .returned (.string J) ∧ Below w.heap.size w w'))
    (HM1 : Hid (∀ w B d, Ats w B r → Ats w A l → Calls Try.prog 23 #[.slice B r.length d, .slice A l.length c] w fun e w' => e = .returned (.bool σ) ∧ Below w.heap.size w w'))
    (HM2 : Hid (∀ w B d, Ats w B r → Ats w A l → Calls Try.prog 18 #[.slice B r.length d, .slice A l.length c] w fun e w' => e = .returned (.bool σ) ∧ Below w.heap.size w w')) :
    Calls Try.prog 3 #[.slice A l.length c, .string S, .int .i64 kind] w fun e w' => e = .returned (.bool true) ∧ Below w.heap.size w w' := by
  have A0 := Lib.hid hA
  have hS' : ¬ (20000 : Int) < S.size := by omega
  have hl' : l.length ≤ 9223372036854775807 := by omega
  have hR' : R.length ≤ 9223372036854775807 := by omega
  have hpos : (0 : Int) < l.length := by have := (List.getElem?_eq_some_iff.1 hx).1; omega
  have hpos' : 0 < l.length := by omega
  have HX := Lib.hid hx
  clear hA hx
  go_enter Try.func3, Try.ntmps3
  go_wp2_with fail
  refine (HG.out _ A0.out).mono ?_; rintro e w1 ⟨rfl, hb1⟩
  have B1 := Lib.hid hb1
  have A1 := Lib.hid (A0.out.below hb1)
  clear hb1 A0 HG
  go_wp2_with fail
  refine (HB1.out _ A1.out).mono ?_; rintro e w2 ⟨rfl, hb2⟩
  have B2 := Lib.hid (Bx.then_below B1.out hb2)
  have A2 := Lib.hid (A1.out.below hb2)
  clear hb2 A1 B1 HB1
  go_wp2_with fail
  refine (HB2.out _ A2.out).mono ?_; rintro e w3 ⟨rfl, hb3⟩
  have B3 := Lib.hid (Bx.then_below B2.out hb3)
  have A3 := Lib.hid (A2.out.below hb3)
  clear hb3 A2 B2 HB2
  go_wp2_with fail
  refine (HR1.out _).mono ?_; rintro e w4 ⟨C, cc, rfl, hc4, hb4⟩
  have B4 := Lib.hid (Bx.then_below B3.out hb4)
  have A4 := Lib.hid (A3.out.below hb4)
  have C4 := Lib.hid hc4
  clear hb4 A3 B3 HR1 hc4
  go_wp2_with fail
  refine (HR2.out _).mono ?_; rintro e w5 ⟨D, cd, rfl, hd5, hb5⟩
  have B5 := Lib.hid (Bx.then_below B4.out hb5)
  have A5 := Lib.hid (A4.out.below hb5)
  have C5 := Lib.hid (C4.out.below hb5)
  have D5 := Lib.hid hd5
  clear hb5 A4 B4 C4 HR2 hd5
  go_wp2_with fail
  refine (HF1.out _ A5.out).mono ?_; rintro e w6 ⟨rfl, hb6⟩
  have B6 := Lib.hid (Bx.then_below B5.out hb6)
  have A6 := Lib.hid (A5.out.below hb6)
  have C6 := Lib.hid (C5.out.below hb6)
  have D6 := Lib.hid (D5.out.below hb6)
  clear hb6 A5 B5 C5 D5 HF1
  go_wp2_with fail
  refine (HF2.out _ A6.out).mono ?_; rintro e w7 ⟨rfl, hb7⟩
  have B7 := Lib.hid (Bx.then_below B6.out hb7)
  have A7 := Lib.hid (A6.out.below hb7)
  have C7 := Lib.hid (C6.out.below hb7)
  have D7 := Lib.hid (D6.out.below hb7)
  clear hb7 A6 B6 C6 D6 HF2
  go_wp2_with fail
  refine (HA1.out _ A7.out).mono ?_; rintro e w8 ⟨P, cp, rfl, _, hp8, hb8⟩
  have B8 := Lib.hid (Bx.then_below B7.out hb8)
  have A8 := Lib.hid (A7.out.below hb8)
  have C8 := Lib.hid (C7.out.below hb8)
  have D8 := Lib.hid (D7.out.below hb8)
  have P8 := Lib.hid hp8
  clear hb8 A7 B7 C7 D7 HA1 hp8
  go_wp2_with fail
  refine (HA2.out _ A8.out).mono ?_; rintro e w9 ⟨Q, cq, rfl, _, hq9, hb9⟩
  have B9 := Lib.hid (Bx.then_below B8.out hb9)
  have A9 := Lib.hid (A8.out.below hb9)
  have C9 := Lib.hid (C8.out.below hb9)
  have D9 := Lib.hid (D8.out.below hb9)
  have P9 := Lib.hid (P8.out.below hb9)
  have Q9 := Lib.hid hq9
  clear hb9 A8 B8 C8 D8 P8 HA2 hq9
  have HK1 := Lib.hid (fun w' (h : Below w9.heap.size w9 w') => HS1.out w' C D cc cd (C9.out.below h) (D9.out.below h))
  obtain ⟨x1, x2⟩ := x
  obtain ⟨b, o, rfl, _, c0, c1⟩ := A9.out 0 (x1, x2) HX.out
  simp only [Nat.zero_mul, Nat.add_zero] at c0 c1
  have hh : Below w9.heap.size w9 w9.drew := (Below.refl _ _).drew
  clear HS1 HX
  go_wp2_with fail
  go_region_held3 (fun w' => w'.cell? ⟨b, o, none⟩ = some (.int .i64 x1) ∧ w'.cell? ⟨b, o + 1, none⟩ = some (.string x2) ∧ Below w9.heap.size w9 w')
    (first | exact ⟨c0, c1, hh⟩ | (go_split_ands; exact ⟨Bx.keep_cell (by assumption) (by assumption), Bx.keep_cell (by assumption) (by assumption), Bx.then_below (by assumption) (by assumption)⟩))
    (first | (go_at_call 18; (with_reducible refine (HK1.out _ (by apply And.right; apply And.right; assumption)).mono ?_); rintro e w10 ⟨rfl, hb10⟩) | (go_at_call 19; (with_reducible refine (HT1.out _).mono ?_); rintro e w11 ⟨rfl, hb11⟩) | (go_at_call 20; (with_reducible refine (HT2.out _).mono ?_); rintro e w12 ⟨rfl, hb12⟩))
  have HK : Hid (Below w9.heap.size w9 w12) := Lib.hid (by apply And.right; apply And.right; assumption)
  have B12 := Lib.hid (Bx.then_below B9.out HK.out)
  have A12 := Lib.hid (A9.out.below HK.out)
  have C12 := Lib.hid (C9.out.below HK.out)
  have D12 := Lib.hid (D9.out.below HK.out)
  have P12 := Lib.hid (P9.out.below HK.out)
  have Q12 := Lib.hid (Q9.out.below HK.out)
  clear HK B9 A9 C9 D9 P9 Q9 HK1 c0 c1 hh hb10 hb11 hb12 HT1 HT2
  go_wp2
  go_loopw [21, 97] (fun _ ix wr => ∃ k nd : Nat, k ≤ R.length ∧ ix = .int .i64 k ∧ wr = w12.drewN nd) (fun _ ix _ => R.length - (intOf ix).toNat)
  case atStart => exact ⟨0, 0, Nat.zero_le _, rfl, rfl⟩
  case round =>
    obtain ⟨k, nd, hk, rfl, rfl⟩ := hrel
    by_cases hlt : k < R.length
    · obtain ⟨b5, o5, rfl, _, g5⟩ := P12.out.at hlt
      obtain ⟨b6, o6, rfl, _, g6⟩ := Q12.out.at hlt
      generalize R[k] = y at *
      go_wp2
      go_quiet (fail)
      go_wp2
      go_roundw
      case rel => exact ⟨k + 1, _, by omega, by go_num, rfl⟩
      case measure => simp [intOf]; omega
    · have hd := drew_below w12 nd
      have B13 := Lib.hid (Bx.then_below B12.out hd)
      have A13 := Lib.hid (A12.out.below hd)
      have C13 := Lib.hid (C12.out.below hd)
      have D13 := Lib.hid (D12.out.below hd)
      clear hd B12 A12 C12 D12 P12 Q12
      generalize w12.drewN nd = w13 at *
      go_wp2_with fail
      refine (HJ1.out _ A13.out).mono ?_; rintro e w14 ⟨rfl, hb14⟩
      have B14 := Lib.hid (Bx.then_below B13.out hb14)
      have A14 := Lib.hid (A13.out.below hb14)
      have C14 := Lib.hid (C13.out.below hb14)
      have D14 := Lib.hid (D13.out.below hb14)
      clear hb14 B13 A13 C13 D13 HJ1
      go_wp2_with fail
      refine (HJ2.out _ A14.out).mono ?_; rintro e w15 ⟨rfl, hb15⟩
      have B15 := Lib.hid (Bx.then_below B14.out hb15)
      have A15 := Lib.hid (A14.out.below hb15)
      have C15 := Lib.hid (C14.out.below hb15)
      have D15 := Lib.hid (D14.out.below hb15)
      clear hb15 B14 A14 C14 D14 HJ2
      go_wp2_with fail
      refine (HM1.out _ _ _ C15.out A15.out).mono ?_; rintro e w16 ⟨rfl, hb16⟩
      have B16 := Lib.hid (Bx.then_below B15.out hb16)
      have A16 := Lib.hid (A15.out.below hb16)
      have D16 := Lib.hid (D15.out.below hb16)
      clear hb16 B15 A15 C15 D15 HM1
      go_wp2_with fail
      refine (HM2.out _ _ _ D16.out A16.out).mono ?_; rintro e w17 ⟨rfl, hb17⟩
      have B17 := Lib.hid (Bx.then_below B16.out hb17)
      clear hb17 B16 A16 D16 HM2
      go_wp2_with fail
      refine (awake_any _).mono ?_; rintro e w18 ⟨rfl, hb18⟩
      have B18 := Lib.hid (Bx.then_below B17.out hb18)
      go_wp2_with fail
      go_ret
      exact ⟨rfl, B18.out⟩

set_option maxRecDepth 20000 in
set_option maxHeartbeats 4000000 in
theorem says_none (r : List At) (R : List ByteArray) (S T V J : ByteArray) (F E kind : Int) (fb σ : Bool) (A : Option Addr) (c : Nat) (w : World) (hA : Ats w A []) (hR : R.length ≤ 1000) (hS : S.size ≤ 20000)
    (HG : Hid (∀ w, Ats w A [] → Calls Try.prog 8 #[.slice A 0 c] w fun e w' => e = .returned (.bool false) ∧ Below w.heap.size w w'))
    (HB1 : Hid (∀ w, Ats w A [] → Calls Try.prog 10 #[.slice A 0 c] w fun e w' => e = .returned (.tuple #[.string T, .int .i64 F]) ∧ Below w.heap.size w w'))
    (HB2 : Hid (∀ w, Ats w A [] → Calls Try.prog 11 #[.slice A 0 c] w fun e w' => e = .returned (.tuple #[.string T, .int .i64 F]) ∧ Below w.heap.size w w'))
    (HR1 : Hid (∀ w, Calls Try.prog 12 #[.string S] w (GivesE r E w)))
    (HR2 : Hid (∀ w, Calls Try.prog 13 #[.string S] w (GivesE r E w)))
    (HF1 : Hid (∀ w, Ats w A [] → Calls Try.prog 14 #[.slice A 0 c, .int .i64 kind] w fun e w' => e = .returned (.tuple #[.string V, .bool fb]) ∧ Below w.heap.size w w'))
    (HF2 : Hid (∀ w, Ats w A [] → Calls Try.prog 15 #[.slice A 0 c, .int .i64 kind] w fun e w' => e = .returned (.tuple #[.string V, .bool fb]) ∧ Below w.heap.size w w'))
    (HA1 : Hid (∀ w, Ats w A [] → Calls Try.prog 16 #[.slice A 0 c, .int .i64 kind] w (GivesT R w)))
    (HA2 : Hid (∀ w, Ats w A [] → Calls Try.prog 17 #[.slice A 0 c, .int .i64 kind] w (GivesT R w)))
    (HS1 : Hid (∀ w B C d f, Ats w B r → Ats w C r → Calls Try.prog 18 #[.slice B r.length d, .slice C r.length f] w fun e w' => e = .returned (.bool true) ∧ Below w.heap.size w w'))
    (HJ1 : Hid (∀ w, Ats w A [] → Calls Try.prog 21 #[.slice A 0 c, .int .i64 kind] w fun e w' => e = .returned (.string J) ∧ Below w.heap.size w w'))
    (HJ2 : Hid (∀ w, Ats w A [] → Calls Try.prog 22 #[.slice A 0 c, .int .i64 kind] w fun e w' => e = .returned (.string J) ∧ Below w.heap.size w w'))
    (HM1 : Hid (∀ w B d, Ats w B r → Ats w A [] → Calls Try.prog 23 #[.slice B r.length d, .slice A 0 c] w fun e w' => e = .returned (.bool σ) ∧ Below w.heap.size w w'))
    (HM2 : Hid (∀ w B d, Ats w B r → Ats w A [] → Calls Try.prog 18 #[.slice B r.length d, .slice A 0 c] w fun e w' => e = .returned (.bool σ) ∧ Below w.heap.size w w')) :
    Calls Try.prog 3 #[.slice A 0 c, .string S, .int .i64 kind] w fun e w' => e = .returned (.bool true) ∧ Below w.heap.size w w' := by
  have A0 := Lib.hid hA
  have hS' : ¬ (20000 : Int) < S.size := by omega
  have hR' : R.length ≤ 9223372036854775807 := by omega
  clear hA
  go_enter Try.func3, Try.ntmps3
  go_wp2_with fail
  refine (HG.out _ A0.out).mono ?_; rintro e w1 ⟨rfl, hb1⟩
  have B1 := Lib.hid hb1
  have A1 := Lib.hid (A0.out.below hb1)
  clear hb1 A0 HG
  go_wp2_with fail
  refine (HB1.out _ A1.out).mono ?_; rintro e w2 ⟨rfl, hb2⟩
  have B2 := Lib.hid (Bx.then_below B1.out hb2)
  have A2 := Lib.hid (A1.out.below hb2)
  clear hb2 A1 B1 HB1
  go_wp2_with fail
  refine (HB2.out _ A2.out).mono ?_; rintro e w3 ⟨rfl, hb3⟩
  have B3 := Lib.hid (Bx.then_below B2.out hb3)
  have A3 := Lib.hid (A2.out.below hb3)
  clear hb3 A2 B2 HB2
  go_wp2_with fail
  refine (HR1.out _).mono ?_; rintro e w4 ⟨C, cc, rfl, hc4, hb4⟩
  have B4 := Lib.hid (Bx.then_below B3.out hb4)
  have A4 := Lib.hid (A3.out.below hb4)
  have C4 := Lib.hid hc4
  clear hb4 A3 B3 HR1 hc4
  go_wp2_with fail
  refine (HR2.out _).mono ?_; rintro e w5 ⟨D, cd, rfl, hd5, hb5⟩
  have B5 := Lib.hid (Bx.then_below B4.out hb5)
  have A5 := Lib.hid (A4.out.below hb5)
  have C5 := Lib.hid (C4.out.below hb5)
  have D5 := Lib.hid hd5
  clear hb5 A4 B4 C4 HR2 hd5
  go_wp2_with fail
  refine (HF1.out _ A5.out).mono ?_; rintro e w6 ⟨rfl, hb6⟩
  have B6 := Lib.hid (Bx.then_below B5.out hb6)
  have A6 := Lib.hid (A5.out.below hb6)
  have C6 := Lib.hid (C5.out.below hb6)
  have D6 := Lib.hid (D5.out.below hb6)
  clear hb6 A5 B5 C5 D5 HF1
  go_wp2_with fail
  refine (HF2.out _ A6.out).mono ?_; rintro e w7 ⟨rfl, hb7⟩
  have B7 := Lib.hid (Bx.then_below B6.out hb7)
  have A7 := Lib.hid (A6.out.below hb7)
  have C7 := Lib.hid (C6.out.below hb7)
  have D7 := Lib.hid (D6.out.below hb7)
  clear hb7 A6 B6 C6 D6 HF2
  go_wp2_with fail
  refine (HA1.out _ A7.out).mono ?_; rintro e w8 ⟨P, cp, rfl, _, hp8, hb8⟩
  have B8 := Lib.hid (Bx.then_below B7.out hb8)
  have A8 := Lib.hid (A7.out.below hb8)
  have C8 := Lib.hid (C7.out.below hb8)
  have D8 := Lib.hid (D7.out.below hb8)
  have P8 := Lib.hid hp8
  clear hb8 A7 B7 C7 D7 HA1 hp8
  go_wp2_with fail
  refine (HA2.out _ A8.out).mono ?_; rintro e w9 ⟨Q, cq, rfl, _, hq9, hb9⟩
  have B9 := Lib.hid (Bx.then_below B8.out hb9)
  have A9 := Lib.hid (A8.out.below hb9)
  have C9 := Lib.hid (C8.out.below hb9)
  have D9 := Lib.hid (D8.out.below hb9)
  have P9 := Lib.hid (P8.out.below hb9)
  have Q9 := Lib.hid hq9
  clear hb9 A8 B8 C8 D8 P8 HA2 hq9
  have HK1 := Lib.hid (fun w' (h : Below w9.heap.size w9 w') => HS1.out w' C D cc cd (C9.out.below h) (D9.out.below h))
  have hh : Below w9.heap.size w9 w9.drew := (Below.refl _ _).drew
  clear HS1
  go_wp2_with fail
  refine wp_region_noPanic ?_
  refine wp_region_held_drew (S := fun w' => Below w9.heap.size w9 w') (by kernel_rfl) (by exact hh) (fun hHeld => ?_)
  refine wpAnyH_take (i := 0) (oi := ?o0) (v := ?v0) ?hi0 (by kernel_rfl) (by kernel_rfl) (by kernel_rfl) (fun _ _ _ h => h) ?y0 (by assumption) ?r0
  case hi0 => (simp only [List.getElem?_toArray, List.getElem?_cons_zero]; rfl)
  case y0 => (refine Or.inl ⟨by rfl, ?_⟩; intro w' hSw; (try dsimp only at hSw); go_simp; (try with_reducible rfl))
  try simp only [Act.put, List.setIfInBounds_toArray, List.set_cons_zero, List.set_cons_succ]
  refine wpAnyH_take (i := 1) (oi := ?o1) (v := ?v1) ?hi1 (by kernel_rfl) (by kernel_rfl) (by kernel_rfl) (fun _ _ _ h => h) ?y1 (by assumption) ?r1
  case hi1 => (simp only [List.getElem?_toArray, List.getElem?_cons_succ, List.getElem?_cons_zero]; rfl)
  case y1 => (refine Or.inl ⟨by rfl, ?_⟩; intro w' hSw; (try dsimp only at hSw); go_simp; (try with_reducible rfl))
  try simp only [Act.put, List.setIfInBounds_toArray, List.set_cons_zero, List.set_cons_succ]
  refine wpAnyH_take (i := 2) (oi := ?o2) (v := ?v2) ?hi2 (by kernel_rfl) (by kernel_rfl) (by kernel_rfl) (fun _ _ _ h => h) ?y2 (by assumption) ?r2
  case hi2 => (simp only [List.getElem?_toArray, List.getElem?_cons_succ, List.getElem?_cons_zero]; rfl)
  case y2 => (refine Or.inl ⟨by rfl, ?_⟩; intro w' hSw; (try dsimp only at hSw); go_simp; (try with_reducible rfl))
  try simp only [Act.put, List.setIfInBounds_toArray, List.set_cons_zero, List.set_cons_succ]
  refine wpAnyH_take (i := 3) (oi := ?o3) (v := ?v3) ?hi3 (by kernel_rfl) (by kernel_rfl) (by kernel_rfl) (fun _ _ _ h => h) ?y3 (by assumption) ?r3
  case hi3 => (simp only [List.getElem?_toArray, List.getElem?_cons_succ, List.getElem?_cons_zero]; rfl)
  case y3 => (refine Or.inl ⟨by rfl, ?_⟩; intro w' hSw; (try dsimp only at hSw); go_simp; (try with_reducible rfl))
  try simp only [Act.put, List.setIfInBounds_toArray, List.set_cons_zero, List.set_cons_succ]
  refine wpAnyH_take (i := 4) (oi := ?o4) (v := ?v4) ?hi4 (by kernel_rfl) (by kernel_rfl) (by kernel_rfl) (fun _ _ _ h => h) ?y4 (by assumption) ?r4
  case hi4 => (simp only [List.getElem?_toArray, List.getElem?_cons_succ, List.getElem?_cons_zero]; rfl)
  case y4 => (refine Or.inl ⟨by rfl, ?_⟩; intro w' hSw; (try dsimp only at hSw); go_simp; (try with_reducible rfl))
  try simp only [Act.put, List.setIfInBounds_toArray, List.set_cons_zero, List.set_cons_succ]
  refine wpAnyH_take (i := 5) (oi := ?o5) (v := ?v5) ?hi5 (by kernel_rfl) (by kernel_rfl) (by kernel_rfl) (fun _ _ _ h => h) ?y5 (by assumption) ?r5
  case hi5 => (simp only [List.getElem?_toArray, List.getElem?_cons_succ, List.getElem?_cons_zero]; rfl)
  case y5 => (refine Or.inl ⟨by rfl, ?_⟩; intro w' hSw; (try dsimp only at hSw); go_simp; (try with_reducible rfl))
  try simp only [Act.put, List.setIfInBounds_toArray, List.set_cons_zero, List.set_cons_succ]
  refine wpAnyH_take (i := 6) (oi := ?o6) (v := ?v6) ?hi6 (by kernel_rfl) (by kernel_rfl) (by kernel_rfl) (fun _ _ _ h => h) ?y6 (by assumption) ?r6
  case hi6 => (simp only [List.getElem?_toArray, List.getElem?_cons_succ, List.getElem?_cons_zero]; rfl)
  case y6 => (refine Or.inl ⟨by rfl, ?_⟩; intro w' hSw; (try dsimp only at hSw); go_simp; (try with_reducible rfl))
  try simp only [Act.put, List.setIfInBounds_toArray, List.set_cons_zero, List.set_cons_succ]
  refine wpAnyH_take (i := 7) (oi := ?o7) (v := ?v7) ?hi7 (by kernel_rfl) (by kernel_rfl) (by kernel_rfl) (fun _ _ _ h => h) ?y7 (by assumption) ?r7
  case hi7 => (simp only [List.getElem?_toArray, List.getElem?_cons_succ, List.getElem?_cons_zero]; rfl)
  case y7 => (refine Or.inl ⟨by rfl, ?_⟩; intro w' hSw; (try dsimp only at hSw); go_simp; (try with_reducible rfl))
  try simp only [Act.put, List.setIfInBounds_toArray, List.set_cons_zero, List.set_cons_succ]
  refine wpAnyH_ready (rs := [8]) (by kernel_rfl) (by simp) ?_
  refine AllReadyH.cons (o := ?o8) ?hi8 ?hst8 AllReadyH.nil
  case hi8 => (simp only [List.getElem?_toArray, List.getElem?_cons_succ, List.getElem?_cons_zero]; rfl)
  intro K hK
  go_simp
  refine (HK1.out _ hHeld).mono ?_; rintro e w12 ⟨rfl, hb10⟩
  go_wp2_with fail
  refine hK.out _ _ (Bx.then_below hHeld hb10) (fun hNew => ?_)
  clear hHeld
  have hHeld := hNew
  clear hNew
  refine wpAnyH_take (i := 9) (oi := ?o9) (v := ?v9) ?hi9 (by kernel_rfl) (by kernel_rfl) (by kernel_rfl) (fun _ _ _ h => h) ?y9 (by assumption) ?r9
  case hi9 => (simp only [List.getElem?_toArray, List.getElem?_cons_succ, List.getElem?_cons_zero]; rfl)
  case y9 => (refine Or.inl ⟨by rfl, ?_⟩; intro w' hSw; (try dsimp only at hSw); go_simp; (try with_reducible rfl))
  try simp only [Act.put, List.setIfInBounds_toArray, List.set_cons_zero, List.set_cons_succ]
  refine wpAnyH_take (i := 10) (oi := ?o10) (v := ?v10) ?hi10 (by kernel_rfl) (by kernel_rfl) (by kernel_rfl) (fun _ _ _ h => h) ?y10 (by assumption) ?r10
  case hi10 => (simp only [List.getElem?_toArray, List.getElem?_cons_succ, List.getElem?_cons_zero]; rfl)
  case y10 => (refine Or.inl ⟨by rfl, ?_⟩; intro w' hSw; (try dsimp only at hSw); go_simp; (try with_reducible rfl))
  try simp only [Act.put, List.setIfInBounds_toArray, List.set_cons_zero, List.set_cons_succ]
  refine wpAnyH_take (i := 11) (oi := ?o11) (v := ?v11) ?hi11 (by kernel_rfl) (by kernel_rfl) (by kernel_rfl) (fun _ _ _ h => h) ?y11 (by assumption) ?r11
  case hi11 => (simp only [List.getElem?_toArray, List.getElem?_cons_succ, List.getElem?_cons_zero]; rfl)
  case y11 => (refine Or.inl ⟨by rfl, ?_⟩; intro w' hSw; (try dsimp only at hSw); go_simp; (try with_reducible rfl))
  try simp only [Act.put, List.setIfInBounds_toArray, List.set_cons_zero, List.set_cons_succ]
  refine wpAnyH_take (i := 12) (oi := ?o12) (v := ?v12) ?hi12 (by kernel_rfl) (by kernel_rfl) (by kernel_rfl) (fun _ _ _ h => h) ?y12 (by assumption) ?r12
  case hi12 => (simp only [List.getElem?_toArray, List.getElem?_cons_succ, List.getElem?_cons_zero]; rfl)
  case y12 => (refine Or.inl ⟨by rfl, ?_⟩; intro w' hSw; (try dsimp only at hSw); go_simp; (try with_reducible rfl))
  try simp only [Act.put, List.setIfInBounds_toArray, List.set_cons_zero, List.set_cons_succ]
  refine wpAnyH_take (i := 13) (oi := ?o13) (v := ?v13) ?hi13 (by kernel_rfl) (by kernel_rfl) (by kernel_rfl) (fun _ _ _ h => h) ?y13 (by assumption) ?r13
  case hi13 => (simp only [List.getElem?_toArray, List.getElem?_cons_succ, List.getElem?_cons_zero]; rfl)
  case y13 => (refine Or.inl ⟨by rfl, ?_⟩; intro w' hSw; (try dsimp only at hSw); go_simp; (try with_reducible rfl))
  try simp only [Act.put, List.setIfInBounds_toArray, List.set_cons_zero, List.set_cons_succ]
  refine wpAnyH_take (i := 14) (oi := ?o14) (v := ?v14) ?hi14 (by kernel_rfl) (by kernel_rfl) (by kernel_rfl) (fun _ _ _ h => h) ?y14 (by assumption) ?r14
  case hi14 => (simp only [List.getElem?_toArray, List.getElem?_cons_succ, List.getElem?_cons_zero]; rfl)
  case y14 => (refine Or.inl ⟨by rfl, ?_⟩; intro w' hSw; (try dsimp only at hSw); go_simp; (try with_reducible rfl))
  try simp only [Act.put, List.setIfInBounds_toArray, List.set_cons_zero, List.set_cons_succ]
  refine wpAnyH_take (i := 15) (oi := ?o15) (v := ?v15) ?hi15 (by kernel_rfl) (by kernel_rfl) (by kernel_rfl) (fun _ _ _ h => h) ?y15 (by assumption) ?r15
  case hi15 => (simp only [List.getElem?_toArray, List.getElem?_cons_succ, List.getElem?_cons_zero]; rfl)
  case y15 => (refine Or.inl ⟨by rfl, ?_⟩; intro w' hSw; (try dsimp only at hSw); go_simp; (try with_reducible rfl))
  try simp only [Act.put, List.setIfInBounds_toArray, List.set_cons_zero, List.set_cons_succ]
  refine wpAnyH_take (i := 16) (oi := ?o16) (v := undef) ?hi16 (by kernel_rfl) (by kernel_rfl) (by kernel_rfl) (fun _ _ _ h => h) ?y16 (by assumption) ?r16
  case hi16 => (simp only [List.getElem?_toArray, List.getElem?_cons_succ, List.getElem?_cons_zero]; rfl)
  case y16 => exact Or.inr ⟨by rfl, rfl⟩
  try simp only [Act.put, List.setIfInBounds_toArray, List.set_cons_zero, List.set_cons_succ]
  refine wpAnyH_take (i := 17) (oi := ?o17) (v := undef) ?hi17 (by kernel_rfl) (by kernel_rfl) (by kernel_rfl) (fun _ _ _ h => h) ?y17 (by assumption) ?r17
  case hi17 => (simp only [List.getElem?_toArray, List.getElem?_cons_succ, List.getElem?_cons_zero]; rfl)
  case y17 => exact Or.inr ⟨by rfl, rfl⟩
  try simp only [Act.put, List.setIfInBounds_toArray, List.set_cons_zero, List.set_cons_succ]
  refine wpAnyH_take (i := 18) (oi := ?o18) (v := undef) ?hi18 (by kernel_rfl) (by kernel_rfl) (by kernel_rfl) (fun _ _ _ h => h) ?y18 (by assumption) ?r18
  case hi18 => (simp only [List.getElem?_toArray, List.getElem?_cons_succ, List.getElem?_cons_zero]; rfl)
  case y18 => exact Or.inr ⟨by rfl, rfl⟩
  try simp only [Act.put, List.setIfInBounds_toArray, List.set_cons_zero, List.set_cons_succ]
  refine wpAnyH_take (i := 19) (oi := ?o19) (v := undef) ?hi19 (by kernel_rfl) (by kernel_rfl) (by kernel_rfl) (fun _ _ _ h => h) ?y19 (by assumption) ?r19
  case hi19 => (simp only [List.getElem?_toArray, List.getElem?_cons_succ, List.getElem?_cons_zero]; rfl)
  case y19 => exact Or.inr ⟨by rfl, rfl⟩
  try simp only [Act.put, List.setIfInBounds_toArray, List.set_cons_zero, List.set_cons_succ]
  refine wpAnyH_take (i := 20) (oi := ?o20) (v := undef) ?hi20 (by kernel_rfl) (by kernel_rfl) (by kernel_rfl) (fun _ _ _ h => h) ?y20 (by assumption) ?r20
  case hi20 => (simp only [List.getElem?_toArray, List.getElem?_cons_succ, List.getElem?_cons_zero]; rfl)
  case y20 => exact Or.inr ⟨by rfl, rfl⟩
  try simp only [Act.put, List.setIfInBounds_toArray, List.set_cons_zero, List.set_cons_succ]
  refine wpAnyH_take (i := 21) (oi := ?o21) (v := undef) ?hi21 (by kernel_rfl) (by kernel_rfl) (by kernel_rfl) (fun _ _ _ h => h) ?y21 (by assumption) ?r21
  case hi21 => (simp only [List.getElem?_toArray, List.getElem?_cons_succ, List.getElem?_cons_zero]; rfl)
  case y21 => exact Or.inr ⟨by rfl, rfl⟩
  try simp only [Act.put, List.setIfInBounds_toArray, List.set_cons_zero, List.set_cons_succ]
  refine wpAnyH_take (i := 22) (oi := ?o22) (v := undef) ?hi22 (by kernel_rfl) (by kernel_rfl) (by kernel_rfl) (fun _ _ _ h => h) ?y22 (by assumption) ?r22
  case hi22 => (simp only [List.getElem?_toArray, List.getElem?_cons_succ, List.getElem?_cons_zero]; rfl)
  case y22 => exact Or.inr ⟨by rfl, rfl⟩
  try simp only [Act.put, List.setIfInBounds_toArray, List.set_cons_zero, List.set_cons_succ]
  refine wpAnyH_take (i := 23) (oi := ?o23) (v := undef) ?hi23 (by kernel_rfl) (by kernel_rfl) (by kernel_rfl) (fun _ _ _ h => h) ?y23 (by assumption) ?r23
  case hi23 => (simp only [List.getElem?_toArray, List.getElem?_cons_succ, List.getElem?_cons_zero]; rfl)
  case y23 => exact Or.inr ⟨by rfl, rfl⟩
  try simp only [Act.put, List.setIfInBounds_toArray, List.set_cons_zero, List.set_cons_succ]
  refine wpAnyH_take (i := 24) (oi := ?o24) (v := undef) ?hi24 (by kernel_rfl) (by kernel_rfl) (by kernel_rfl) (fun _ _ _ h => h) ?y24 (by assumption) ?r24
  case hi24 => (simp only [List.getElem?_toArray, List.getElem?_cons_succ, List.getElem?_cons_zero]; rfl)
  case y24 => exact Or.inr ⟨by rfl, rfl⟩
  try simp only [Act.put, List.setIfInBounds_toArray, List.set_cons_zero, List.set_cons_succ]
  refine wpAnyH_take (i := 25) (oi := ?o25) (v := ?v25) ?hi25 (by kernel_rfl) (by kernel_rfl) (by kernel_rfl) (fun _ _ _ h => h) ?y25 (by assumption) ?r25
  case hi25 => (simp only [List.getElem?_toArray, List.getElem?_cons_succ, List.getElem?_cons_zero]; rfl)
  case y25 => (refine Or.inl ⟨by rfl, ?_⟩; intro w' hSw; (try dsimp only at hSw); go_simp; (try with_reducible rfl))
  try simp only [Act.put, List.setIfInBounds_toArray, List.set_cons_zero, List.set_cons_succ]
  refine wpAnyH_take (i := 26) (oi := ?o26) (v := ?v26) ?hi26 (by kernel_rfl) (by kernel_rfl) (by kernel_rfl) (fun _ _ _ h => h) ?y26 (by assumption) ?r26
  case hi26 => (simp only [List.getElem?_toArray, List.getElem?_cons_succ, List.getElem?_cons_zero]; rfl)
  case y26 => (refine Or.inl ⟨by rfl, ?_⟩; intro w' hSw; (try dsimp only at hSw); go_simp; (try with_reducible rfl))
  try simp only [Act.put, List.setIfInBounds_toArray, List.set_cons_zero, List.set_cons_succ]
  refine wpAnyH_done (by kernel_rfl) ?_ _
  refine NoPanic.normal ?_
  have HK : Hid (Below w9.heap.size w9 w12) := Lib.hid hHeld
  have B12 := Lib.hid (Bx.then_below B9.out HK.out)
  have A12 := Lib.hid (A9.out.below HK.out)
  have C12 := Lib.hid (C9.out.below HK.out)
  have D12 := Lib.hid (D9.out.below HK.out)
  have P12 := Lib.hid (P9.out.below HK.out)
  have Q12 := Lib.hid (Q9.out.below HK.out)
  clear HK B9 A9 C9 D9 P9 Q9 HK1 hh hb10
  go_wp2
  go_loopw [21, 97] (fun _ ix wr => ∃ k nd : Nat, k ≤ R.length ∧ ix = .int .i64 k ∧ wr = w12.drewN nd) (fun _ ix _ => R.length - (intOf ix).toNat)
  case atStart => exact ⟨0, 0, Nat.zero_le _, rfl, rfl⟩
  case round =>
    obtain ⟨k, nd, hk, rfl, rfl⟩ := hrel
    by_cases hlt : k < R.length
    · obtain ⟨b5, o5, rfl, _, g5⟩ := P12.out.at hlt
      obtain ⟨b6, o6, rfl, _, g6⟩ := Q12.out.at hlt
      generalize R[k] = y at *
      go_wp2
      go_quiet (fail)
      go_wp2
      go_roundw
      case rel => exact ⟨k + 1, _, by omega, by go_num, rfl⟩
      case measure => simp [intOf]; omega
    · have hd := drew_below w12 nd
      have B13 := Lib.hid (Bx.then_below B12.out hd)
      have A13 := Lib.hid (A12.out.below hd)
      have C13 := Lib.hid (C12.out.below hd)
      have D13 := Lib.hid (D12.out.below hd)
      clear hd B12 A12 C12 D12 P12 Q12
      generalize w12.drewN nd = w13 at *
      go_wp2_with fail
      refine (HJ1.out _ A13.out).mono ?_; rintro e w14 ⟨rfl, hb14⟩
      have B14 := Lib.hid (Bx.then_below B13.out hb14)
      have A14 := Lib.hid (A13.out.below hb14)
      have C14 := Lib.hid (C13.out.below hb14)
      have D14 := Lib.hid (D13.out.below hb14)
      clear hb14 B13 A13 C13 D13 HJ1
      go_wp2_with fail
      refine (HJ2.out _ A14.out).mono ?_; rintro e w15 ⟨rfl, hb15⟩
      have B15 := Lib.hid (Bx.then_below B14.out hb15)
      have A15 := Lib.hid (A14.out.below hb15)
      have C15 := Lib.hid (C14.out.below hb15)
      have D15 := Lib.hid (D14.out.below hb15)
      clear hb15 B14 A14 C14 D14 HJ2
      go_wp2_with fail
      refine (HM1.out _ _ _ C15.out A15.out).mono ?_; rintro e w16 ⟨rfl, hb16⟩
      have B16 := Lib.hid (Bx.then_below B15.out hb16)
      have A16 := Lib.hid (A15.out.below hb16)
      have D16 := Lib.hid (D15.out.below hb16)
      clear hb16 B15 A15 C15 D15 HM1
      go_wp2_with fail
      refine (HM2.out _ _ _ D16.out A16.out).mono ?_; rintro e w17 ⟨rfl, hb17⟩
      have B17 := Lib.hid (Bx.then_below B16.out hb17)
      clear hb17 B16 A16 D16 HM2
      go_wp2_with fail
      refine (awake_any _).mono ?_; rintro e w18 ⟨rfl, hb18⟩
      have B18 := Lib.hid (Bx.then_below B17.out hb18)
      go_wp2_with fail
      go_ret
      exact ⟨rfl, B18.out⟩

theorem walk_says (w : World) (l : List At) (hl : l.length ≤ maxLen) (A : Option Addr) (c : Nat) (hA : Ats w A l) (hz : ∀ x ∈ l, x.2.size ≤ 140737488351232) (S : ByteArray) (_hS : S.size ≤ maxLen) (kind : Int) (_hk : (Lit.int .i64 kind).wf = true) :
    Calls Try.prog 3 #[.slice A l.length c, .string S, .int .i64 kind] w fun e w' => e = .returned (.bool true) ∧ Below w.heap.size w w' := by
  cases hb : longB 0 0 l with
  | true => exact says_long l hl A c S kind w hA hb
  | false =>
    by_cases hS : 20000 < S.size
    · exact says_text l hl A c S kind w hA hb hS
    · have h81 := longB_le l 0 0 hb (by omega)
      have hs := longB_sum l 0 0 hb (by omega) hz
      have hc := cat_vals l kind
      have hl2 : l.length ≤ 1000 := by omega
      have hn := allV_length l kind
      obtain ⟨E, r, hr⟩ : ∃ E r, readL 64 S.data.toList [] = (E, r) := ⟨_, _, rfl⟩
      have hr64 : r.length ≤ maxLen := by
        by_cases h0 : E = 0
        · subst h0
          have := (bytesE_zero (bytes_read hr).1).1
          unfold maxLen; omega
        · have h1 := read_none 64 S.data.toList [] E r hr h0
          rw [h1]; exact Nat.zero_le _
      have HG := Lib.hid (fun w h => guard_any l hl A c w h)
      rw [hb] at HG
      have HB1 := Lib.hid (fun w h => bytes_any l hl A c w h)
      have HB2 := Lib.hid (fun w h => rbytes_any l hl A c w h)
      have HR1 := Lib.hid (fun w => read_any S (by omega) E r w hr)
      have HR2 := Lib.hid (fun w => rread_any S (by omega) E r w hr)
      have HF1 := Lib.hid (fun w h => find_any l hl2 kind A c w h)
      have HF2 := Lib.hid (fun w h => rfind_any l hl2 kind A c w h)
      have HA1 := Lib.hid (fun w h => all_any l hl2 kind A c w h)
      have HA2 := Lib.hid (fun w h => rall_any l hl2 kind A c w h)
      have HS1 : Hid (∀ w B C d f, Ats w B r → Ats w C r → Calls Try.prog 18 #[.slice B r.length d, .slice C r.length f] w fun e w' => e = .returned (.bool true) ∧ Below w.heap.size w w') := Lib.hid (fun w B C d f h1 h2 => by
        have e := rsame_any r r hr64 hr64 B C d f w h1 h2
        rw [decide_eq_true rfl] at e
        exact e.mono fun _ _ ⟨h1, q, h3⟩ => ⟨h1, by subst h3; exact drew_below _ _⟩)
      have HJ1 := Lib.hid (fun w h => join_any l hl2 kind (by omega) A c w h)
      have HJ2 := Lib.hid (fun w h => rjoin_any l hl2 kind (by omega) A c w h)
      have HM1 : Hid (∀ w B d, Ats w B r → Ats w A l → Calls Try.prog 23 #[.slice B r.length d, .slice A l.length c] w fun e w' => e = .returned (.bool (decide (r = l))) ∧ Below w.heap.size w w') := Lib.hid (fun w B d h1 h2 =>
        (same_any r l hr64 hl B A d c w h1 h2).mono fun _ _ ⟨h1, q, h3⟩ => ⟨h1, by subst h3; exact drew_below _ _⟩)
      have HM2 : Hid (∀ w B d, Ats w B r → Ats w A l → Calls Try.prog 18 #[.slice B r.length d, .slice A l.length c] w fun e w' => e = .returned (.bool (decide (r = l))) ∧ Below w.heap.size w w') := Lib.hid (fun w B d h1 h2 =>
        (rsame_any r l hr64 hl B A d c w h1 h2).mono fun _ _ ⟨h1, q, h3⟩ => ⟨h1, by subst h3; exact drew_below _ _⟩)
      cases l with
      | nil => exact says_none r (allV [] kind) S (bytesT []) (findV [] kind).1 (catS (allV [] kind)) (bytesE []) E kind (findV [] kind).2 (decide (r = [])) A c w hA (by omega) (by omega) HG HB1 HB2 HR1 HR2 HF1 HF2 HA1 HA2 HS1 HJ1 HJ2 HM1 HM2
      | cons x l' => exact says_some (x :: l') r x rfl (allV (x :: l') kind) S (bytesT (x :: l')) (findV (x :: l') kind).1 (catS (allV (x :: l') kind)) (bytesE (x :: l')) E kind (findV (x :: l') kind).2 (rightA x) (decide (r = x :: l')) A c w hA hl2 (by omega) (by omega) HG HB1 HB2 HR1 HR2 HF1 HF2 HA1 HA2 HS1 (Lib.hid (right_any x)) (Lib.hid (rright_any x)) HJ1 HJ2 HM1 HM2

end Att
namespace LawAttrSays
open Go.ChangeShapes Go.WideShapes Go.ChangeAt Go.RowKit
open Go.ChangeMaps (open_string shut_string)

theorem own : ownKnob Try.prog.godebug = none := by kernel_rfl
theorem laidOut : laidOutB Try.prog = true := by kernel_rfl

set_option maxRecDepth 100000 in
theorem lifted (os : Os) (started : os.Started) (H : Type) (enc : TypeId × Value → H) :
    ReturnsInHanded {} Try.checked os 3 .any (Rows.attrSaysSpec.pre6 enc Try.prog Try.f3 Rows.attrSaysRow.domain false) (Rows.attrSaysSpec.post enc Try.prog Try.f3 false true false false) := by
  refine Fr.law_lift_sized (C := Try.checked) (tb := 4) own started (by kernel_rfl) Try.func3
    (ChangeSpec.witness6 (enc := enc) (C := Try.checked) false ⟨#[], #[.slice none 0 0, .string ByteArray.empty, .int .i64 0], []⟩ 8 (by kernel_rfl) (by kernel_rfl) (by kernel_rfl) (by kernel_rfl))
    laidOut (by rw [Try.params3]; decide +kernel) rfl Try.underlying4 rfl ?_ ?_
  · intro ds hl
    match ds, hl with
    | [d0, d1, d2], _ => rfl
  · intro W base args ds p hval hA hz
    rw [Try.params3] at hA hval hz
    obtain ⟨v0, vs0, d0, ds0, p0, q0, hargs, rfl, rfl, h0, r0⟩ := trodAll_cons hA
    obtain ⟨v1, vs1, d1, ds1, p1, q1, rfl, rfl, rfl, h1, r1⟩ := trodAll_cons r0
    obtain ⟨v2, vs2, d2, ds2, p2, q2, rfl, rfl, rfl, h2, r2⟩ := trodAll_cons r1
    obtain ⟨rfl, rfl, rfl⟩ := trodAll_nil r2
    obtain rfl : args = #[v0, v1, v2] := by cases args; simp_all
    obtain ⟨A0, l0, c0, rfl, hl0, hA0, hz0⟩ := Att.open_reach (hval 0 22 v0 rfl rfl) h0 (hz 0 _ _ rfl rfl)
    obtain ⟨a1, rfl, rfl, rfl, w1⟩ := open_string Try.underlying9 (hval 1 9 v1 rfl rfl) h1
    obtain ⟨a2, rfl, rfl, rfl, w2⟩ := open_int Try.underlying3 (hval 2 3 v2 rfl rfl) h2
    exact Att.walk_says W l0 hl0 A0 c0 hA0 hz0 a1 w1 a2 w2

theorem over : Rows.attrSaysRow.holds Try.pinned (OpenSpec.ofChange Rows.attrSaysSpec) :=
  OpenClaim.holds_of_wide 3 Try.f3 rfl rfl rfl rfl rfl rfl rfl ⟨rfl, rfl, rfl, rfl, rfl⟩ rfl rfl rfl rfl rfl (by kernel_rfl) Try.func3 (by kernel_rfl)
    (of_decide_eq_true (by kernel_rfl)) (by unfold Func.isWrapper; first | (rw [if_pos (by decide +kernel)]; kernel_rfl) | (rw [if_neg (by decide +kernel)]; exact ⟨rfl, rfl⟩))
    (fun os started H enc _ => lifted os started H enc)
end LawAttrSays

/-- The statement AttrSays. -/
theorem attrSays_holds : Rows.AttrSaysSaid := LawAttrSays.over

end Go.Proofs.Ytjocabnhdifedaa
