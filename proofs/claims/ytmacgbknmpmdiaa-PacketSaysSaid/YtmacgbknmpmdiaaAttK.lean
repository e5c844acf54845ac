/-
  What attr.Read reads of any text: its loop.
-/
import Derived.Test.YtmacgbknmpmdiaaAttJ
import Derived.Test.YtmacgbknmpmdiaaAttH
import Derived.Test.YtmacgbknmpmdiaaAttF
namespace Go.Proofs.Ytmacgbknmpmdiaa
open Go.RowKit
namespace Att
open Oct

def strSz : Value → Nat
  | .string b => b.size
  | _ => 0

theorem size_zero {b : ByteArray} (h : b.size = 0) : b = ⟨#[]⟩ := by
  obtain ⟨⟨l⟩⟩ := b
  match l, h with
  | [], _ => rfl

theorem full_list {b : ByteArray} (h : b.size ≠ 0) : b.toList.isEmpty = false := by
  rw [ByteArray.toList_eq]
  cases hl : b.data.toList with
  | nil => exact absurd (by show b.data.size = 0; rw [← Array.length_toList, hl]; rfl) h
  | cons _ _ => rfl

theorem at_next {w : World} {base : Nat} {v : Value} {o : List At} {x : At} {e : TypeId} (h : w.ownsRow base e 2 v (o.length + 1) (o.flatMap enc ++ [.int .i64 x.1, .string x.2])) : ∃ B c, v = .slice B (o ++ [x]).length c ∧ w.ownsRow base e 2 (.slice B (o ++ [x]).length c) (o ++ [x]).length ((o ++ [x]).flatMap enc) := by
  obtain ⟨B, c, rfl⟩ := at_form h
  refine ⟨B, c, by simp, ?_⟩
  have e1 : (o ++ [x]).flatMap enc = o.flatMap enc ++ [.int .i64 x.1, .string x.2] := by simp [enc]
  rw [e1]
  simpa using h

/-- What stands first, and what is read on. -/
theorem head_bad (t : ByteArray) (m : Nat) (o : List At) (h0 : t.size ≠ 0) (h : (headE t).1 ≠ 0) : readL (m + 1) t.data.toList o = ((headE t).1, []) ∧ (headE t).2 = (0, ⟨#[]⟩) ∧ ((headE t).1 = 2 ∨ (headE t).1 = 3) := by
  unfold headE at h ⊢
  by_cases h2 : 2 ≤ t.size
  · rw [dif_pos h2] at h ⊢
    by_cases hf : t[0].toNat < 1 ∨ t[1].toNat < 2
    · rw [if_pos hf]
      exact ⟨readL_form m t h2 hf o, rfl, .inr rfl⟩
    · rw [if_neg hf] at h ⊢
      by_cases hs : t.size < t[1].toNat
      · rw [if_pos hs]
        exact ⟨readL_short m t h2 hf hs o, rfl, .inl rfl⟩
      · rw [if_neg hs] at h
        exact absurd rfl h
  · rw [dif_neg h2]
    exact ⟨readL_one m t (by omega) o, rfl, .inl rfl⟩

theorem head_ok (t : ByteArray) (m : Nat) (o : List At) (h : (headE t).1 = 0) : 2 + (headE t).2.2.size ≤ t.size ∧ (headE t).2.2.size ≤ 253 ∧ readL (m + 1) t.data.toList o = readL m (t.extract (2 + (headE t).2.2.size) t.size).data.toList (o ++ [(headE t).2]) := by
  unfold headE at h ⊢
  by_cases h2 : 2 ≤ t.size
  · rw [dif_pos h2] at h ⊢
    by_cases hf : t[0].toNat < 1 ∨ t[1].toNat < 2
    · rw [if_pos hf] at h
      cases h
    · rw [if_neg hf] at h ⊢
      by_cases hs : t.size < t[1].toNat
      · rw [if_pos hs] at h
        cases h
      · rw [if_neg hs]
        have hb := t[1].toNat_lt
        have e : (t.extract 2 t[1].toNat).size = t[1].toNat - 2 := by rw [ByteArray.size_extract]; omega
        simp only [e]
        have e2 : 2 + (t[1].toNat - 2) = t[1].toNat := by omega
        rw [e2]
        exact ⟨by omega, by omega, readL_next m t h2 hf hs o⟩
  · rw [dif_neg h2] at h
    cases h

theorem pair_behind (w : World) (x : Int) (y : ByteArray) (t : TypeId) : ∀ j u, [Value.int .i64 x, .string y][j]? = some u → (w.alloc (Obj.cells #[.int .i64 x, .string y] t)).cell? (Addr.add ⟨w.heap.size, 0, none⟩ j) = some u := by
  intro j u hj
  rw [Addr.add_lit, Nat.zero_add, World.cell?_alloc_new]
  simpa using hj

theorem pair_behind2 (w : World) (o : Obj) (x : Int) (y : ByteArray) (t : TypeId) : ∀ j u, [Value.int .i64 x, .string y][j]? = some u → ((w.alloc o).alloc (Obj.cells #[.int .i64 x, .string y] t)).cell? (Addr.add ⟨w.heap.size + 1, 0, none⟩ j) = some u := by
  have e := pair_behind (w.alloc o) x y t
  rwa [World.size_alloc] at e

/-- A slice that lies in memory made since. -/
def New (base : Nat) (A : Option Addr) : Prop := ∀ b o, A = some ⟨b, o, none⟩ → base ≤ b

theorem new_none (base : Nat) : New base none := fun _ _ h => nomatch h

theorem own_new {w : World} {base n c : Nat} {e : TypeId} {B : Option Addr} {xs : List Value} (h : w.ownsRow base e 2 (.slice B n c) n xs) : New base B := fun b o e => (h.lt b (by subst e; rfl)).1

/-- What a call hands back that makes a slice anew, and an error. -/
def GivesF (l : List At) (c : Int) (w : World) (e : Ending) (w' : World) : Prop := ∃ A cap, e = .returned (.tuple #[.slice A l.length cap, .int .i64 c]) ∧ Ats w' A l ∧ New w.heap.size A ∧ Below w.heap.size w w'

set_option maxHeartbeats 4000000 in
theorem read_fresh (s : ByteArray) (hz : s.size ≤ 20000) (E : Int) (r : List At) (w : World) (hr : readL 64 s.data.toList [] = (E, r)) :
    Calls Try.prog 27 #[.string s] w (GivesF r E w) := by
  obtain ⟨i0, hi, hz0, hz1, hz2⟩ := info_parts info_at
  have HF := Lib.hid (fun (t : ByteArray) (h : t.size ≤ 9223372036854775807) w => front_any t h w)
  have HLN := Lib.hid length_one
  have HRD := Lib.hid hr
  clear hr
  go_enter Try.func27, Try.ntmps27
  go_wp2
  have BX := Lib.hid (Bx.box_below w (Obj.cells #[] 41))
  have HO := Lib.hid (World.ownsRow_made (e := 41) (size := 2) w #[] 0 (Nat.le_refl _) (Nat.zero_le _) (by simp))
  go_loopw [0, 4, 5, 6] (fun s0 v _ _ wr => ∃ (t : ByteArray) (B : Option Addr) (c : Nat) (o : List At), o.length ≤ 64 ∧ s0 = .string t ∧ t.size ≤ s.size ∧ v = .slice B o.length c ∧ Aside (readL (64 - o.length) t.data.toList o = (E, r)) ∧
    Aside (wr.ownsRow w.heap.size 41 2 (.slice B o.length c) o.length (o.flatMap enc)) ∧ Aside (Below w.heap.size w wr)) (fun s0 _ _ _ _ => strSz s0)
  case atStart => exact ⟨s, some ⟨w.heap.size, 0, none⟩, 0, [], Nat.zero_le _, rfl, Nat.le_refl _, rfl, HRD.out, HO.out, BX.out⟩
  case round =>
    obtain ⟨t, B, c, o, hk, rfl, hts, rfl, HR, HW, HB⟩ := hrel
    by_cases h0 : t.size = 0
    · have e1 := size_zero h0
      subst e1
      have HR2 := HR.out
      rw [show (⟨#[]⟩ : ByteArray).data.toList = [] from rfl, readL_done] at HR2
      injection HR2 with hE hr
      subst hE hr
      obtain ⟨_, _, e1, h3⟩ := Ats.of_own HW.out
      injection e1 with e1 _ e4
      subst e1 e4
      have HG := Lib.hid (show GivesF o 0 w (.returned (.tuple #[.slice B o.length c, .int .i64 0])) wr from ⟨_, _, rfl, h3, own_new HW.out, HB.out⟩)
      clear h3
      go_wp2
      go_ret2
      exact HG.out
    · have hne := full_list h0
      by_cases hk2 : o.length = 64
      · have HR2 := HR.out
        rw [show 64 - o.length = 0 by omega, readL_many t h0] at HR2
        injection HR2 with hE hr
        subst hE hr
        have HG := Lib.hid (show GivesF [] 4 w (.returned (.tuple #[.slice none 0 0, .int .i64 4])) wr from ⟨_, _, rfl, Ats.nil _ _, new_none _, HB.out⟩)
        rw [hk2]
        go_wp2
        go_ret2
        exact HG.out
      · have ho' : ((o.length : Int) = 64) = False := by simp; omega
        have hF := Lib.hid (fun w => HF.out t (by omega) w)
        obtain ⟨m, hm⟩ : ∃ m, 64 - o.length = m + 1 := ⟨64 - o.length - 1, by omega⟩
        have HR2 := HR.out
        rw [hm] at HR2
        by_cases hh : (headE t).1 = 0
        · obtain ⟨g1, g2, g3⟩ := head_ok t m o hh
          rw [g3] at HR2
          rw [hh] at hF
          clear g3 hh
          have HR3 := Lib.hid HR2
          clear HR2 HR
          generalize (headE t).2 = x at *
          obtain ⟨x1, x2⟩ := x
          simp only at g1 g2 hF HR3
          have hsz := HB.out.size
          go_wp2_with fail
          refine (hF.out _).mono ?_; rintro e w1 ⟨rfl, hb1⟩
          have HX1 := Lib.hid (Boxed.new w1 (x1, x2))
          have HB1 := Lib.hid (Bx.bel_box (Bx.then_below HB.out hb1) (Obj.cells #[.int .i64 x1, .string x2] 41))
          have HW1 := Lib.hid ((HW.out.kept (row := none) ⟨hb1.os, hb1.tape, hb1.output, hb1.size, fun k hk _ => hb1.block k hk⟩ (by cases Value.ownBlock (.slice B o.length c) <;> simp)).alloc (Obj.cells #[.int .i64 x1, .string x2] 41))
          have hs1 := hb1.size
          have hlt1 := fun q hq => (HW.out.lt q hq).2
          clear HW HB hb1
          go_wp2_with (at_builtin; refine wpList_append_own _ rfl _ _ 22 rfl w.heap.size 41 i0 (.agg #[.int .i64 0, .string ⟨#[]⟩]) 2 24 Try.underlying22 hi hz0 hz1 hz2 rfl (by decide) _ _ _ rfl (HW1.out.alloc _) ⟨_, 0, none⟩ 1 1 [.int .i64 x1, .string x2] rfl rfl ?c1 ?c2 ?c3 ?c4 ?c5 ?_)
          case c1 => exact pair_behind2 _ _ _ _ _
          case c2 => intro u hu; simp at hu; rcases hu with rfl | rfl <;> rfl
          case c3 => unfold maxLen; omega
          case c4 => omega
          case c5 => simp; omega
          intro v' w5 hown' hgrow _
          have hrow := HW1.out.lt
          have HX5 : Hid (Boxed w5 w1.heap.size (x1, x2)) := Lib.hid ((hgrow.block _ (by simp; omega) (fun e => by have := hlt1 _ e.symm; omega)).trans (HX1.out.below (Bx.box_below _ _)))
          have bel := (Bx.bel_box HB1.out (Obj.cells #[.int .i64 x1, .string x2] 41)).grown hgrow (by have := HB1.out.size; simp at this ⊢; omega) (fun q hq => (hrow q hq).1)
          obtain ⟨B', c', rfl, hW'⟩ := at_next (x := (x1, x2)) hown'
          have HW2 := Lib.hid hW'
          have HBL := Lib.hid bel
          have d0 := HX5.out.c0
          have d1 := HX5.out.c1
          simp only at d0 d1
          clear hown' hgrow hrow hW' bel HX1 HB1 HW1 HX5 hlt1 hF
          go_wp2_with fail
          refine (HLN.out (x1, x2) g2 _).mono ?_; rintro e w6 ⟨rfl, hb6⟩
          have HB6 := Lib.hid (Bx.then_below HBL.out hb6)
          have HW6 := Lib.hid (HW2.out.kept (row := none) ⟨hb6.os, hb6.tape, hb6.output, hb6.size, fun k hk _ => hb6.block k hk⟩ (by cases Value.ownBlock (.slice B' (o ++ [(x1, x2)]).length c') <;> simp))
          have hes : (t.extract (2 + x2.size) t.size).size = t.size - (2 + x2.size) := by rw [ByteArray.size_extract]; omega
          have HR4 : Hid (readL (64 - (o ++ [(x1, x2)]).length) (t.extract (2 + x2.size) t.size).data.toList (o ++ [(x1, x2)]) = (E, r)) := Lib.hid (by rw [show 64 - (o ++ [(x1, x2)]).length = m by rw [List.length_append]; simp; omega]; exact HR3.out)
          have ho2 : (o ++ [(x1, x2)]).length ≤ 64 := by rw [List.length_append]; simp; omega
          clear hb6 HW2 HBL HLN HR3 d0 d1
          go_wp2
          go_roundw
          case rel => exact ⟨t.extract (2 + x2.size) t.size, B', c', o ++ [(x1, x2)], ho2, rfl, by omega, by simp, HR4.out, HW6.out, HB6.out⟩
          case measure => show (t.extract (2 + x2.size) t.size).size < t.size; omega
        · obtain ⟨g1, g2, g3⟩ := head_bad t m o h0 hh
          rw [g1] at HR2
          injection HR2 with hE hr
          subst hr
          rw [g2] at hF
          rw [hE] at hF g3 hh
          have HG := fun w1 hb => Lib.hid (show GivesF [] E w (.returned (.tuple #[.slice none 0 0, .int .i64 E])) w1 from ⟨_, _, rfl, Ats.nil _ _, new_none _, hb⟩)
          have hE0 : (E == 0) = false := by simp [hh]
          clear g1 g2 hE
          go_wp2_with fail
          refine (hF.out _).mono ?_; rintro e w1 ⟨rfl, hb1⟩
          have HG1 := HG _ (Bx.bel_box (Bx.then_below HB.out hb1) (Obj.cells #[.int .i64 0, .string ⟨#[]⟩] 41))
          go_wp2_with fail
          go_ret2
          exact HG1.out

theorem read_any (s : ByteArray) (hz : s.size ≤ 20000) (E : Int) (r : List At) (w : World) (hr : readL 64 s.data.toList [] = (E, r)) :
    Calls Try.prog 27 #[.string s] w (GivesE r E w) :=
  (read_fresh s hz E r w hr).mono fun _ _ ⟨A, c, h1, h2, _, h3⟩ => ⟨A, c, h1, h2, h3⟩

end Att
end Go.Proofs.Ytmacgbknmpmdiaa
