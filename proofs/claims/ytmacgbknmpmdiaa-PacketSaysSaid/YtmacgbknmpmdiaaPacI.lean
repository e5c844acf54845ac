/-
  The check of single answers that the statements of layer 10 end with (tipstafflaw10.awake) comes out true, and changes nothing that was there.
-/
import Derived.Test.YtmacgbknmpmdiaaPacC
import Derived.Test.YtmacgbknmpmdiaaPacF
namespace Go.Proofs.Ytmacgbknmpmdiaa
open Go.RowKit
namespace Pac
open Oct Att Bx

def Lb : List At := [(1, ⟨#[98, 111, 98]⟩)]
def Lq : List At := [(1, ⟨#[101, 118, 101]⟩), (24, ⟨#[120]⟩)]
def Lo : List At := [(1, ⟨#[101, 118, 101]⟩)]
abbrev AU : ByteArray := ⟨#[48, 49, 50, 51, 52, 53, 54, 55, 56, 57, 97, 98, 99, 100, 101, 102]⟩

theorem lb_right : rightP 1 7 AU Lb = true := by decide +kernel
theorem lq_right : rightP 1 7 AU Lq = true := by decide +kernel
theorem lb_put : putA Lb 24 ⟨#[120]⟩ = [(1, ⟨#[98, 111, 98]⟩), (24, ⟨#[120]⟩)] := by decide +kernel
theorem lb_put2 : putA [(1, ⟨#[98, 111, 98]⟩), (24, ⟨#[120]⟩)] 1 ⟨#[101, 118, 101]⟩ = Lq := by decide +kernel
theorem lq_out : outA Lq 24 = Lo := by decide +kernel
theorem lb_size : (wireP 1 7 AU Lb).size = 25 := by decide +kernel
theorem lb_head : ((wireP 1 7 AU Lb).extract 0 4).toList == [1, 7, 0, 25] := by decide +kernel
theorem no_right : rightP 1 0 ⟨#[]⟩ [] = false := by decide +kernel
theorem short_read : readP ⟨#[115, 104, 111, 114, 116]⟩ = noR 2 := rfl
theorem not_same : sameP 1 7 AU Lb 1 7 AU Lq = false := decide_eq_false (by decide +kernel)
theorem is_same : sameP 1 7 AU Lb 1 7 AU Lb = true := decide_eq_true (by simp)

theorem aw_some (w : World) : Calls Try.prog 21 #[] w fun e w' => ∃ E, e = .returned (pv 1 7 AU E 1 1) ∧ Ats w' E Lb ∧ Below w.heap.size w w' := by
  go_enter Try.func21, Try.ntmps21
  go_wp2_with fail
  refine bodyPost_ret (v := pv 1 7 AU (some ⟨w.heap.size + 1, 0, none⟩) 1 1) ?_ rfl ⟨_, rfl, ?_, ?_⟩
  · simp [results, Try.results21, go_sem]
  · have e := Go.heap_alloc_new (w.alloc (po 1 7 AU (some ⟨w.heap.size + 1, 0, none⟩) 1 1)) (Obj.cells #[.int .i64 1, .string ⟨#[98, 111, 98]⟩] 41)
    rw [World.size_alloc] at e
    exact row_ats (Y := [.int .i64 1, .string ⟨#[98, 111, 98]⟩]) e rfl
  · exact bel_box (box_below _ _) _

theorem aw_bytes (E : Option Addr) (w : World) (h : Ats w E Lb) : Calls Try.prog 8 #[pv 1 7 AU E 1 1] w fun e w' => e = .returned (.tuple #[.string (wireP 1 7 AU Lb), .int .i64 0]) ∧ Below w.heap.size w w' := by
  have e := bytes_any 1 7 AU (by decide) Lb (by decide) E 1 w h
  rw [(is_right lb_right).1, (is_right lb_right).2] at e
  exact e

theorem aw_read (w : World) : Calls Try.prog 10 #[.string (wireP 1 7 AU Lb ++ ⟨#[122, 122]⟩)] w fun e w' => ∃ C k, e = .returned (.tuple #[pv 1 7 AU C 1 k, .int .i64 0]) ∧ Ats w' C Lb ∧ Below w.heap.size w w' := by
  have e := read_any (wireP 1 7 AU Lb ++ ⟨#[122, 122]⟩) (by rw [ByteArray.size_append, lb_size]; decide) w
  rw [read_wire lb_right] at e
  exact e

theorem aw_short (w : World) : Calls Try.prog 10 #[.string ⟨#[115, 104, 111, 114, 116]⟩] w fun e w' => ∃ C k, e = .returned (.tuple #[pv 0 0 ⟨#[]⟩ C 0 k, .int .i64 2]) ∧ Below w.heap.size w w' := by
  have e := read_any ⟨#[115, 104, 111, 114, 116]⟩ (by decide) w
  rw [short_read] at e
  exact e.mono fun _ _ ⟨C, k, h1, _, h2⟩ => ⟨C, k, h1, h2⟩

theorem aw_none (w : World) : Calls Try.prog 8 #[pv 1 0 ⟨#[]⟩ none 0 0] w fun e w' => e = .returned (.tuple #[.string ⟨#[]⟩, .int .i64 1]) ∧ Below w.heap.size w w' := by
  have e := bytes_any 1 0 ⟨#[]⟩ (by decide) [] (by decide) none 0 w (Ats.nil _ _)
  rw [(not_right no_right).1, (not_right no_right).2] at e
  exact e

theorem aw_put (E : Option Addr) (w : World) (h : Ats w E Lb) : Calls Try.prog 16 #[pv 1 7 AU E 1 1, .int .i64 24, .string ⟨#[120]⟩] w fun e w' => ∃ F k, e = .returned (pv 1 7 AU F 2 k) ∧ Ats w' F [(1, ⟨#[98, 111, 98]⟩), (24, ⟨#[120]⟩)] ∧ Below w.heap.size w w' := by
  have e := put_any 1 7 AU Lb (by decide) E 1 24 ⟨#[120]⟩ w h
  rw [lb_put] at e
  exact e.mono fun _ _ ⟨F, k, h1, _, _, h2, h3⟩ => ⟨F, k, h1, h2, h3⟩

theorem aw_put2 (F : Option Addr) (k : Nat) (w : World) (h : Ats w F [(1, ⟨#[98, 111, 98]⟩), (24, ⟨#[120]⟩)]) : Calls Try.prog 16 #[pv 1 7 AU F 2 k, .int .i64 1, .string ⟨#[101, 118, 101]⟩] w fun e w' => ∃ b o k, e = .returned (pv 1 7 AU (some ⟨b, o, none⟩) 2 k) ∧ 2 ≤ k ∧ w'.cell? ⟨b, o + 1, none⟩ = some (.string ⟨#[101, 118, 101]⟩) ∧ Ats w' (some ⟨b, o, none⟩) Lq ∧ Below w.heap.size w w' := by
  have e := put_any 1 7 AU [(1, ⟨#[98, 111, 98]⟩), (24, ⟨#[120]⟩)] (by decide) F k 1 ⟨#[101, 118, 101]⟩ w h
  rw [lb_put2] at e
  refine e.mono fun _ _ ⟨G, k, h1, h4, _, h2, h3⟩ => ?_
  obtain ⟨b, o, rfl, _, _, c1⟩ := h2 0 (1, ⟨#[101, 118, 101]⟩) rfl
  exact ⟨b, o, k, h1, h4, by simpa using c1, h2, h3⟩

theorem aw_out (b o k : Nat) (w : World) (hk : 2 ≤ k) (h : Ats w (some ⟨b, o, none⟩) Lq) : Calls Try.prog 18 #[pv 1 7 AU (some ⟨b, o, none⟩) 2 k, .int .i64 24] w fun e w' => (∃ F k, e = .returned (pv 1 7 AU F 1 k)) ∧ Below w.heap.size w w' := by
  have e := without_any 1 7 AU Lq (by decide) (some ⟨b, o, none⟩) k hk (fun h => by cases h) 24 w h
  rw [lq_out] at e
  exact e.mono fun _ _ ⟨F, k, h1, _, h2⟩ => ⟨⟨F, k, h1⟩, h2⟩

theorem aw_right (b o k : Nat) (w : World) (h : Ats w (some ⟨b, o, none⟩) Lq) : Calls Try.prog 12 #[pv 1 7 AU (some ⟨b, o, none⟩) 2 k] w fun e w' => e = .returned (.bool true) ∧ Below w.heap.size w w' := by
  have e := right_any 1 7 AU (by decide) Lq (by decide) (some ⟨b, o, none⟩) k w h
  rw [lq_right] at e
  exact e

theorem aw_same (C E : Option Addr) (k k' : Nat) (w : World) (h : Ats w C Lb) (h2 : Ats w E Lb) : Calls Try.prog 15 #[pv 1 7 AU C 1 k, pv 1 7 AU E 1 k'] w fun e w' => e = .returned (.bool true) ∧ Below w.heap.size w w' := by
  have e := same_any 1 7 AU Lb 1 7 AU Lb (by decide) (by decide) C E k k' w h h2
  rw [is_same] at e
  exact e

theorem aw_unlike (C E : Option Addr) (k k' : Nat) (w : World) (h : Ats w C Lb) (h2 : Ats w E Lq) : Calls Try.prog 15 #[pv 1 7 AU C 1 k, pv 1 7 AU E 2 k'] w fun e w' => e = .returned (.bool false) ∧ Below w.heap.size w w' := by
  have e := same_any 1 7 AU Lb 1 7 AU Lq (by decide) (by decide) C E k k' w h h2
  rw [not_same] at e
  exact e

/-- What stands while the answers are gone through. -/
def Aw (W : World) (m p b o k q : Nat) (C : Option Addr) : Prop := Blk W m (pl 1 7 AU C 1 k) ∧ Blk W p (pl 1 7 AU (some ⟨b, o, none⟩) 2 q) ∧ W.cell? ⟨b, o + 1, none⟩ = some (.string ⟨#[101, 118, 101]⟩) ∧ Ats W C Lb ∧ Ats W (some ⟨b, o, none⟩) Lq

theorem Aw.keep {W W' : World} {m p b o k q : Nat} {C : Option Addr} (h : Hid (Aw W m p b o k q C)) (hb : Below W.heap.size W W') : Hid (Aw W' m p b o k q C) :=
  Lib.hid ⟨h.out.1.keep hb, h.out.2.1.keep hb, keep_cell hb h.out.2.2.1, h.out.2.2.2.1.below hb, h.out.2.2.2.2.below hb⟩

theorem Aw.drew {W : World} {m p b o k q : Nat} {C : Option Addr} (h : Hid (Aw W m p b o k q C)) : Hid (Aw W.drew m p b o k q C) := Aw.keep h ((Below.refl _ W).drew)

theorem Aw.c {W : World} {m p b o k q : Nat} {C : Option Addr} (h : Hid (Aw W m p b o k q C)) : Ats W C Lb := h.out.2.2.2.1
theorem Aw.d {W : World} {m p b o k q : Nat} {C : Option Addr} (h : Hid (Aw W m p b o k q C)) : Ats W (some ⟨b, o, none⟩) Lq := h.out.2.2.2.2

theorem Aw.full {W : World} {m p b o k q : Nat} {C : Option Addr} (h : Hid (Aw W m p b o k q C)) :
    W.cell? ⟨m, 0, none⟩ = some (.int .i64 1) ∧ W.cell? ⟨m, 1, none⟩ = some (.int .i64 7) ∧ W.cell? ⟨m, 2, none⟩ = some (.string AU) ∧ W.cell? ⟨m, 3, none⟩ = some (.slice C 1 k) ∧
    W.cell? ⟨p, 0, none⟩ = some (.int .i64 1) ∧ W.cell? ⟨p, 1, none⟩ = some (.int .i64 7) ∧ W.cell? ⟨p, 2, none⟩ = some (.string AU) ∧ W.cell? ⟨p, 3, none⟩ = some (.slice (some ⟨b, o, none⟩) 2 q) ∧
    W.cell? ⟨b, o + 1, none⟩ = some (.string ⟨#[101, 118, 101]⟩) ∧ Hid (Aw W m p b o k q C) := by
  obtain ⟨a0, a1, a2, a3⟩ := h.out.1.all4
  obtain ⟨b0, b1, b2, b3⟩ := h.out.2.1.all4
  exact ⟨a0, a1, a2, a3, b0, b1, b2, b3, h.out.2.2.1, h⟩

set_option maxHeartbeats 8000000 in
theorem awake_any (w : World) : Calls Try.prog 7 #[] w fun e w' => e = .returned (.bool true) ∧ Below w.heap.size w w' := by
  have HBy := Lib.hid aw_bytes
  have HRd := Lib.hid aw_read
  obtain ⟨S, hS⟩ : ∃ S, wireP 1 7 AU Lb = S := ⟨_, rfl⟩
  have zS : S.size = 25 := by rw [← hS]; exact lb_size
  have eS : ((S.extract 0 4).toList == [1, 7, 0, 25]) = true := by rw [← hS]; exact lb_head
  rw [hS] at HBy HRd
  clear hS
  have hfd : ∀ (F : Option Addr) (k : Nat) (w : World), (Instr.field 24 (pv 1 7 AU F 1 k) 3).run Try.prog w = .ok (.slice F 1 k) w := fun _ _ _ => by kernel_rfl
  go_enter Try.func7, Try.ntmps7
  go_wp2_with fail
  refine (aw_some _).mono ?_; rintro e w1 ⟨E, rfl, h1, hb1⟩
  have A1 := Lib.hid h1
  have B1 := Lib.hid hb1
  clear h1 hb1
  go_wp2_with fail
  refine (HBy.out _ _ A1.out).mono ?_; rintro e w2 ⟨rfl, hb2⟩
  have B2 := Lib.hid (then_below B1.out hb2)
  clear hb2 A1 B1
  go_wp2_with fail
  refine (HRd.out _).mono ?_; rintro e w3 ⟨C, k, rfl, h3, hb3⟩
  have C3 := Lib.hid (h3.below (box_below w3 (po 1 7 AU C 1 k)))
  have B3 := Lib.hid (bel_box (then_below B2.out hb3) (po 1 7 AU C 1 k))
  have K3 := Lib.hid (Blk.new w3 (pl 1 7 AU C 1 k) 24)
  clear h3 hb3 B2
  go_wp2_with fail
  refine (aw_short _).mono ?_; rintro e w4 ⟨D, kD, rfl, hb4⟩
  have C4 := Lib.hid ((C3.out.below hb4).below (box_below w4 (po 0 0 ⟨#[]⟩ D 0 kD)))
  have B4 := Lib.hid (bel_box (then_below B3.out hb4) (po 0 0 ⟨#[]⟩ D 0 kD))
  have K4 := Lib.hid ((K3.out.keep hb4).more (po 0 0 ⟨#[]⟩ D 0 kD))
  clear hb4 C3 B3 K3
  go_wp2_with fail
  refine (aw_none _).mono ?_; rintro e w5 ⟨rfl, hb5⟩
  have C5 := Lib.hid (C4.out.below hb5)
  have B5 := Lib.hid (then_below B4.out hb5)
  have K5 := Lib.hid (K4.out.keep hb5)
  clear hb5 C4 B4 K4
  go_wp2_with fail
  refine (aw_some _).mono ?_; rintro e w6 ⟨F, rfl, h6, hb6⟩
  have F6 := Lib.hid h6
  have C6 := Lib.hid (C5.out.below hb6)
  have B6 := Lib.hid (then_below B5.out hb6)
  have K6 := Lib.hid (K5.out.keep hb6)
  clear h6 hb6 C5 B5 K5
  go_wp2_with fail
  refine (aw_put _ _ F6.out).mono ?_; rintro e w7 ⟨G, kG, rfl, h7, hb7⟩
  have G7 := Lib.hid h7
  have C7 := Lib.hid (C6.out.below hb7)
  have B7 := Lib.hid (then_below B6.out hb7)
  have K7 := Lib.hid (K6.out.keep hb7)
  clear h7 hb7 C6 B6 K6 F6
  go_wp2_with fail
  refine (aw_put2 _ _ _ G7.out).mono ?_; rintro e w8 ⟨b, o, q, rfl, hq, h8, h9, hb8⟩
  have AW := Lib.hid (show Aw (w8.alloc (po 1 7 AU (some ⟨b, o, none⟩) 2 q)) w3.heap.size w8.heap.size b o k q C from
    ⟨(K7.out.keep hb8).more _, Blk.new w8 (pl 1 7 AU (some ⟨b, o, none⟩) 2 q) 24, keep_cell (box_below _ _) h8, (C7.out.below hb8).below (box_below _ _), h9.below (box_below _ _)⟩)
  have B8 := Lib.hid (bel_box (then_below B7.out hb8) (po 1 7 AU (some ⟨b, o, none⟩) 2 q))
  clear h8 h9 hb8 C7 B7 K7 G7
  go_wp2_with fail
  generalize w3.heap.size = m at *
  generalize w8.heap.size = p at *
  generalize w8.alloc (po 1 7 AU (some ⟨b, o, none⟩) 2 q) = W at *
  have zz := Aw.full (Aw.drew AW)
  go_region_held3 (fun W => W.cell? ⟨m, 0, none⟩ = some (.int .i64 1) ∧ W.cell? ⟨m, 1, none⟩ = some (.int .i64 7) ∧ W.cell? ⟨m, 2, none⟩ = some (.string AU) ∧ W.cell? ⟨m, 3, none⟩ = some (.slice C 1 k) ∧
    W.cell? ⟨p, 0, none⟩ = some (.int .i64 1) ∧ W.cell? ⟨p, 1, none⟩ = some (.int .i64 7) ∧ W.cell? ⟨p, 2, none⟩ = some (.string AU) ∧ W.cell? ⟨p, 3, none⟩ = some (.slice (some ⟨b, o, none⟩) 2 q) ∧
    W.cell? ⟨b, o + 1, none⟩ = some (.string ⟨#[101, 118, 101]⟩) ∧ Hid (Aw W m p b o k q C))
    (first | exact zz | (go_split_ands; exact Aw.full (Aw.keep (by assumption) (by assumption))) | go_keep)
    (first
      | (go_at_call 21; with_reducible refine (aw_some _).mono ?_; rintro e w9 ⟨E9, rfl, hE9, hb9⟩)
      | (go_at_call 15; go_split_ands; with_reducible refine (aw_same C _ k 1 _ (Aw.c (m := m) (p := p) (b := b) (o := o) (k := k) (q := q) (by assumption)) (by assumption)).mono ?_; rintro e w10 ⟨rfl, hb10⟩)
      | (go_at_call 18; go_split_ands; with_reducible refine (aw_out b o q _ hq (Aw.d (m := m) (p := p) (k := k) (q := q) (C := C) (by assumption))).mono ?_; rintro e w11 ⟨⟨F11, k11, rfl⟩, hb11⟩)
      | (go_at_call 12; go_split_ands; with_reducible refine (aw_right b o q _ (Aw.d (m := m) (p := p) (k := k) (q := q) (C := C) (by assumption))).mono ?_; rintro e w12 ⟨rfl, hb12⟩)
      | (go_at_call 15; go_split_ands; with_reducible refine (aw_unlike C _ k q _ (Aw.c (m := m) (p := p) (b := b) (o := o) (k := k) (q := q) (by assumption)) (Aw.d (m := m) (p := p) (k := k) (q := q) (C := C) (by assumption))).mono ?_; rintro e w13 ⟨rfl, hb13⟩))
  have BE := Lib.hid (then_below (then_below (then_below (then_below (bel_drew B8.out hb9) hb10) hb11) hb12) hb13)
  go_wp2
  go_ret
  exact ⟨rfl, BE.out⟩

end Pac
end Go.Proofs.Ytmacgbknmpmdiaa
