/-
  slices.Clone at vectors; prefer.Sorted: all of it, in order.
-/
import Derived.Test.YtkggphonoihidaaDoorPreStb
import Derived.Test.YtkggphonoihidaaDoorPreC
import Derived.Maps.AppendAt
namespace Go.Proofs.YtkggphonoihidaaDoor
open Go.RowKit
namespace Pre
open Oct

theorem info_vc : (Tryd.prog.info? 30).map (fun i => (i.zero, i.size, i.bytes)) = some (some (.agg #[.int .u64 0, .int .u64 0, .int .u64 0, .int .i64 0]), 4, 32) := by kernel_rfl

theorem info_parts {e : TypeId} {z : Value} {s b : Nat} (h : (Tryd.prog.info? e).map (fun i => (i.zero, i.size, i.bytes)) = some (some z, s, b)) : ∃ i, Tryd.prog.info? e = some i ∧ i.zero = some z ∧ i.size = s ∧ i.bytes = b := by
  cases hi : Tryd.prog.info? e with
  | none => rw [hi] at h; cases h
  | some i =>
    rw [hi] at h
    simp at h
    exact ⟨i, rfl, h.1, h.2.1, h.2.2⟩

theorem flat_at : ∀ (l : List Vc) (j : Nat) (u : Value), (l.flatMap enc)[j]? = some u → ∃ x, l[j / 4]? = some x ∧ (enc x)[j % 4]? = some u
  | [], j, u, h => by simp at h
  | a :: l, j, u, h => by
    rw [List.flatMap_cons] at h
    by_cases hj : j < 4
    · rw [List.getElem?_append_left (by exact hj)] at h
      exact ⟨a, by rw [show j / 4 = 0 by omega]; rfl, by rw [show j % 4 = j by omega]; exact h⟩
    · rw [List.getElem?_append_right (by show (enc a).length ≤ j; exact Nat.not_lt.1 hj)] at h
      obtain ⟨x, h1, h2⟩ := flat_at l (j - 4) u h
      exact ⟨x, by rw [show j / 4 = (j - 4) / 4 + 1 by omega]; exact h1, by rw [show j % 4 = (j - 4) % 4 by omega]; exact h2⟩

theorem enc_cells {w : World} {ad : Addr} {l : List Vc} (h : Vs w (some ad) l) : ∀ j u, (l.flatMap enc)[j]? = some u → w.cell? (ad.add j) = some u := fun j u hj => by
  obtain ⟨x, h1, h2⟩ := flat_at l j u hj
  obtain ⟨b, o, e, _, c0, c1, c2, c3⟩ := h _ _ h1
  injection e with e
  subst e
  rw [Addr.add_lit]
  have hr := Nat.div_add_mod j 4
  have hm := Nat.mod_lt j (show 4 > 0 by decide)
  generalize j / 4 = q at *
  generalize j % 4 = r at *
  match r, h2 with
  | 0, h2 => cases h2; rw [show o + j = o + q * 4 by omega]; exact c0
  | 1, h2 => cases h2; rw [show o + j = o + q * 4 + 1 by omega]; exact c1
  | 2, h2 => cases h2; rw [show o + j = o + q * 4 + 2 by omega]; exact c2
  | 3, h2 => cases h2; rw [show o + j = o + q * 4 + 3 by omega]; exact c3

/-- A slice handed back, a row of the call's own; nothing else has changed. -/
def Owns (l : List Vc) (w : World) (e : Ending) (w' : World) : Prop := ∃ A cap, e = .returned (.slice A l.length cap) ∧ w'.ownsRow w.heap.size 30 4 (.slice A l.length cap) l.length (l.flatMap enc) ∧ Below w.heap.size w w'

theorem at_form {w : World} {base : Nat} {e : TypeId} {v : Value} {n : Nat} {xs : List Value} (h : w.ownsRow base e 4 v n xs) : ∃ B c, v = .slice B n c := by
  rcases h.2 with ⟨rfl, rfl⟩ | ⟨g, cap, cur, rfl, _⟩
  · exact ⟨_, _, rfl⟩
  · exact ⟨_, _, rfl⟩

theorem row_of_own {w : World} {base c g : Nat} {e : TypeId} {l : List Vc} (h : w.ownsRow base e 4 (.slice (some ⟨g, 0, none⟩) l.length c) l.length (l.flatMap enc)) : Row w g l ∧ base ≤ g := by
  have hc := h.cells (g := g) rfl
  rcases h.2 with ⟨h1, _⟩ | ⟨g', cap, cur, h1, hb, hg, _⟩
  · cases h1
  · injection h1 with h1
    injection h1 with h1
    injection h1 with h1
    subst h1
    refine ⟨⟨fun j v hj => ?_, (Array.getElem?_eq_some_iff.1 hg).1, fun j => frozen_of_row w g j _ _ hg⟩, hb⟩
    have := hc j v hj
    rwa [Addr.add_lit, Nat.zero_add] at this

theorem own_none {w : World} {base c n : Nat} {e : TypeId} {xs : List Value} (h : w.ownsRow base e 4 (.slice none n c) n xs) : n = 0 ∧ c = 0 := by
  rcases h.2 with ⟨h1, h0⟩ | ⟨g, cap, cur, h1, _⟩
  · injection h1 with _ h2 h3
    exact ⟨h0, h3⟩
  · injection h1 with h1
    cases h1

theorem own_addr {w : World} {base c n : Nat} {e : TypeId} {A : Addr} {xs : List Value} (h : w.ownsRow base e 4 (.slice (some A) n c) n xs) : ∃ g, A = ⟨g, 0, none⟩ := by
  rcases h.2 with ⟨h1, _⟩ | ⟨g, cap, cur, h1, _⟩
  · cases h1
  · injection h1 with h1
    injection h1 with h1
    exact ⟨g, h1⟩

set_option maxRecDepth 40000 in
set_option maxHeartbeats 1000000 in
theorem clone_any (l : List Vc) (hl : l.length ≤ 1000) (A : Option Addr) (c : Nat) (w : World) (hA : Vs w A l) :
    Calls Tryd.prog 17 #[.slice A l.length c] w (Owns l w) := by
  obtain ⟨i0, hi, hz0, hz1, hz2⟩ := info_parts info_vc
  have q22 : ∀ (w : World) (a : Option Addr) (n c n' c' : Nat), (binOp .eql 22 (.slice a n c) (.slice none n' c')).run Tryd.prog w = .ok (.bool a.isNone) w := fun w a n c n' c' => Lib.run_eql_slice_nil w _ _ a n c n' c' Tryd.underlying22
  cases A with
  | none =>
    have hl0 : l = [] := by
      cases l with
      | nil => rfl
      | cons x l => obtain ⟨b, o, e, _⟩ := hA 0 x rfl; cases e
    subst hl0
    go_enter Tryd.func17, Tryd.ntmps17
    go_wp2
    go_ret
    exact ⟨none, 0, rfl, World.ownsRow_nil _ _ _ _, Below.refl _ _⟩
  | some a =>
    have HA := Lib.hid (enc_cells (hA.below (Bx.box_below w (Obj.cells #[] 30))))
    have HO := Lib.hid (World.ownsRow_made (e := 30) (size := 4) w #[] 0 (Nat.le_refl _) (Nat.zero_le _) (by simp))
    have h1 := enc_one l
    have hL := enc_length l
    have HF := Lib.hid (fun (v : Value) (w' : World) (h : w'.ownsRow w.heap.size 30 4 v l.length (l.flatMap enc)) (h2 : Below w.heap.size w w') => show Owns l w (.returned v) w' by
      obtain ⟨B, c', rfl⟩ := at_form h
      exact ⟨B, c', rfl, h, h2⟩)
    generalize Owns l w = R at *
    generalize l.flatMap enc = news at *
    generalize l.length = n at *
    clear hA
    go_enter Tryd.func17, Tryd.ntmps17
    go_wp2_with (at_builtin; refine wpList_append_own _ rfl _ _ 22 rfl w.heap.size 30 i0 (.agg #[.int .u64 0, .int .u64 0, .int .u64 0, .int .i64 0]) 4 32 Tryd.underlying22 hi hz0 hz1 hz2 rfl (by decide) _ _ _ rfl HO.out a n c news rfl ?c1 ?c2 ?c3 ?c4 ?c5 ?c6 ?_)
    case c1 => exact hL
    case c2 => exact HA.out
    case c3 => exact h1
    case c4 => unfold maxLen; omega
    case c5 => omega
    case c6 => simp
    intro v' w1 hown hgrow _
    have hb := ((Bx.box_below w (Obj.cells #[] 30))).grown hgrow (by simp) (by intro k hk; simp [Value.ownBlock] at hk; omega)
    have HG := Lib.hid (HF.out v' w1 (by simpa using hown) hb)
    clear hown hgrow hb
    go_wp2
    change R (.returned v') w1
    exact HG.out

/-- All of it, in order, in a slice that is the call's own. -/
def SortedG (l : List Vc) (w : World) (e : Ending) (w' : World) : Prop := ∃ B c l', e = .returned (.slice B l'.length c) ∧ Vs w' B l' ∧ l'.Perm l ∧ Srt.Inc ltV 0 l'.length l' ∧ Below w.heap.size w w'

set_option maxRecDepth 20000 in
set_option maxHeartbeats 4000000 in
theorem ins_nil (w : World) : Calls Tryd.prog 33 #[.slice none 0 0, .int .i64 0, .int .i64 0, cmpF] w fun e w' => e = .returned (.tuple #[]) ∧ w = w' := by
  go_enter Tryd.func33, Tryd.ntmps33
  go_wp2
  refine wp_loop_rounds 3 ?_
  rw [rounds_succ]
  go_wp2
  refine bodyPost_end (v := .tuple #[]) ?_ rfl ⟨rfl, rfl⟩
  simp [results, Tryd.results33, go_sem]

set_option maxRecDepth 20000 in
set_option maxHeartbeats 4000000 in
theorem stb_nil (w : World) : Calls Tryd.prog 26 #[.slice none 0 0, .int .i64 0, cmpF] w fun e w' => e = .returned (.tuple #[]) ∧ w = w' := by
  have HC := Lib.hid ins_nil
  go_enter Tryd.func26, Tryd.ntmps26
  go_wp2_with fail
  refine wp_loop_rounds 3 ?_
  rw [rounds_succ]
  go_wp2_with fail
  refine (HC.out _).mono ?_; rintro e w' ⟨rfl, rfl⟩
  go_wp2_with fail
  refine wp_loop_rounds 3 ?_
  rw [rounds_succ]
  go_wp2
  refine bodyPost_end (v := .tuple #[]) ?_ rfl ⟨rfl, rfl⟩
  simp [results, Tryd.results26, go_sem]

set_option maxRecDepth 20000 in
set_option maxHeartbeats 4000000 in
theorem sort_nil (w : World) : Calls Tryd.prog 18 #[.slice none 0 0, cmpF] w fun e w' => e = .returned (.tuple #[]) ∧ w = w' := by
  have HC := Lib.hid stb_nil
  go_enter Tryd.func18, Tryd.ntmps18
  go_wp2_with fail
  refine (HC.out _).mono ?_; rintro e w' ⟨rfl, rfl⟩
  go_wp2
  refine bodyPost_end (v := .tuple #[]) ?_ rfl ⟨rfl, rfl⟩
  simp [results, Tryd.results18, go_sem]

set_option maxRecDepth 20000 in
set_option maxHeartbeats 4000000 in
theorem sorted_any (l : List Vc) (hl : l.length ≤ 60) (A : Option Addr) (c : Nat) (w : World) (hA : Vs w A l) :
    Calls Tryd.prog 5 #[.slice A l.length c] w (SortedG l w) := by
  have HC := Lib.hid (clone_any l (by omega) A c w hA)
  have HL := Lib.hid hl
  have HN := Lib.hid sort_nil
  clear hA hl
  go_enter Tryd.func5, Tryd.ntmps5
  go_wp2_with fail
  refine HC.out.mono ?_; rintro e w1 ⟨B, k, rfl, hown, hb⟩
  cases B with
  | none =>
    obtain ⟨h0, h1⟩ := own_none hown
    subst h1
    have HE := Lib.hid (List.eq_nil_of_length_eq_zero h0)
    rw [h0]
    have B1 := Lib.hid hb
    clear hown hb h0
    go_wp2_with fail
    refine (HN.out _).mono ?_; rintro e w2 ⟨rfl, rfl⟩
    go_wp2
    go_ret
    exact ⟨none, 0, [], rfl, Vs.nil _ _, by rw [HE.out], Srt.Inc.one _ _ (by simp) _, B1.out⟩
  | some ad =>
    obtain ⟨g, rfl⟩ := own_addr hown
    obtain ⟨hr, hg⟩ := row_of_own hown
    have HS := Lib.hid (sortStable_any l HL.out g k w1 hr)
    have B1 := Lib.hid hb
    have HG := Lib.hid hg
    clear hown hb hr hg
    go_wp2_with fail
    refine HS.out.mono ?_; rintro e w2 ⟨rfl, l2, hm, hs, hr, hb⟩
    have HF : Hid (SortedG l w (.returned (.slice (some ⟨g, 0, none⟩) l.length k)) w2) := Lib.hid ⟨some ⟨g, 0, none⟩, k, l2, by rw [hm.len], hr.vs, hm.perm, by rw [hm.len]; exact hs, B1.out.trans (hb.mono HG.out)⟩
    clear hm hs hr hb
    go_wp2
    go_ret
    exact HF.out

end Pre
end Go.Proofs.YtkggphonoihidaaDoor
