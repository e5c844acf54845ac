/-
  What the document's Put and Without make of any packet.
-/
import Derived.Test.YtaeeonohakkgbaaDoorPacF
import Derived.Test.YtaeeonohakkgbaaDoorAttK
namespace Go.Proofs.YtaeeonohakkgbaaDoor
open Go.RowKit
namespace Pac
open Oct Att Bx

/-- A packet handed back with other attributes, in a slice that is new. -/
def GivesF (c i : Int) (a : ByteArray) (l : List At) (w : World) (e : Ending) (w' : World) : Prop := ∃ A k, e = .returned (pv c i a A l.length k) ∧ (∀ b o', A = some ⟨b, o', none⟩ → w.heap.size ≤ b) ∧ Ats w' A l ∧ Below w.heap.size w w'

theorem GivesF.q {c i : Int} {a : ByteArray} {l : List At} {w : World} {e : Ending} {w' : World} (h : GivesF c i a l w e w') : GivesQ c i a l w e w' := by
  obtain ⟨A, k, h1, _, h2, h3⟩ := h
  exact ⟨A, k, h1, h2, h3⟩

/-- What is still to come of a packet's attributes. -/
def restA (dn : Bool) (l : List At) (k : Int) (v : ByteArray) : List At := if dn then l else putA l k v

set_option maxRecDepth 20000 in
set_option maxHeartbeats 4000000 in
theorem rput_fresh (c i : Int) (a : ByteArray) (l : List At) (hl : l.length ≤ 1000) (A : Option Addr) (kc : Nat) (kind : Int) (v : ByteArray) (w : World) (hA : Ats w A l) :
    Calls Tryd.prog 27 #[pv c i a A l.length kc, .int .i64 kind, .string v] w (GivesF c i a (putA l kind v) w) := by
  obtain ⟨i0, hi, hz0, hz1, hz2⟩ := info_parts info_at
  have ST := Lib.hid (Stand.new w c i a A l kc hA)
  have hW := Lib.hid (show ((w.alloc (po c i a A l.length kc)).alloc (po 0 0 ⟨#[]⟩ none 0 0)).heap.size = w.heap.size + 2 by simp)
  obtain ⟨c0, c1, c2, c3⟩ := ST.out.2.1.1.all4
  clear hA
  go_enter Tryd.func27, Tryd.ntmps27
  go_wp2
  generalize (w.alloc (po c i a A l.length kc)).alloc (po 0 0 ⟨#[]⟩ none 0 0) = W at *
  go_loopw [7, 8, 14] (fun s7 s8 ix wr => ∃ (k : Nat) (B : Option Addr) (cc : Nat) (o : List At) (dn : Bool), k ≤ l.length ∧ s7 = .slice B o.length cc ∧ s8 = .bool dn ∧ ix = .int .i64 k ∧ Aside (o.length = k) ∧ Aside (putA l kind v = o ++ restA dn (l.drop k) kind v) ∧
    Aside (wr.ownsRow W.heap.size 39 2 (.slice B o.length cc) o.length (o.flatMap enc)) ∧ Aside (Below W.heap.size W wr)) (fun _ _ ix _ => l.length - (intOf ix).toNat)
  case atStart => exact ⟨0, none, 0, [], false, Nat.zero_le _, rfl, rfl, rfl, rfl, rfl, World.ownsRow_nil _ _ _ _, Below.refl _ _⟩
  case round =>
    obtain ⟨k, B, cc, o, dn, hk, rfl, rfl, rfl, HO, HP, HW, HB⟩ := hrel
    clear c0 c1 c2 c3
    by_cases hlt : k < l.length
    · have HST := Lib.hid (ST.out.keep HB.out)
      obtain ⟨b, q, rfl, _, d0, d1⟩ := HST.out.here.at hlt
      have HD := Lib.hid (List.drop_eq_getElem_cons hlt)
      generalize l[k] = x at *
      obtain ⟨x1, x2⟩ := x
      simp only at d0 d1
      rcases (show (x1 = kind ∧ dn = false) ∨ (x1 = kind ∧ dn = true) ∨ x1 ≠ kind by cases dn <;> by_cases h : x1 = kind <;> simp [h]) with ⟨rfl, rfl⟩ | ⟨rfl, rfl⟩ | hx
      · have HN := Lib.hid (show putA l x1 v = (o ++ [(x1, v)]) ++ restA true (l.drop (k + 1)) x1 v by
          rw [HP.out, HD.out]
          show o ++ putA ((x1, x2) :: l.drop (k + 1)) x1 v = _
          rw [putA, if_pos rfl]
          simp [restA])
        clear HP HD HST
        have HW1 := Lib.hid (HW.out.alloc (Obj.cells #[.int .i64 x1, .string v] 39))
        have HB1 := Lib.hid (Bx.bel_box HB.out (Obj.cells #[.int .i64 x1, .string v] 39))
        go_wp2_with (at_builtin; refine wpList_append_own _ rfl _ _ 22 rfl W.heap.size 39 i0 (.agg #[.int .i64 0, .string ⟨#[]⟩]) 2 24 Tryd.underlying22 hi hz0 hz1 hz2 rfl (by decide) _ _ _ rfl (HW1.out.alloc _) ⟨_, 0, none⟩ 1 1 [.int .i64 x1, .string v] rfl rfl ?c1 ?c2 ?c3 ?c4 ?c5 ?_)
        case c1 => exact pair_behind2 _ _ _ _ _
        case c2 => intro z hz; simp at hz; rcases hz with rfl | rfl <;> rfl
        case c3 => have := HO.out; unfold maxLen; omega
        case c4 => have := HO.out; omega
        case c5 => have := HB.out.size; simp; omega
        intro v' w5 hown' hgrow _
        have hrow := HW.out.lt
        have bel := (Bx.bel_box HB1.out (Obj.cells #[.int .i64 x1, .string v] 39)).grown hgrow (by have := HB.out.size; simp; omega) (fun q hq => (hrow q hq).1)
        obtain ⟨B', c', rfl, hW'⟩ := at_next (x := (x1, v)) hown'
        have HW2 := Lib.hid hW'
        have HBL := Lib.hid bel
        have HO2 : Hid ((o ++ [(x1, v)]).length = k + 1) := Lib.hid (by rw [List.length_append, HO.out]; rfl)
        clear hown' hgrow hrow hW' bel
        go_wp2
        go_roundw
        case rel => exact ⟨k + 1, B', c', o ++ [(x1, v)], true, by omega, rfl, rfl, by go_num, HO2.out, HN.out, HW2.out, HBL.out⟩
        case measure => simp [intOf]; omega
      · have HN := Lib.hid (show putA l x1 v = (o ++ [(x1, x2)]) ++ restA true (l.drop (k + 1)) x1 v by
          rw [HP.out, HD.out]
          simp [restA])
        clear HP HD HST
        have HW1 := Lib.hid (HW.out.alloc (Obj.cells #[.int .i64 x1, .string x2] 39))
        have HB1 := Lib.hid (Bx.bel_box HB.out (Obj.cells #[.int .i64 x1, .string x2] 39))
        go_wp2_with (at_builtin; refine wpList_append_own _ rfl _ _ 22 rfl W.heap.size 39 i0 (.agg #[.int .i64 0, .string ⟨#[]⟩]) 2 24 Tryd.underlying22 hi hz0 hz1 hz2 rfl (by decide) _ _ _ rfl (HW1.out.alloc _) ⟨_, 0, none⟩ 1 1 [.int .i64 x1, .string x2] rfl rfl ?c1 ?c2 ?c3 ?c4 ?c5 ?_)
        case c1 => exact pair_behind2 _ _ _ _ _
        case c2 => intro z hz; simp at hz; rcases hz with rfl | rfl <;> rfl
        case c3 => have := HO.out; unfold maxLen; omega
        case c4 => have := HO.out; omega
        case c5 => have := HB.out.size; simp; omega
        intro v' w5 hown' hgrow _
        have hrow := HW.out.lt
        have bel := (Bx.bel_box HB1.out (Obj.cells #[.int .i64 x1, .string x2] 39)).grown hgrow (by have := HB.out.size; simp; omega) (fun q hq => (hrow q hq).1)
        obtain ⟨B', c', rfl, hW'⟩ := at_next (x := (x1, x2)) hown'
        have HW2 := Lib.hid hW'
        have HBL := Lib.hid bel
        have HO2 : Hid ((o ++ [(x1, x2)]).length = k + 1) := Lib.hid (by rw [List.length_append, HO.out]; rfl)
        clear hown' hgrow hrow hW' bel
        go_wp2
        go_roundw
        case rel => exact ⟨k + 1, B', c', o ++ [(x1, x2)], true, by omega, rfl, rfl, by go_num, HO2.out, HN.out, HW2.out, HBL.out⟩
        case measure => simp [intOf]; omega
      · have HN := Lib.hid (show putA l kind v = (o ++ [(x1, x2)]) ++ restA dn (l.drop (k + 1)) kind v by
          rw [HP.out, HD.out]
          cases dn
          · show o ++ putA ((x1, x2) :: l.drop (k + 1)) kind v = _
            rw [putA, if_neg hx]
            simp [restA]
          · simp [restA])
        clear HP HD HST
        have HW1 := Lib.hid (HW.out.alloc (Obj.cells #[.int .i64 x1, .string x2] 39))
        have HB1 := Lib.hid (Bx.bel_box HB.out (Obj.cells #[.int .i64 x1, .string x2] 39))
        go_wp2_with (at_builtin; refine wpList_append_own _ rfl _ _ 22 rfl W.heap.size 39 i0 (.agg #[.int .i64 0, .string ⟨#[]⟩]) 2 24 Tryd.underlying22 hi hz0 hz1 hz2 rfl (by decide) _ _ _ rfl (HW1.out.alloc _) ⟨_, 0, none⟩ 1 1 [.int .i64 x1, .string x2] rfl rfl ?c1 ?c2 ?c3 ?c4 ?c5 ?_)
        case c1 => exact pair_behind2 _ _ _ _ _
        case c2 => intro z hz; simp at hz; rcases hz with rfl | rfl <;> rfl
        case c3 => have := HO.out; unfold maxLen; omega
        case c4 => have := HO.out; omega
        case c5 => have := HB.out.size; simp; omega
        intro v' w5 hown' hgrow _
        have hrow := HW.out.lt
        have bel := (Bx.bel_box HB1.out (Obj.cells #[.int .i64 x1, .string x2] 39)).grown hgrow (by have := HB.out.size; simp; omega) (fun q hq => (hrow q hq).1)
        obtain ⟨B', c', rfl, hW'⟩ := at_next (x := (x1, x2)) hown'
        have HW2 := Lib.hid hW'
        have HBL := Lib.hid bel
        have HO2 : Hid ((o ++ [(x1, x2)]).length = k + 1) := Lib.hid (by rw [List.length_append, HO.out]; rfl)
        clear hown' hgrow hrow hW' bel
        go_wp2
        go_roundw
        case rel => exact ⟨k + 1, B', c', o ++ [(x1, x2)], dn, by omega, rfl, rfl, by go_num, HO2.out, HN.out, HW2.out, HBL.out⟩
        case measure => simp [intOf]; omega
    · have HE : Hid (putA l kind v = o ++ restA dn [] kind v) := Lib.hid (by rw [HP.out, List.drop_of_length_le (by omega)])
      clear HP
      cases dn with
      | true =>
        have HE2 : putA l kind v = o := by rw [HE.out]; simp [restA]
        clear HE
        rw [HE2]
        have ST5 := Lib.hid (ST.out.keep HB.out)
        obtain ⟨_, _, e1, h3⟩ := Ats.of_own HW.out
        injection e1 with e1 _ e4
        subst e1 e4
        have HAT := Lib.hid h3
        have hne : ∀ b o', B = some ⟨b, o', none⟩ → b ≠ w.heap.size := fun b o' e => by have := own_new HW.out b o' e; have := hW.out; omega
        have hne2 : ∀ b o', B = some ⟨b, o', none⟩ → b ≠ w.heap.size + 1 := fun b o' e => by have := own_new HW.out b o' e; have := hW.out; omega
        have n5 : w.heap.size + 1 ≠ w.heap.size := by omega
        obtain ⟨⟨c0, c1, c2, c3⟩, f0, f1, f2, f3⟩ := ST5.out.2.1.all4
        obtain ⟨⟨r0, r1, r2, r3⟩, s0, s1, s2, s3⟩ := ST5.out.2.2.1.all4
        have HB4 := Lib.hid (((((ST5.out.1.setCell (p := ⟨w.heap.size, 3, none⟩) (Nat.le_refl _) (.slice B o.length cc)).setCell (p := ⟨w.heap.size + 1, 0, none⟩) (Nat.le_succ _) (.int .i64 c)).setCell (p := ⟨w.heap.size + 1, 1, none⟩) (Nat.le_succ _) (.int .i64 i)).setCell (p := ⟨w.heap.size + 1, 2, none⟩) (Nat.le_succ _) (.string a)).setCell (p := ⟨w.heap.size + 1, 3, none⟩) (Nat.le_succ _) (.slice B o.length cc))
        have R5 := Lib.hid (((ST5.out.2.2.1.1.other (o := 3) (x := .slice B o.length cc) n5).put4 (x0 := .int .i64 c) (x1 := .int .i64 i) (x2 := .string a) (x3 := .slice B o.length cc)).all4)
        have HQ : Hid (GivesF c i a o w (.returned (pv c i a B o.length cc)) _) := Lib.hid ⟨B, cc, rfl, (fun b o' e => by have := own_new HW.out b o' e; have := hW.out; omega), ats_set (ats_set (ats_set (ats_set (ats_set HAT.out hne) hne2) hne2) hne2) hne2, HB4.out⟩
        clear h3 HAT HB4 hne hne2
        go_wp2_with fail
        refine bodyPost_ret (v := pv c i a B o.length cc) ?_ rfl ?_
        · obtain ⟨d0, d1, d2, d3⟩ := R5.out
          simp [results, Tryd.results27, d0, d1, d2, d3, go_sem]
        · exact HQ.out
      | false =>
        have HE2 : putA l kind v = o ++ [(kind, v)] := HE.out
        clear HE
        rw [HE2]
        go_wp2_with (at_builtin; refine wpList_append_own _ rfl _ _ 22 rfl W.heap.size 39 i0 (.agg #[.int .i64 0, .string ⟨#[]⟩]) 2 24 Tryd.underlying22 hi hz0 hz1 hz2 rfl (by decide) _ _ _ rfl (HW.out.alloc _) ⟨_, 0, none⟩ 1 1 [.int .i64 kind, .string v] rfl rfl ?c1 ?c2 ?c3 ?c4 ?c5 ?_)
        case c1 => exact pair_behind _ _ _ _
        case c2 => intro z hz; simp at hz; rcases hz with rfl | rfl <;> rfl
        case c3 => have := HO.out; unfold maxLen; omega
        case c4 => have := HO.out; omega
        case c5 => have := HB.out.size; simp; omega
        intro v' w5 hown' hgrow _
        have hrow := HW.out.lt
        have bel := (Bx.bel_box HB.out (Obj.cells #[.int .i64 kind, .string v] 39)).grown hgrow (by have := HB.out.size; simp; omega) (fun q hq => (hrow q hq).1)
        obtain ⟨B', c', rfl, hW'⟩ := at_next (x := (kind, v)) hown'
        have HW2 := Lib.hid hW'
        have HBL := Lib.hid bel
        have HO2 : Hid ((o ++ [(kind, v)]).length = k + 1) := Lib.hid (by rw [List.length_append, HO.out]; rfl)
        clear hown' hgrow hrow hW' bel
        obtain ⟨N, hN⟩ : ∃ N, (o ++ [(kind, v)]).length = N := ⟨_, rfl⟩
        have ST5 := Lib.hid (ST.out.keep HBL.out)
        obtain ⟨_, _, e1, h3⟩ := Ats.of_own HW2.out
        injection e1 with e1 _ e4
        subst e1 e4
        have HAT := Lib.hid h3
        have hne : ∀ b o', B' = some ⟨b, o', none⟩ → b ≠ w.heap.size := fun b o' e => by have := own_new HW2.out b o' e; have := hW.out; omega
        have hne2 : ∀ b o', B' = some ⟨b, o', none⟩ → b ≠ w.heap.size + 1 := fun b o' e => by have := own_new HW2.out b o' e; have := hW.out; omega
        have n5 : w.heap.size + 1 ≠ w.heap.size := by omega
        obtain ⟨⟨c0, c1, c2, c3⟩, f0, f1, f2, f3⟩ := ST5.out.2.1.all4
        obtain ⟨⟨r0, r1, r2, r3⟩, s0, s1, s2, s3⟩ := ST5.out.2.2.1.all4
        have HB4 := Lib.hid (((((ST5.out.1.setCell (p := ⟨w.heap.size, 3, none⟩) (Nat.le_refl _) (.slice B' N c')).setCell (p := ⟨w.heap.size + 1, 0, none⟩) (Nat.le_succ _) (.int .i64 c)).setCell (p := ⟨w.heap.size + 1, 1, none⟩) (Nat.le_succ _) (.int .i64 i)).setCell (p := ⟨w.heap.size + 1, 2, none⟩) (Nat.le_succ _) (.string a)).setCell (p := ⟨w.heap.size + 1, 3, none⟩) (Nat.le_succ _) (.slice B' N c'))
        have R5 := Lib.hid (((ST5.out.2.2.1.1.other (o := 3) (x := .slice B' N c') n5).put4 (x0 := .int .i64 c) (x1 := .int .i64 i) (x2 := .string a) (x3 := .slice B' N c')).all4)
        have HQ : Hid (GivesF c i a (o ++ [(kind, v)]) w (.returned (pv c i a B' N c')) _) := Lib.hid ⟨B', c', by rw [hN], (fun b o' e => by have := own_new HW2.out b o' e; have := hW.out; omega), ats_set (ats_set (ats_set (ats_set (ats_set HAT.out hne) hne2) hne2) hne2) hne2, HB4.out⟩
        clear h3 HAT HB4 hne hne2
        rw [hN]
        go_wp2_with fail
        refine bodyPost_ret (v := pv c i a B' N c') ?_ rfl ?_
        · obtain ⟨d0, d1, d2, d3⟩ := R5.out
          simp [results, Tryd.results27, d0, d1, d2, d3, go_sem]
        · exact HQ.out

theorem rput_any (c i : Int) (a : ByteArray) (l : List At) (hl : l.length ≤ 1000) (A : Option Addr) (kc : Nat) (kind : Int) (v : ByteArray) (w : World) (hA : Ats w A l) :
    Calls Tryd.prog 27 #[pv c i a A l.length kc, .int .i64 kind, .string v] w (GivesQ c i a (putA l kind v) w) :=
  (rput_fresh c i a l hl A kc kind v w hA).mono fun _ _ h => h.q

end Pac
end Go.Proofs.YtaeeonohakkgbaaDoor
