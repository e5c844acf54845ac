/-
  table.kept: the entries that a method value keeps, in a row of the call's own; Flush and Forget.
-/
import Derived.Test.YtfnjgjehmddkcaaDoorTabB
namespace Go.Proofs.YtfnjgjehmddkcaaDoor
open Go.RowKit
namespace Tab
open Oct

theorem own_form {w : World} {base : Nat} {e : TypeId} {v : Value} {l : List En} (h : w.ownsRow base e 4 v l.length (l.flatMap enc)) : ∃ B c, v = .slice B l.length c ∧ w.ownsRow base e 4 (.slice B l.length c) l.length (l.flatMap enc) := by
  obtain ⟨B, c, rfl, _⟩ := Ents.of_own h
  exact ⟨B, c, rfl, h⟩

theorem own_next {w : World} {base : Nat} {e : TypeId} {v : Value} {l : List En} {x : En} (h : w.ownsRow base e 4 v (l.length + 1) (l.flatMap enc ++ enc x)) : ∃ B c, v = .slice B (l ++ [x]).length c ∧ w.ownsRow base e 4 (.slice B (l ++ [x]).length c) (l ++ [x]).length ((l ++ [x]).flatMap enc) := by
  refine own_form (l := l ++ [x]) ?_
  simpa using h

theorem own_mono {w : World} {base b' : Nat} {e : TypeId} {v : Value} {n : Nat} {xs : List Value} (h : w.ownsRow base e 4 v n xs) (hb : b' ≤ base) : w.ownsRow b' e 4 v n xs := by
  refine ⟨h.1, ?_⟩
  rcases h.2 with hn | ⟨g, cap, cur, h1, h2, h3⟩
  · exact .inl hn
  · exact .inr ⟨g, cap, cur, h1, Nat.le_trans hb h2, h3⟩

theorem own_below {w w' : World} {base : Nat} {e : TypeId} {v : Value} {n : Nat} {xs : List Value} (h : w.ownsRow base e 4 v n xs) (hb : Below w.heap.size w w') : w'.ownsRow base e 4 v n xs := by
  refine ⟨h.1, ?_⟩
  rcases h.2 with hn | ⟨g, cap, cur, h1, h2, h3, h4⟩
  · exact .inl hn
  · refine .inr ⟨g, cap, cur, h1, h2, ?_, h4⟩
    rw [hb.block g (Array.getElem?_eq_some_iff.1 h3).1]
    exact h3

/-- A store into a block of before. -/
theorem own_set {w : World} {base b o : Nat} {e : TypeId} {v x : Value} {n : Nat} {xs : List Value} (h : w.ownsRow base e 4 v n xs) (hb : b < base) : (w.setCell ⟨b, o, none⟩ x).ownsRow base e 4 v n xs := by
  refine ⟨h.1, ?_⟩
  rcases h.2 with hn | ⟨g, cap, cur, h1, h2, h3, h4⟩
  · exact .inl hn
  · refine .inr ⟨g, cap, cur, h1, h2, ?_, h4⟩
    rw [← h3]
    exact Below.heap_setCell w ⟨b, o, none⟩ x g (by show g ≠ b; omega)

theorem four_new (w : World) (e : En) (t : TypeId) (n : Nat) (h : n = w.heap.size := by rfl) : ∀ j u, (enc e)[j]? = some u → (w.alloc (.cells (enc e).toArray t)).cell? (Addr.add ⟨n, 0, none⟩ j) = some u := fun j u hu => by
  subst h
  rw [Addr.add_lit]
  simpa using (Bx.Blk.new w (enc e) t) j u hu

/-- A table handed back, its entries in a row of the call's own, and a number beside it. -/
def KeptG (most long : Int) (l : List En) (n : Int) (w : World) (e : Ending) (w' : World) : Prop :=
  ∃ B c, e = .returned (.tuple #[tv most long B l.length c, .int .i64 n]) ∧ w'.ownsRow w.heap.size 29 4 (.slice B l.length c) l.length (l.flatMap enc) ∧ Below w.heap.size w w'

theorem filter_take (l : List En) (keep : En → Bool) (k : Nat) (h : k < l.length) : (l.take (k + 1)).filter keep = (l.take k).filter keep ++ if keep l[k] then [l[k]] else [] := by
  rw [List.take_succ_eq_append_getElem h, List.filter_append]
  congr 1
  rw [List.filter_cons]
  split <;> rfl

set_option maxRecDepth 20000 in
set_option maxHeartbeats 4000000 in
theorem kept_any (most long : Int) (l : List En) (hl : l.length ≤ 100000) (A : Option Addr) (c g : Nat) (r : Value) (keep : En → Bool)
    (hg : ∀ e ∈ l, ∀ w, Calls Tryd.prog g #[r, ev e] w fun x w' => x = .returned (.bool (keep e)) ∧ Below w.heap.size w w')
    (eg : ∀ args w, (callFunc g args).run Tryd.prog w = .ok (.enter g args) w) (w : World) (hA : Ents w A l) :
    Calls Tryd.prog 37 #[tv most long A l.length c, .func (.func g) #[r] #[]] w (KeptG most long (l.filter keep) ((l.length : Int) - (l.filter keep).length) w) := by
  obtain ⟨i0, hi, hz0, hz1, hz2⟩ := info_parts info_en
  have bel := Lib.hid (Bx.bel_box (Bx.box_below w (to most long A l.length c)) (to 0 0 none 0 0))
  have A1 := Lib.hid (hA.below bel.out)
  have K := Lib.hid ((Fre.new w [.int .i64 most, .int .i64 long, .slice A l.length c] 24).keep (Bx.box_below _ (to 0 0 none 0 0)))
  have R : Hid (Fre ((w.alloc (to most long A l.length c)).alloc (to 0 0 none 0 0)) (w.heap.size + 1) [.int .i64 0, .int .i64 0, .slice none 0 0]) := Lib.hid (by
    have := Fre.new (w.alloc (to most long A l.length c)) [.int .i64 0, .int .i64 0, .slice none 0 0] 24
    rwa [show (w.alloc (to most long A l.length c)).heap.size = w.heap.size + 1 by simp] at this)
  have HG := Lib.hid hg
  clear hA hg
  obtain ⟨⟨k0, k1, k2⟩, _⟩ := K.out.all3
  have hfl := List.length_filter_le keep l
  have HF := Lib.hid (filter_take l keep)
  have HT := Lib.hid (show (l.take l.length).filter keep = l.filter keep by rw [List.take_length])
  have hsz := Lib.hid (show ((w.alloc (to most long A l.length c)).alloc (to 0 0 none 0 0)).heap.size = w.heap.size + 2 by simp)
  go_enter Tryd.func37, Tryd.ntmps37
  go_wp2
  generalize (w.alloc (to most long A l.length c)).alloc (to 0 0 none 0 0) = W0 at *
  go_loopw [6, 8, 13] (fun v _ ix wr => ∃ (k : Nat) (B : Option Addr) (cc : Nat) (o : List En), k ≤ l.length ∧ ix = .int .i64 k ∧ v = .slice B o.length cc ∧ o.length ≤ k ∧ Aside ((l.take k).filter keep = o) ∧
    Aside (wr.ownsRow W0.heap.size 29 4 (.slice B o.length cc) o.length (o.flatMap enc)) ∧ Aside (Below W0.heap.size W0 wr)) (fun _ _ ix _ => l.length - (intOf ix).toNat)
  case atStart => exact ⟨0, none, 0, [], Nat.zero_le _, rfl, rfl, Nat.le_refl _, rfl, World.ownsRow_nil _ _ _ _, Below.refl _ _⟩
  case round =>
    obtain ⟨k, B, cc, o, hk, rfl, rfl, ho, HO, HW, HB⟩ := hrel
    by_cases hlt : k < l.length
    · obtain ⟨b, q, rfl, _, c0, c1, c2, c3⟩ := (A1.out.below HB.out).at hlt
      have HG' := Lib.hid (HG.out l[k] (List.getElem_mem hlt))
      have HN := Lib.hid (HF.out k hlt)
      rw [HO.out] at HN
      cases hx : keep l[k] with
      | true =>
        rw [hx] at HG' HN
        clear hx
        generalize l[k] = x at *
        have BX := Lib.hid (Bx.bel_box HB.out (eo x))
        have HW1 := Lib.hid (HW.out.alloc (eo x))
        have HE := Lib.hid (Bx.Blk.new wr (enc x) 29)
        have HN2 : Hid ((l.take (k + 1)).filter keep = o ++ [x]) := HN
        obtain ⟨x1, x2, x3, x4⟩ := x
        simp only at c0 c1 c2 c3
        go_wp2_with fail
        refine (HG'.out _).mono ?_; rintro e w1 ⟨rfl, hb1⟩
        have B2 := Lib.hid (Bx.then_below BX.out hb1)
        have HW2 := Lib.hid (own_below HW1.out hb1)
        obtain ⟨d0, d1, d2, d3⟩ := (HE.out.keep hb1).all4
        clear hb1 HE HW1 BX c0 c1 c2 c3
        have hw1 := B2.out.size
        go_wp2_with (at_builtin; refine wpList_append_own _ rfl _ _ 22 rfl W0.heap.size 29 i0 (.agg #[.int .i64 0, .int .u64 0, .int .i64 0, .int .i64 0]) 4 32 Tryd.underlying22 hi hz0 hz1 hz2 rfl (by decide) _ _ _ rfl (HW2.out.alloc _) ⟨_, 0, none⟩ 1 1 (enc ⟨x1, x2, x3, x4⟩) rfl rfl ?c1 ?c2 ?c3 ?c4 ?c5 ?_)
        case c1 => exact four_new _ _ _ _
        case c2 => intro u hu; exact enc_one [⟨x1, x2, x3, x4⟩] u (by simpa using hu)
        case c3 => unfold maxLen; omega
        case c4 => omega
        case c5 => simp; omega
        intro v' w5 hown' hgrow _
        have hrow := (HW.out).lt
        have bel5 := (Bx.bel_box B2.out (eo ⟨x1, x2, x3, x4⟩)).grown hgrow (by simp; omega) (fun q hq => (hrow q hq).1)
        obtain ⟨B', c', rfl, hW'⟩ := own_next hown'
        have HW3 := Lib.hid hW'
        have HBL := Lib.hid bel5
        clear hown' hgrow hrow hW' bel5
        go_wp2
        go_roundw
        case rel => exact ⟨k + 1, B', c', o ++ [(⟨x1, x2, x3, x4⟩ : En)], by omega, by go_num, rfl, by simp; omega, HN2.out, HW3.out, HBL.out⟩
        case measure => simp [intOf]; omega
      | false =>
        rw [hx] at HG' HN
        clear hx
        generalize l[k] = x at *
        have BX := Lib.hid (Bx.bel_box HB.out (eo x))
        have HW1 := Lib.hid (HW.out.alloc (eo x))
        have HN2 : Hid ((l.take (k + 1)).filter keep = o) := Lib.hid (by rw [HN.out]; simp)
        obtain ⟨x1, x2, x3, x4⟩ := x
        simp only at c0 c1 c2 c3
        go_wp2_with fail
        refine (HG'.out _).mono ?_; rintro e w1 ⟨rfl, hb1⟩
        have B2 := Lib.hid (Bx.then_below BX.out hb1)
        have HW2 := Lib.hid (own_below HW1.out hb1)
        clear hb1
        go_wp2
        go_roundw
        case rel => exact ⟨k + 1, B, cc, o, by omega, by go_num, rfl, by omega, HN2.out, HW2.out, B2.out⟩
        case measure => simp [intOf]; omega
    · obtain rfl : k = l.length := by omega
      rw [HT.out] at HO
      obtain rfl := HO.out
      obtain ⟨⟨c0, c1, c2⟩, f0, f1, f2⟩ := (K.out.keep HB.out).all3
      have R1 := Lib.hid (R.out.keep HB.out)
      obtain ⟨⟨r0, r1, r2⟩, s0, s1, s2⟩ := R1.out.all3
      clear k0 k1 k2 ho
      generalize l.filter keep = o at *
      have hwr : IntKind.i64.wrap ((l.length : Int) - (o.length : Int)) = (l.length : Int) - (o.length : Int) := by rw [IntKind.wrap_i64]; omega
      have hle : w.heap.size ≤ w.heap.size + 1 := Nat.le_succ _
      have n5 : w.heap.size + 1 ≠ w.heap.size := by omega
      have hb0 : w.heap.size < W0.heap.size := by rw [hsz.out]; omega
      have hb1 : w.heap.size + 1 < W0.heap.size := by rw [hsz.out]; omega
      have HB0 := Lib.hid ((Bx.then_below bel.out HB.out))
      have HB4 := Lib.hid ((((HB0.out.setCell (p := ⟨w.heap.size, 2, none⟩) (Nat.le_refl _) (.slice B o.length cc)).setCell (p := ⟨w.heap.size + 1, 0, none⟩) hle (.int .i64 most)).setCell (p := ⟨w.heap.size + 1, 1, none⟩) hle (.int .i64 long)).setCell (p := ⟨w.heap.size + 1, 2, none⟩) hle (.slice B o.length cc))
      have R5 := Lib.hid (((R1.out.1.other (o := 2) (x := .slice B o.length cc) n5).put3 (x0 := .int .i64 most) (x1 := .int .i64 long) (x2 := .slice B o.length cc)).all3)
      have HW5 := Lib.hid (own_mono (own_set (o := 2) (x := .slice B o.length cc) (own_set (o := 1) (x := .int .i64 long) (own_set (o := 0) (x := .int .i64 most) (own_set (o := 2) (x := .slice B o.length cc) HW.out hb0) hb1) hb1) hb1) (Nat.le_of_lt hb0))
      clear HB0 R1 HW HB K R bel A1 HG HF HT HO hb0 hb1 hsz
      go_wp2_with fail
      refine bodyPost_ret (v := .tuple #[tv most long B o.length cc, .int .i64 ((l.length : Int) - o.length)]) ?_ rfl ?_
      · obtain ⟨d0, d1, d2⟩ := R5.out
        simp [results, Tryd.results37, d0, d1, d2, go_sem]
      · exact ⟨B, cc, rfl, HW5.out, HB4.out⟩

end Tab
end Go.Proofs.YtfnjgjehmddkcaaDoor
