/-
  What Start answers, and the document's.
-/
import Derived.Test.YtkjdnmlaehjmgaaChgA
import Derived.Test.YtkjdnmlaehjmgaaPorB
import Derived.Deep.LoopGhost
import Derived.Deep.CutBlock
namespace Go.Proofs.Ytkjdnmlaehjmgaa
open Go.RowKit
namespace Chg
open Pre Crd Tre Elt Rip

theorem mix_skip (g f : Nat → Cd) (k : Nat) (h : g k = f k) : mixN g f k = mixN g f (k + 1) := by
  funext j
  unfold mixN
  by_cases e : j = k
  · subst e; rw [if_neg (by omega), if_pos (by omega), h]
  · by_cases q : j < k
    · rw [if_pos q, if_pos (by omega)]
    · rw [if_neg q, if_neg (by omega)]

/-- Numbers as cells. -/
def nv (l : List Nat) : List Value := l.map fun n : Nat => Value.int .i64 (n : Int)

theorem nv_len (l : List Nat) : (nv l).length = l.length := by unfold nv; rw [List.length_map]

/-- What hands back a new slice of these numbers. -/
def GivesN (l : List Nat) (w : World) (e : Ending) (w' : World) : Prop := ∃ A cap g, e = .returned (.slice A l.length cap) ∧ (l = [] ∨ A = some ⟨g, 0, none⟩) ∧ w.heap.size ≤ g ∧ Bx.Blk w' g (nv l) ∧ Below w.heap.size w w'

theorem addr_at (g j : Nat) : Addr.add ⟨g, 0, none⟩ j = ⟨g, j, none⟩ := by
  unfold Addr.add
  by_cases e : j = 0
  · subst e; simp
  · simp [e]

theorem gives_own {w wr : World} {x : Int} {B : Option Addr} {c : Nat} {o : List Int} (h : wr.ownsRow w.heap.size 3 1 (.slice B o.length c) o.length (Por.iv o)) (ho : o = Por.listI (Por.low x) 8) (hb : Below w.heap.size w wr) :
    GivesN (Por.listN (Por.low x) 8) w (.returned (.slice B o.length c)) wr := by
  have hl : o.length = (Por.listN (Por.low x) 8).length := by rw [ho]; unfold Por.listI; rw [List.length_map]
  have hv : Por.iv o = nv (Por.listN (Por.low x) 8) := by rw [ho]; unfold Por.listI Por.iv nv; rw [List.map_map]; rfl
  rw [hv] at h
  rcases h.2 with ⟨e, h0⟩ | ⟨g, cap, cur, e, hg0, hg, _⟩
  · have hn : Por.listN (Por.low x) 8 = [] := List.eq_nil_of_length_eq_zero (by omega)
    refine ⟨B, c, w.heap.size, by rw [hl], Or.inl hn, Nat.le_refl _, ?_, hb⟩
    rw [hn]
    intro j v hj
    simp [nv] at hj
  · injection e with e1 e2 e3
    refine ⟨B, c, g, by rw [hl], Or.inr e1, hg0, fun j v hj => ?_, hb⟩
    subst e1
    rw [← addr_at g j]
    exact h.cells (g := g) rfl j _ hj

theorem row_at {W : World} {g : Nat} {l : List Nat} (h : Bx.Blk W g (nv l)) (k : Nat) (hk : k < l.length) (ad : Addr) (ha : ad = ⟨g, 0, none⟩) : ad.block < W.heap.size ∧ W.cell? (ad.add k) = some (.int .i64 ((l[k] : Nat) : Int)) := by
  subst ha
  have hc := h.at k (v := .int .i64 ((l[k] : Nat) : Int)) (by unfold nv; rw [List.getElem?_map, List.getElem?_eq_getElem hk]; rfl)
  refine ⟨h.lt (by rw [nv_len]; omega), ?_⟩
  rw [addr_at]
  exact hc

open Por in
set_option maxRecDepth 100000 in
set_option maxHeartbeats 1000000 in
theorem list_new (x : Int) (w : World) :
    Calls Try.prog 21 #[.int .i64 x] w (GivesN (Por.listN (Por.low x) 8) w) := by
  obtain ⟨i0, hi, hz0, hz1, hz2⟩ := info_parts info_int
  go_enter Try.func21, Try.ntmps21
  go_wp2
  go_loopw [3, 5] (fun v i wr => ∃ (k : Nat) (B : Option Addr) (c : Nat) (o : List Int), k ≤ 8 ∧ i = .int .i64 k ∧ v = .slice B o.length c ∧ o.length ≤ k ∧ Aside (o = listI (low x) k) ∧
    Aside (wr.ownsRow w.heap.size 3 1 (.slice B o.length c) o.length (iv o)) ∧ Below w.heap.size w wr) (fun _ i _ => 8 - (intOf i).toNat)
  case atStart => exact ⟨0, none, 0, [], Nat.zero_le _, rfl, rfl, Nat.zero_le _, rfl, World.ownsRow_nil _ _ _ _, Below.refl _ _⟩
  case round =>
    obtain ⟨k, B, c, o, hk, rfl, rfl, ho, HO, HW, hb⟩ := hrel
    by_cases hlt : k < 8
    · cases hm : hasN (low x) k with
      | true =>
        have hH := Lib.hid (has_at x k hlt true hm)
        have HN := Lib.hid (show o ++ [(k : Int)] = listI (low x) (k + 1) by rw [listI_yes _ _ hm, ← HO.out])
        clear hm
        go_wp2_with fail
        refine (hH.out _).mono ?_; rintro e w' ⟨rfl, rfl⟩
        go_wp2_with (at_builtin; refine wpList_append_own _ rfl _ _ 49 rfl w.heap.size 3 i0 (.int .i64 0) 1 8 Try.underlying49 hi hz0 hz1 hz2 rfl (by decide) _ _ _ rfl (HW.out.alloc _) ⟨wr.heap.size, 0, none⟩ 1 1 [.int .i64 k] rfl rfl ?c1 ?c2 ?c3 ?c4 ?c5 ?_)
        case c1 => exact cell_one_new _ _ _
        case c2 => intro u hu; simp at hu; subst hu; rfl
        case c3 => unfold maxLen; omega
        case c4 => omega
        case c5 => have := hb.size; simp; omega
        intro v' w2 hown' hgrow _
        have hrow := (HW.out).lt
        have bel := (Bx.bel_box hb (Obj.cells #[.int .i64 k] 3)).grown hgrow (by have := hb.size; simp; omega) (fun q hq => (hrow q hq).1)
        obtain ⟨B', c', rfl⟩ := own_form hown'
        have HW2 := Lib.hid hown'
        clear hown' hgrow hrow
        go_wp2
        go_roundw
        case rel =>
          refine ⟨k + 1, B', c', o ++ [(k : Int)], by omega, by go_num, by simp, by simp; omega, HN.out, ?_, bel⟩
          have := HW2.out
          simpa [iv, Aside] using this
        case measure => simp [intOf]; omega
      | false =>
        have hH := Lib.hid (has_at x k hlt false hm)
        have HN := Lib.hid (show o = listI (low x) (k + 1) by rw [listI_no _ _ hm, ← HO.out])
        clear hm
        go_wp2_with fail
        refine (hH.out _).mono ?_; rintro e w' ⟨rfl, rfl⟩
        go_wp2
        go_roundw
        case rel => exact ⟨k + 1, B, c, o, by omega, by go_num, rfl, by omega, HN.out, HW.out, hb⟩
        case measure => simp [intOf]; omega
    · obtain rfl : k = 8 := by omega
      have HF := Lib.hid (gives_own HW.out HO.out hb)
      go_wp2
      go_ret
      exact HF.out

set_option maxRecDepth 40000 in
set_option maxHeartbeats 8000000 in
theorem start_any (x : Td) (s : Int) (w : World) : Calls Try.prog 11 #[tdv x, .int .i64 s] w fun e w' => e = .returned (tdv (strT x s)) ∧ Below w.heap.size w w' := by
  have HG := Lib.hid (list_new s)
  have hN := Lib.hid (listN_at (Por.low s))
  have hE := Lib.hid (strL_td x s)
  have hn8 : (Por.listN (Por.low s) 8).length ≤ 8 := Por.listN_len _ _
  have HL := Lib.hid lasts_any
  obtain ⟨L, hL⟩ : ∃ L, L = Por.listN (Por.low s) 8 := ⟨_, rfl⟩
  rw [← hL] at HG hN hE hn8
  clear hL
  have T0 : Hid (Bx.Fre (w.alloc (tdo x)) w.heap.size (tdl x)) := Lib.hid (Bx.Fre.new w (tdl x) 31)
  have bel := Lib.hid (Bx.box_below w (tdo x))
  replace T0 := Lib.hid (T0.out.more (tdo Td.zero))
  have R1 : Hid (Bx.Fre ((w.alloc (tdo x)).alloc (tdo Td.zero)) (w.heap.size + 1) (tdl Td.zero)) := Lib.hid (Bx.Fre.new_at (W := (w.alloc (tdo x))) (k := w.heap.size + 1) (tdl Td.zero) 31 (by simp))
  replace bel := Lib.hid (Bx.bel_box bel.out (tdo Td.zero))
  have hal := zero_at
  go_enter Try.func11, Try.ntmps11
  go_wp2_with (first | ((with_reducible refine td_load ?_ ?_ (w.heap.size) ?_ x ?_ ?_); (· rfl); (· rfl); (· rfl); (· exact T0.out.blk)) | ((with_reducible refine cs_load ?_ ?_ (w.heap.size) ?_ x ?_ ?_); (· rfl); (· rfl); (· rfl); (· exact T0.out.blk)))
  clear hal
  refine (HG.out _).mono ?_; rintro e w1 ⟨A, cap, g9, rfl, hA, hg9, S9, hb⟩
  replace T0 := Lib.hid (T0.out.keep hb)
  replace R1 := Lib.hid (R1.out.keep hb)
  replace bel := Lib.hid (Bx.then_below bel.out hb)
  clear hb
  replace S9 := Lib.hid S9
  replace hA := Lib.hid hA
  have hg0 : w.heap.size + 1 < g9 := by simp at hg9; omega
  clear hg9
  go_wp2_with (first | ((with_reducible refine td_load ?_ ?_ (w.heap.size) ?_ x ?_ ?_); (· rfl); (· rfl); (· rfl); (· exact T0.out.blk)) | ((with_reducible refine cs_load ?_ ?_ (w.heap.size) ?_ x ?_ ?_); (· rfl); (· rfl); (· rfl); (· exact T0.out.blk)))
  replace T0 := Lib.hid (T0.out.of (m := tdl (Td.mk x.id x.own x.root x.times x.port (strL x.cs (L.take 0)))) (by rw [List.take_zero, strL_none]))
  go_loopg [11] L.length (fun g s11 wr => ∃ k : Nat, k + g = L.length ∧ s11 = .int .i64 k ∧ Aside (Bx.Fre wr w.heap.size (tdl (Td.mk x.id x.own x.root x.times x.port (strL x.cs (L.take k))))) ∧ Aside (Bx.Fre wr (w.heap.size + 1) (tdl Td.zero)) ∧ Aside (Bx.Blk wr g9 (nv L)) ∧ Aside (Below w.heap.size w wr))
  case atStart => exact ⟨0, by omega, rfl, T0.out, R1.out, S9.out, bel.out⟩
  case round =>
    clear T0 R1 S9 bel
    obtain ⟨k, hkg, rfl, T0, R1, S9, bel⟩ := hrel
    cases gk with
    | zero =>
      have hkz : ¬ ((k : Int) < (L.length : Int)) := by omega
      have hkz2 : ¬ (k < L.length) := by omega
      obtain rfl : k = L.length := by omega
      have hE2 : Hid (Bx.Fre wr w.heap.size (tdl (strT x s))) := Lib.hid (T0.out.of (by rw [List.take_length]; exact hE.out))
      replace T0 := hE2
      clear hE2
      clear S9
      go_wp2_with (first | ((with_reducible refine td_store ?_ ?_ (w.heap.size + 1) (strT x s) ?_ ?_ (tdl Td.zero) ?_ ?_ ?_); (· rfl); (· rfl); (· rfl); (· rfl); (· exact tdl_len _); (· exact R1.out.own)) | ((with_reducible refine td_load ?_ ?_ (w.heap.size) ?_ (strT x s) ?_ ?_); (· rfl); (· rfl); (· rfl); (· exact T0.out.blk)) | ((with_reducible refine cs_load ?_ ?_ (w.heap.size) ?_ (strT x s) ?_ ?_); (· rfl); (· rfl); (· rfl); (· exact T0.out.blk)))
      replace T0 := Lib.hid (T0.out.apart_at (k' := w.heap.size + 1) (tdl (strT x s)) 0 (by omega))
      replace bel := Lib.hid (Bx.bel_put_at (k := w.heap.size + 1) (tdl (strT x s)) 0 (by omega) bel.out)
      replace R1 := Lib.hid (R1.out.full (m := (tdl (strT x s))) (by rw [tdl_len, tdl_len]))
      exact bodyPost_ret (v := tdv (strT x s)) (td_result Try.results11 rfl R1.out.blk) rfl ⟨rfl, bel.out⟩
    | succ g =>
      have hlt : k < L.length := by omega
      have hkz : (k : Int) < (L.length : Int) := by omega
      have hk0 : (0 : Int) ≤ k := by omega
      obtain ⟨ad, rfl, had⟩ : ∃ ad, A = some ad ∧ ad = ⟨g9, 0, none⟩ := by rcases hA.out with h | h; (subst h; simp at hlt); exact ⟨_, h, rfl⟩
      obtain ⟨hab, hc⟩ := row_at S9.out k hlt ad had
      replace had := Lib.hid had
      obtain ⟨hq8, hqn⟩ := hN.out k hlt
      obtain ⟨q, hq⟩ : ∃ q, q = L[k] := ⟨_, rfl⟩
      have HT : Hid (L.take (k + 1) = L.take k ++ [q]) := Lib.hid (by rw [hq]; exact List.take_succ_eq_append_getElem hlt)
      rw [← hq] at hc hq8 hqn
      clear hq
      obtain ⟨hs1, hs2⟩ := strL_next x.cs (L.take k) q hqn
      obtain ⟨z, hz⟩ : ∃ z, z = (Td.mk x.id x.own x.root x.times x.port (strL x.cs (L.take k))) := ⟨_, rfl⟩
      have HP : Hid (∀ c, c = strC (x.cs q) → Bx.setL (tdl z) (14 + q * 31) (cdl c) = tdl (Td.mk x.id x.own x.root x.times x.port (strL x.cs (L.take (k + 1))))) := Lib.hid (fun c h => by rw [hz, tdl_upd _ q hq8 c, HT.out, ← hs1, h])
      have HK : Hid (strC (x.cs q) = x.cs q → tdl z = tdl (Td.mk x.id x.own x.root x.times x.port (strL x.cs (L.take (k + 1))))) := Lib.hid (fun h => by rw [hz, HT.out, ← strL_skip x.cs (L.take k) q h])
      have HC : Hid (z.cs q = x.cs q) := Lib.hid (by rw [hz]; exact hs2)
      rw [← hz] at T0
      clear hz hs1 hs2 HT hqn
      have hq0 : (0 : Int) ≤ (q : Int) := by omega
      have hqi : (q : Int) < 8 := by omega
      have h51 : w.heap.size + 1 < wr.heap.size := R1.out.2.1
      have h59 : g9 < wr.heap.size := S9.out.lt (by rw [nv_len]; omega)
      have U0 := T0
      replace T0 := Lib.hid (T0.out.more (cdo (z.cs q)))
      replace R1 := Lib.hid (R1.out.more (cdo (z.cs q)))
      replace S9 := Lib.hid (S9.out.more (cdo (z.cs q)))
      have C7 : Hid (Bx.Fre (wr.alloc (cdo (z.cs q))) wr.heap.size (cdl (z.cs q))) := Lib.hid (Bx.Fre.new wr (cdl (z.cs q)) 28)
      replace bel := Lib.hid (Bx.bel_box bel.out (cdo (z.cs q)))
      go_upto_region 5 with (first | ((with_reducible refine cc_load ?_ ?_ (w.heap.size) q hq8 ?_ z ?_ ?_); (· rfl); (· rfl); (· rfl); (· first | exact U0.out.blk | exact (U0.out.more (.cells (cdl Cd.zero).toArray 28)).blk)) | ((with_reducible refine cd_fresh ?_ ?_ (wr.heap.size) (z.cs q) ?_ ?_ wr (cdl Cd.zero) ?_ ?_ ?_ ?_); (· rfl); (· rfl); (· rfl); (· rfl); (· rfl); (· rfl); (· first | rfl | (simp; done))))
      clear U0 hab hc
      obtain ⟨c, hcz⟩ : ∃ c, c = z.cs q := ⟨_, rfl⟩
      rw [← hcz] at C7 T0 R1 S9 bel HC ⊢
      obtain ⟨k7, hk7⟩ : ∃ k, k = wr.heap.size := ⟨_, rfl⟩
      rw [← hk7] at C7 h51 h59 ⊢
      generalize wr.alloc (cdo c) = w0 at *
      clear hk7 hcz wr
      rw [← HC.out] at HP HK
      by_cases h : c.chg = 0
      · have g1 : (c.chg == 0) = true := by simp [h]
        have HE : Hid ({ c with chg := lasI c, tel := true } = strC c) := Lib.hid (if_pos h).symm
        clear h
        have C7_27 := C7.out.at 27 rfl
        go_upto_region 6 with fail
        clear C7_27
        go_wp2_with (first | ((with_reducible refine cd_load ?_ ?_ (k7) ?_ c ?_ ?_); (· rfl); (· rfl); (· rfl); (· exact C7.out.blk)))
        refine (HL.out _ _).mono ?_; rintro e w1 ⟨rfl, hb⟩
        replace T0 := Lib.hid (T0.out.keep hb)
        replace R1 := Lib.hid (R1.out.keep hb)
        replace S9 := Lib.hid (S9.out.keep hb)
        replace C7 := Lib.hid (C7.out.keep hb)
        replace bel := Lib.hid (Bx.then_below bel.out hb)
        clear hb
        generalize lasI c = n at *
        have C7_27 := C7.out.at 27 rfl
        have C7_22 := C7.out.at 22 rfl
        have C7f27 := C7.out.2.2 27
        have C7f22 := C7.out.2.2 22
        replace T0 := Lib.hid (T0.out.other (k' := k7) (o := 27) (x := .int .i64 n) (by omega))
        replace R1 := Lib.hid (R1.out.other (k' := k7) (o := 27) (x := .int .i64 n) (by omega))
        replace S9 := Lib.hid (S9.out.other (k' := k7) (o := 27) (x := .int .i64 n) (by omega))
        replace bel := Lib.hid (Bx.bel_set (k := k7) (o := 27) (x := .int .i64 n) (by omega) bel.out)
        replace C7 := Lib.hid ((C7.out.set (27) (.int .i64 n)).of (m := (cdl { c with chg := n })) (by first | rfl | simp [enc, tenc]))
        replace T0 := Lib.hid (T0.out.other (k' := k7) (o := 22) (x := .bool true) (by omega))
        replace R1 := Lib.hid (R1.out.other (k' := k7) (o := 22) (x := .bool true) (by omega))
        replace S9 := Lib.hid (S9.out.other (k' := k7) (o := 22) (x := .bool true) (by omega))
        replace bel := Lib.hid (Bx.bel_set (k := k7) (o := 22) (x := .bool true) (by omega) bel.out)
        replace C7 := Lib.hid ((C7.out.set (22) (.bool true)).of (m := (cdl { c with chg := n, tel := true })) (by first | rfl | simp [enc, tenc]))
        go_upto_region 7 with fail
        clear C7_27 C7_22 C7f27 C7f22
        generalize ((w1.setCell ⟨k7, 27, none⟩ (.int .i64 n)).setCell ⟨k7, 22, none⟩ (.bool true)) = W7 at *
        have T9 := T0
        have C9 := C7
        replace R1 := Lib.hid (R1.out.apart_at (k' := w.heap.size) (cdl { c with chg := n, tel := true }) (14 + q * 31) (by omega))
        replace S9 := Lib.hid (S9.out.apart_at (k' := w.heap.size) (cdl { c with chg := n, tel := true }) (14 + q * 31) (by omega))
        replace C7 := Lib.hid (C7.out.apart_at (k' := w.heap.size) (cdl { c with chg := n, tel := true }) (14 + q * 31) (by omega))
        replace bel := Lib.hid (Bx.bel_put_at (k := w.heap.size) (cdl { c with chg := n, tel := true }) (14 + q * 31) (by omega) bel.out)
        replace T0 := Lib.hid ((Bx.Fre.put_at (cdl { c with chg := n, tel := true }) (14 + q * 31) T0.out).of (m := (tdl (Td.mk x.id x.own x.root x.times x.port (strL x.cs (L.take (k + 1)))))) (HP.out { c with chg := n, tel := true } HE.out))
        go_wp2_with (first | ((with_reducible refine cc_store ?_ ?_ (w.heap.size) q hq8 ?_ { c with chg := n, tel := true } ?_ z ?_ ?_); (· rfl); (· rfl); (· rfl); (· rfl); (· exact T9.out)) | ((with_reducible refine cd_load ?_ ?_ (k7) ?_ { c with chg := n, tel := true } ?_ ?_); (· rfl); (· rfl); (· rfl); (· exact C9.out.blk)) | ((with_reducible refine td_load ?_ ?_ (w.heap.size) ?_ (Td.mk x.id x.own x.root x.times x.port (strL x.cs (L.take (k + 1)))) ?_ ?_); (· rfl); (· rfl); (· rfl); (· exact T0.out.blk)) | ((with_reducible refine cs_load ?_ ?_ (w.heap.size) ?_ (Td.mk x.id x.own x.root x.times x.port (strL x.cs (L.take (k + 1)))) ?_ ?_); (· rfl); (· rfl); (· rfl); (· exact T0.out.blk)) | ((with_reducible refine td_load ?_ ?_ (w.heap.size + 1) ?_ Td.zero ?_ ?_); (· rfl); (· rfl); (· rfl); (· exact R1.out.blk)) | ((with_reducible refine cs_load ?_ ?_ (w.heap.size + 1) ?_ Td.zero ?_ ?_); (· rfl); (· rfl); (· rfl); (· exact R1.out.blk)) | ((with_reducible refine cd_load ?_ ?_ (k7) ?_ { c with chg := n, tel := true } ?_ ?_); (· rfl); (· rfl); (· rfl); (· exact C7.out.blk)))
        go_roundg g
        case measure => omega
        case rel => exact ⟨k + 1, by omega, by go_num, T0.out, R1.out, S9.out, bel.out⟩
      · have g1 : (c.chg == 0) = false := by simp [h]
        replace T0 := Lib.hid (T0.out.of (m := tdl (Td.mk x.id x.own x.root x.times x.port (strL x.cs (L.take (k + 1))))) (HK.out (if_neg h)))
        clear h
        have C7_27 := C7.out.at 27 rfl
        go_wp2_with (first | ((with_reducible refine td_load ?_ ?_ (w.heap.size) ?_ z ?_ ?_); (· rfl); (· rfl); (· rfl); (· exact T0.out.blk)) | ((with_reducible refine cs_load ?_ ?_ (w.heap.size) ?_ z ?_ ?_); (· rfl); (· rfl); (· rfl); (· exact T0.out.blk)) | ((with_reducible refine td_load ?_ ?_ (w.heap.size + 1) ?_ Td.zero ?_ ?_); (· rfl); (· rfl); (· rfl); (· exact R1.out.blk)) | ((with_reducible refine cs_load ?_ ?_ (w.heap.size + 1) ?_ Td.zero ?_ ?_); (· rfl); (· rfl); (· rfl); (· exact R1.out.blk)) | ((with_reducible refine cd_load ?_ ?_ (k7) ?_ c ?_ ?_); (· rfl); (· rfl); (· rfl); (· exact C7.out.blk)))
        go_roundg g
        case measure => omega
        case rel => exact ⟨k + 1, by omega, by go_num, T0.out, R1.out, S9.out, bel.out⟩

set_option maxRecDepth 40000 in
set_option maxHeartbeats 8000000 in
theorem rstart_any (x : Td) (s : Int) (w : World) : Calls Try.prog 12 #[tdv x, .int .i64 s] w fun e w' => e = .returned (tdv (strT x s)) ∧ Below w.heap.size w w' := by
  have HL := Lib.hid rlong_any
  have hE := Lib.hid (mix_all x (strF x.cs s) x.cs)
  have HH := Lib.hid (fun k (h : k < 8) b hb w => Por.rhas_at s k h b hb w)
  have T0 : Hid (Bx.Fre (w.alloc (tdo x)) w.heap.size (tdl x)) := Lib.hid (Bx.Fre.new w (tdl x) 31)
  have bel := Lib.hid (Bx.box_below w (tdo x))
  replace T0 := Lib.hid (T0.out.more (tdo Td.zero))
  have R1 : Hid (Bx.Fre ((w.alloc (tdo x)).alloc (tdo Td.zero)) (w.heap.size + 1) (tdl Td.zero)) := Lib.hid (Bx.Fre.new_at (W := (w.alloc (tdo x))) (k := w.heap.size + 1) (tdl Td.zero) 31 (by simp))
  replace bel := Lib.hid (Bx.bel_box bel.out (tdo Td.zero))
  have hal := zero_at
  go_enter Try.func12, Try.ntmps12
  go_wp2_with (first | ((with_reducible refine td_load ?_ ?_ (w.heap.size) ?_ x ?_ ?_); (· rfl); (· rfl); (· rfl); (· exact T0.out.blk)) | ((with_reducible refine cs_load ?_ ?_ (w.heap.size) ?_ x ?_ ?_); (· rfl); (· rfl); (· rfl); (· exact T0.out.blk)))
  clear hal
  generalize ((w.alloc (tdo x)).alloc (tdo Td.zero)) = W0 at *
  replace T0 := Lib.hid (T0.out.of (m := tdl (Td.mk x.id x.own x.root x.times x.port (mixN (strF x.cs s) x.cs 0))) (by rw [mix_none]))
  go_loopg [9] 8 (fun g sk wr => ∃ k : Nat, k + g = 8 ∧ sk = .int .i64 k ∧ Aside (Bx.Fre wr w.heap.size (tdl (Td.mk x.id x.own x.root x.times x.port (mixN (strF x.cs s) x.cs k)))) ∧ Aside (Bx.Fre wr (w.heap.size + 1) (tdl Td.zero)) ∧ Aside (Below w.heap.size w wr))
  case atStart => exact ⟨0, by omega, rfl, T0.out, R1.out, bel.out⟩
  case round =>
    clear T0 R1 bel W0
    obtain ⟨k, hkg, rfl, T0, R1, bel⟩ := hrel
    cases gk with
    | zero =>
      have hkz : ¬ ((k : Int) < 8) := by omega
      obtain rfl : k = 8 := by omega
      have hE2 : Hid (Bx.Fre wr w.heap.size (tdl (strT x s))) := Lib.hid (T0.out.of hE.out)
      replace T0 := hE2
      clear hE2
      go_wp2_with (first | ((with_reducible refine td_store ?_ ?_ (w.heap.size + 1) (strT x s) ?_ ?_ (tdl Td.zero) ?_ ?_ ?_); (· rfl); (· rfl); (· rfl); (· rfl); (· exact tdl_len _); (· exact R1.out.own)) | ((with_reducible refine td_load ?_ ?_ (w.heap.size) ?_ (strT x s) ?_ ?_); (· rfl); (· rfl); (· rfl); (· exact T0.out.blk)) | ((with_reducible refine cs_load ?_ ?_ (w.heap.size) ?_ (strT x s) ?_ ?_); (· rfl); (· rfl); (· rfl); (· exact T0.out.blk)))
      replace T0 := Lib.hid (T0.out.apart_at (k' := w.heap.size + 1) (tdl (strT x s)) 0 (by omega))
      replace bel := Lib.hid (Bx.bel_put_at (k := w.heap.size + 1) (tdl (strT x s)) 0 (by omega) bel.out)
      replace R1 := Lib.hid (R1.out.full (m := (tdl (strT x s))) (by rw [tdl_len, tdl_len]))
      exact bodyPost_ret (v := tdv (strT x s)) (td_result Try.results12 rfl R1.out.blk) rfl ⟨rfl, bel.out⟩
    | succ g =>
      have hkz : (k : Int) < 8 := by omega
      have hk0 : (0 : Int) ≤ k := by omega
      have hk : k < 8 := by omega
      have hix := index_at x.cs k hk
      have HP := Lib.hid (fun c hc => set_port x.id x.own x.root x.times x.port (strF x.cs s) x.cs k hk c hc)
      have HK := Lib.hid (fun h => congrArg (fun f => tdl (Td.mk x.id x.own x.root x.times x.port f)) (mix_skip (strF x.cs s) x.cs k h))
      have HN : Hid ((strF x.cs s) k = if Por.hasN (Por.low s) k = true then strC (x.cs k) else x.cs k) := Lib.hid rfl
      obtain ⟨c, hc⟩ : ∃ c, c = x.cs k := ⟨_, rfl⟩
      rw [← hc] at hix HN HK
      clear hc
      have h51 : w.heap.size + 1 < wr.heap.size := R1.out.2.1
      obtain ⟨b, hb0⟩ : ∃ b, Por.hasN (Por.low s) k = b := ⟨_, rfl⟩
      have HB := Lib.hid (HH.out k hk b hb0)
      rw [hb0] at HN
      clear hb0
      replace T0 := Lib.hid (T0.out.more (cdo c))
      replace R1 := Lib.hid (R1.out.more (cdo c))
      have C6 : Hid (Bx.Fre (wr.alloc (cdo c)) wr.heap.size (cdl c)) := Lib.hid (Bx.Fre.new wr (cdl c) 28)
      replace bel := Lib.hid (Bx.bel_box bel.out (cdo c))
      go_upto_region 4 with (first | ((with_reducible refine cd_fresh ?_ ?_ (wr.heap.size) c ?_ ?_ wr (cdl Cd.zero) ?_ ?_ ?_ ?_); (· rfl); (· rfl); (· rfl); (· rfl); (· rfl); (· rfl); (· first | rfl | (simp; done))))
      clear hix
      obtain ⟨k6, hk6⟩ : ∃ k, k = wr.heap.size := ⟨_, rfl⟩
      rw [← hk6] at C6 h51 ⊢
      generalize wr.alloc (cdo c) = w0 at *
      clear hk6 wr
      go_wp2_with (first | ((with_reducible refine cd_load ?_ ?_ (k6) ?_ c ?_ ?_); (· rfl); (· rfl); (· rfl); (· exact C6.out.blk)))
      refine (HB.out _).mono ?_; rintro e w1 ⟨rfl, rfl⟩
      cases b with
      | false =>
        replace T0 := Lib.hid (T0.out.of (m := tdl (Td.mk x.id x.own x.root x.times x.port (mixN (strF x.cs s) x.cs (k + 1)))) (HK.out (HN.out.trans (if_neg (by decide)))))
        go_wp2_with (first | ((with_reducible refine td_load ?_ ?_ (w.heap.size) ?_ (Td.mk x.id x.own x.root x.times x.port (mixN (strF x.cs s) x.cs (k + 1))) ?_ ?_); (· rfl); (· rfl); (· rfl); (· exact T0.out.blk)) | ((with_reducible refine cs_load ?_ ?_ (w.heap.size) ?_ (Td.mk x.id x.own x.root x.times x.port (mixN (strF x.cs s) x.cs (k + 1))) ?_ ?_); (· rfl); (· rfl); (· rfl); (· exact T0.out.blk)) | ((with_reducible refine td_load ?_ ?_ (w.heap.size + 1) ?_ Td.zero ?_ ?_); (· rfl); (· rfl); (· rfl); (· exact R1.out.blk)) | ((with_reducible refine cs_load ?_ ?_ (w.heap.size + 1) ?_ Td.zero ?_ ?_); (· rfl); (· rfl); (· rfl); (· exact R1.out.blk)) | ((with_reducible refine cd_load ?_ ?_ (k6) ?_ c ?_ ?_); (· rfl); (· rfl); (· rfl); (· exact C6.out.blk)))
        go_roundg g
        case measure => omega
        case rel => exact ⟨k + 1, by omega, by go_num, T0.out, R1.out, bel.out⟩
      | true =>
        replace HN := Lib.hid (HN.out.trans (if_pos rfl))
        by_cases h : c.chg = 0
        · have g1 : (c.chg == 0) = true := by simp [h]
          replace HN := Lib.hid (HN.out.trans (show strC c = { c with chg := lasI c, tel := true } from if_pos h))
          clear h
          have C6_27 := C6.out.at 27 rfl
          go_upto_region 5 with fail
          clear C6_27
          go_wp2_with (first | ((with_reducible refine cd_load ?_ ?_ (k6) ?_ c ?_ ?_); (· rfl); (· rfl); (· rfl); (· exact C6.out.blk)))
          refine (HL.out _ _).mono ?_; rintro e w1 ⟨rfl, hb⟩
          replace T0 := Lib.hid (T0.out.keep hb)
          replace R1 := Lib.hid (R1.out.keep hb)
          replace C6 := Lib.hid (C6.out.keep hb)
          replace bel := Lib.hid (Bx.then_below bel.out hb)
          clear hb
          generalize lasI c = n at *
          have C6_27 := C6.out.at 27 rfl
          have C6_22 := C6.out.at 22 rfl
          have C6f27 := C6.out.2.2 27
          have C6f22 := C6.out.2.2 22
          replace T0 := Lib.hid (T0.out.other (k' := k6) (o := 27) (x := .int .i64 n) (by omega))
          replace R1 := Lib.hid (R1.out.other (k' := k6) (o := 27) (x := .int .i64 n) (by omega))
          replace bel := Lib.hid (Bx.bel_set (k := k6) (o := 27) (x := .int .i64 n) (by omega) bel.out)
          replace C6 := Lib.hid ((C6.out.set (27) (.int .i64 n)).of (m := (cdl { c with chg := n })) (by first | rfl | simp [enc, tenc]))
          replace T0 := Lib.hid (T0.out.other (k' := k6) (o := 22) (x := .bool true) (by omega))
          replace R1 := Lib.hid (R1.out.other (k' := k6) (o := 22) (x := .bool true) (by omega))
          replace bel := Lib.hid (Bx.bel_set (k := k6) (o := 22) (x := .bool true) (by omega) bel.out)
          replace C6 := Lib.hid ((C6.out.set (22) (.bool true)).of (m := (cdl { c with chg := n, tel := true })) (by first | rfl | simp [enc, tenc]))
          go_upto_region 6 with fail
          clear C6_27 C6_22 C6f27 C6f22
          generalize ((w1.setCell ⟨k6, 27, none⟩ (.int .i64 n)).setCell ⟨k6, 22, none⟩ (.bool true)) = W6 at *
          have T9 := T0
          have C9 := C6
          replace R1 := Lib.hid (R1.out.apart_at (k' := w.heap.size) (cdl { c with chg := n, tel := true }) (14 + k * 31) (by omega))
          replace C6 := Lib.hid (C6.out.apart_at (k' := w.heap.size) (cdl { c with chg := n, tel := true }) (14 + k * 31) (by omega))
          replace bel := Lib.hid (Bx.bel_put_at (k := w.heap.size) (cdl { c with chg := n, tel := true }) (14 + k * 31) (by omega) bel.out)
          replace T0 := Lib.hid ((Bx.Fre.put_at (cdl { c with chg := n, tel := true }) (14 + k * 31) T0.out).of (m := (tdl (Td.mk x.id x.own x.root x.times x.port (mixN (strF x.cs s) x.cs (k + 1))))) (HP.out { c with chg := n, tel := true } HN.out))
          go_wp2_with (first | ((with_reducible refine cc_store ?_ ?_ (w.heap.size) k hk ?_ { c with chg := n, tel := true } ?_ (Td.mk x.id x.own x.root x.times x.port (mixN (strF x.cs s) x.cs k)) ?_ ?_); (· rfl); (· rfl); (· rfl); (· rfl); (· exact T9.out)) | ((with_reducible refine cd_load ?_ ?_ (k6) ?_ { c with chg := n, tel := true } ?_ ?_); (· rfl); (· rfl); (· rfl); (· exact C9.out.blk)) | ((with_reducible refine td_load ?_ ?_ (w.heap.size) ?_ (Td.mk x.id x.own x.root x.times x.port (mixN (strF x.cs s) x.cs (k + 1))) ?_ ?_); (· rfl); (· rfl); (· rfl); (· exact T0.out.blk)) | ((with_reducible refine cs_load ?_ ?_ (w.heap.size) ?_ (Td.mk x.id x.own x.root x.times x.port (mixN (strF x.cs s) x.cs (k + 1))) ?_ ?_); (· rfl); (· rfl); (· rfl); (· exact T0.out.blk)) | ((with_reducible refine td_load ?_ ?_ (w.heap.size + 1) ?_ Td.zero ?_ ?_); (· rfl); (· rfl); (· rfl); (· exact R1.out.blk)) | ((with_reducible refine cs_load ?_ ?_ (w.heap.size + 1) ?_ Td.zero ?_ ?_); (· rfl); (· rfl); (· rfl); (· exact R1.out.blk)) | ((with_reducible refine cd_load ?_ ?_ (k6) ?_ { c with chg := n, tel := true } ?_ ?_); (· rfl); (· rfl); (· rfl); (· exact C6.out.blk)))
          go_roundg g
          case measure => omega
          case rel => exact ⟨k + 1, by omega, by go_num, T0.out, R1.out, bel.out⟩
        · have g1 : (c.chg == 0) = false := by simp [h]
          replace HN := Lib.hid (HN.out.trans (show strC c = c from if_neg h))
          clear h
          have C6_27 := C6.out.at 27 rfl
          replace T0 := Lib.hid (T0.out.of (m := tdl (Td.mk x.id x.own x.root x.times x.port (mixN (strF x.cs s) x.cs (k + 1)))) (HK.out (HN.out)))
          go_wp2_with (first | ((with_reducible refine td_load ?_ ?_ (w.heap.size) ?_ (Td.mk x.id x.own x.root x.times x.port (mixN (strF x.cs s) x.cs (k + 1))) ?_ ?_); (· rfl); (· rfl); (· rfl); (· exact T0.out.blk)) | ((with_reducible refine cs_load ?_ ?_ (w.heap.size) ?_ (Td.mk x.id x.own x.root x.times x.port (mixN (strF x.cs s) x.cs (k + 1))) ?_ ?_); (· rfl); (· rfl); (· rfl); (· exact T0.out.blk)) | ((with_reducible refine td_load ?_ ?_ (w.heap.size + 1) ?_ Td.zero ?_ ?_); (· rfl); (· rfl); (· rfl); (· exact R1.out.blk)) | ((with_reducible refine cs_load ?_ ?_ (w.heap.size + 1) ?_ Td.zero ?_ ?_); (· rfl); (· rfl); (· rfl); (· exact R1.out.blk)) | ((with_reducible refine cd_load ?_ ?_ (k6) ?_ c ?_ ?_); (· rfl); (· rfl); (· rfl); (· exact C6.out.blk)))
          go_roundg g
          case measure => omega
          case rel => exact ⟨k + 1, by omega, by go_num, T0.out, R1.out, bel.out⟩

end Chg
end Go.Proofs.Ytkjdnmlaehjmgaa
