/-
  What Elect answers.
-/
import Derived.Test.YtkjdnmlaehjmgaaEltD
namespace Go.Proofs.Ytkjdnmlaehjmgaa
open Go.RowKit
namespace Elt
open Pre Crd Tre

def mixN (g f : Nat → Cd) (k : Nat) : Nat → Cd := fun j => if j < k then g j else f j

theorem mix_upd (g f : Nat → Cd) (k : Nat) (c : Cd) (hc : g k = c) : upd (mixN g f k) k c = mixN g f (k + 1) := by
  funext j
  unfold upd mixN
  by_cases e : j = k
  · subst e; rw [if_pos rfl, if_pos (by omega), hc]
  · rw [if_neg e]
    by_cases h : j < k
    · rw [if_pos h, if_pos (by omega)]
    · rw [if_neg h, if_neg (by omega)]

theorem mix_all (x : Td) (g f : Nat → Cd) : tdl { x with cs := mixN g f 8 } = tdl { x with cs := g } := tdl_ext { x with cs := mixN g f 8 } g (fun i hi => by show mixN g f 8 i = g i; unfold mixN; rw [if_pos hi])

theorem mix_none (f g : Nat → Cd) : mixN g f 0 = f := by funext j; unfold mixN; rw [if_neg (by omega)]

theorem set_port (a : Nat) (b : Tm) (v : Vc) (t : Tm) (p : Int) (g f : Nat → Cd) (k : Nat) (hk : k < 8) (c : Cd) (hc : g k = c) : Bx.setL (tdl (Td.mk a b v t p (mixN g f k))) (14 + k * 31) (cdl c) = tdl (Td.mk a b v t p (mixN g f (k + 1))) := by
  rw [tdl_upd _ k hk c]
  show tdl (Td.mk a b v t p (upd (mixN g f k) k c)) = _
  rw [mix_upd g f k c hc]

set_option maxRecDepth 40000 in
set_option maxHeartbeats 8000000 in
theorem elect_any (x : Td) (w : World) : Calls Try.prog 25 #[tdv x] w fun e w' => e = .returned (tdv (eleT x)) ∧ Below w.heap.size w w' := by
  have HL : Hid (∀ w, Calls Try.prog 29 #[tdv x] w fun e w' => e = .returned (i8v (roleN x (rootR x))) ∧ Below w.heap.size w w') := Lib.hid (roles_any x)
  have HR : Hid (∀ w, Calls Try.prog 30 #[tdv x] w fun e w' => e = .returned (.tuple #[vv (rootR x).v, tmv (rootR x).t, .int .i64 (rootR x).p]) ∧ Below w.heap.size w w') := Lib.hid (root_any x)
  have hE : tdv (eleT x) = tdv (Td.mk x.id x.own (rootR x).v (rootR x).t (rootR x).p (eleC x (rootR x))) := rfl
  rw [hE]
  clear hE
  obtain ⟨r, hr⟩ : ∃ r, r = rootR x := ⟨_, rfl⟩
  rw [← hr] at HL HR ⊢
  clear hr
  have hal := zero_at
  have T0 : Hid (Bx.Fre (w.alloc (tdo x)) w.heap.size (tdl x)) := Lib.hid (Bx.Fre.new w (tdl x) 31)
  have bel := Lib.hid (Bx.box_below w (tdo x))
  replace T0 := Lib.hid (T0.out.more (tdo Td.zero))
  have R1 : Hid (Bx.Fre ((w.alloc (tdo x)).alloc (tdo Td.zero)) (w.heap.size + 1) (tdl Td.zero)) := Lib.hid (Bx.Fre.new_at (W := (w.alloc (tdo x))) (k := w.heap.size + 1) (tdl Td.zero) 31 (by simp))
  replace bel := Lib.hid (Bx.bel_box bel.out (tdo Td.zero))
  go_enter Try.func25, Try.ntmps25
  go_wp2_with (first | ((with_reducible refine td_load ?_ ?_ (w.heap.size) ?_ x ?_ ?_); (· rfl); (· rfl); (· rfl); (· exact T0.out.blk)) | ((with_reducible refine cs_load ?_ ?_ (w.heap.size) ?_ x ?_ ?_); (· rfl); (· rfl); (· rfl); (· exact T0.out.blk)))
  clear hal
  refine (HL.out _).mono ?_; rintro e w1 ⟨rfl, hb⟩
  replace T0 := Lib.hid (T0.out.keep hb)
  replace R1 := Lib.hid (R1.out.keep hb)
  replace bel := Lib.hid (Bx.then_below bel.out hb)
  clear hb
  have h13 : w.heap.size + 1 < w1.heap.size := R1.out.2.1
  replace T0 := Lib.hid (T0.out.more (i8o (roleN x r)))
  replace R1 := Lib.hid (R1.out.more (i8o (roleN x r)))
  have G3 : Hid (Bx.Fre (w1.alloc (i8o (roleN x r))) w1.heap.size (i8 (roleN x r))) := Lib.hid (Bx.Fre.new w1 (i8 (roleN x r)) 57)
  replace bel := Lib.hid (Bx.bel_box bel.out (i8o (roleN x r)))
  go_wp2_with (first | ((with_reducible refine i8_fresh ?_ ?_ (w1.heap.size) (roleN x r) ?_ ?_ w1 (i8 (fun _ => 0)) ?_ ?_ ?_ ?_); (· rfl); (· rfl); (· rfl); (· rfl); (· rfl); (· rfl); (· first | rfl | (simp; done))) | ((with_reducible refine td_load ?_ ?_ (w.heap.size) ?_ x ?_ ?_); (· rfl); (· rfl); (· rfl); (· exact T0.out.blk)) | ((with_reducible refine cs_load ?_ ?_ (w.heap.size) ?_ x ?_ ?_); (· rfl); (· rfl); (· rfl); (· exact T0.out.blk)))
  obtain ⟨k3, hk3⟩ : ∃ k, k = w1.heap.size := ⟨_, rfl⟩
  rw [← hk3] at G3 h13 ⊢
  generalize (w1.alloc (i8o (roleN x r))) = W2 at *
  clear hk3
  refine (HR.out _).mono ?_; rintro e w2 ⟨rfl, hb⟩
  replace T0 := Lib.hid (T0.out.keep hb)
  replace R1 := Lib.hid (R1.out.keep hb)
  replace G3 := Lib.hid (G3.out.keep hb)
  replace bel := Lib.hid (Bx.then_below bel.out hb)
  clear hb
  have F1 := T0
  replace R1 := Lib.hid (R1.out.apart_at (k' := w.heap.size) (enc r.v) (5) (by omega))
  replace G3 := Lib.hid (G3.out.apart_at (k' := w.heap.size) (enc r.v) (5) (by omega))
  replace bel := Lib.hid (Bx.bel_put_at (k := w.heap.size) (enc r.v) (5) (by omega) bel.out)
  replace T0 := Lib.hid ((Bx.Fre.put_at (enc r.v) (5) T0.out).of (m := (tdl (Td.mk x.id x.own r.v x.times x.port x.cs))) (rfl))
  have F2 := T0
  replace R1 := Lib.hid (R1.out.apart_at (k' := w.heap.size) (tenc r.t) (9) (by omega))
  replace G3 := Lib.hid (G3.out.apart_at (k' := w.heap.size) (tenc r.t) (9) (by omega))
  replace bel := Lib.hid (Bx.bel_put_at (k := w.heap.size) (tenc r.t) (9) (by omega) bel.out)
  replace T0 := Lib.hid ((Bx.Fre.put_at (tenc r.t) (9) T0.out).of (m := (tdl (Td.mk x.id x.own r.v r.t x.port x.cs))) (rfl))
  have T0_13 := T0.out.at 13 (v := .int .i64 x.port) rfl
  have T0f13 := T0.out.2.2 13
  replace R1 := Lib.hid (R1.out.other (k' := w.heap.size) (o := 13) (x := .int .i64 r.p) (by omega))
  replace G3 := Lib.hid (G3.out.other (k' := w.heap.size) (o := 13) (x := .int .i64 r.p) (by omega))
  replace bel := Lib.hid (Bx.bel_set (k := w.heap.size) (o := 13) (x := .int .i64 r.p) (by omega) bel.out)
  replace T0 := Lib.hid ((T0.out.set (13) (.int .i64 r.p)).of (m := (tdl (Td.mk x.id x.own r.v r.t r.p x.cs))) (by first | rfl | simp [enc, tenc]))
  go_upto_region 3 with (first | ((with_reducible refine vec_put ?_ ?_ (w.heap.size) 5 ?_ r.v ?_ (tdl x) ?_ ?_ ?_); (· rfl); (· rfl); (· rfl); (· rfl); (· rw [tdl_len]; omega); (· exact F1.out)) | ((with_reducible refine tm_put ?_ ?_ (w.heap.size) 9 ?_ r.t ?_ (tdl (Td.mk x.id x.own r.v x.times x.port x.cs)) ?_ ?_ ?_); (· rfl); (· rfl); (· rfl); (· rfl); (· rw [tdl_len]; omega); (· exact F2.out)))
  clear F1 F2 T0_13 T0f13
  generalize (((w2.setCells (w.heap.size) (5) (enc r.v)).setCells (w.heap.size) (9) (tenc r.t)).setCell ⟨w.heap.size, 13, none⟩ (.int .i64 r.p)) = W4 at *
  go_wp2_with (first | ((with_reducible refine td_load ?_ ?_ (w.heap.size) ?_ (Td.mk x.id x.own r.v r.t r.p x.cs) ?_ ?_); (· rfl); (· rfl); (· rfl); (· exact T0.out.blk)) | ((with_reducible refine cs_load ?_ ?_ (w.heap.size) ?_ (Td.mk x.id x.own r.v r.t r.p x.cs) ?_ ?_); (· rfl); (· rfl); (· rfl); (· exact T0.out.blk)))
  replace T0 := Lib.hid (T0.out.of (m := tdl (Td.mk x.id x.own r.v r.t r.p (mixN (eleC x r) x.cs 0))) (by rw [mix_none]))
  go_loopg [19] 8 (fun g sk wr => ∃ k : Nat, k + g = 8 ∧ sk = .int .i64 k ∧ Aside (Bx.Fre wr w.heap.size (tdl (Td.mk x.id x.own r.v r.t r.p (mixN (eleC x r) x.cs k)))) ∧ Aside (Bx.Fre wr (w.heap.size + 1) (tdl Td.zero)) ∧ Aside (Bx.Fre wr k3 (i8 (roleN x r))) ∧ Aside (Below w.heap.size w wr))
  case atStart => exact ⟨0, by omega, rfl, T0.out, R1.out, G3.out, bel.out⟩
  case round =>
    clear T0 R1 G3 bel W4
    obtain ⟨k, hkg, rfl, T0, R1, G3, bel⟩ := hrel
    cases gk with
    | zero =>
      have hkz : ¬ ((k : Int) < 8) := by omega
      obtain rfl : k = 8 := by omega
      replace T0 := Lib.hid (T0.out.of (m := tdl (Td.mk x.id x.own r.v r.t r.p (eleC x r))) (mix_all (Td.mk x.id x.own r.v r.t r.p (eleC x r)) (eleC x r) x.cs))
      go_wp2_with (first | ((with_reducible refine td_store ?_ ?_ (w.heap.size + 1) (Td.mk x.id x.own r.v r.t r.p (eleC x r)) ?_ ?_ (tdl Td.zero) ?_ ?_ ?_); (· rfl); (· rfl); (· rfl); (· rfl); (· exact tdl_len _); (· exact R1.out.own)) | ((with_reducible refine td_load ?_ ?_ (w.heap.size) ?_ (Td.mk x.id x.own r.v r.t r.p (eleC x r)) ?_ ?_); (· rfl); (· rfl); (· rfl); (· exact T0.out.blk)) | ((with_reducible refine cs_load ?_ ?_ (w.heap.size) ?_ (Td.mk x.id x.own r.v r.t r.p (eleC x r)) ?_ ?_); (· rfl); (· rfl); (· rfl); (· exact T0.out.blk)))
      replace T0 := Lib.hid (T0.out.apart_at (k' := w.heap.size + 1) (tdl (Td.mk x.id x.own r.v r.t r.p (eleC x r))) 0 (by omega))
      replace G3 := Lib.hid (G3.out.apart_at (k' := w.heap.size + 1) (tdl (Td.mk x.id x.own r.v r.t r.p (eleC x r))) 0 (by omega))
      replace bel := Lib.hid (Bx.bel_put_at (k := w.heap.size + 1) (tdl (Td.mk x.id x.own r.v r.t r.p (eleC x r))) 0 (by omega) bel.out)
      replace R1 := Lib.hid (R1.out.full (m := (tdl (Td.mk x.id x.own r.v r.t r.p (eleC x r)))) (by rw [tdl_len, tdl_len]))
      exact bodyPost_ret (v := tdv (Td.mk x.id x.own r.v r.t r.p (eleC x r))) (td_result Try.results25 rfl R1.out.blk) rfl ⟨rfl, bel.out⟩
    | succ g =>
      have hkz : (k : Int) < 8 := by omega
      have hk0 : (0 : Int) ≤ k := by omega
      have hk : k < 8 := by omega
      have hix := index_at x.cs k hk
      have HP := Lib.hid (fun c hc => set_port x.id x.own r.v r.t r.p (eleC x r) x.cs k hk c hc)
      have g3 := Lib.hid (i8_get (roleN x r) k hk)
      have HN := Lib.hid (show eleC x r k = if roleN x r k = 0 then { Cd.zero with adm := (x.cs k).adm, cost := (x.cs k).cost } else if roleN x r k = 3 then desC { x.cs k with role := 3 } (desV r.v x.id k) r.t else { x.cs k with role := roleN x r k, png := false } from rfl)
      have HC := Lib.hid (roleN_cases x r k)
      obtain ⟨q, hq⟩ : ∃ q, q = roleN x r k := ⟨_, rfl⟩
      rw [← hq] at g3 HN HC
      clear hq
      obtain ⟨c, hc⟩ : ∃ c, c = x.cs k := ⟨_, rfl⟩
      rw [← hc] at hix HN
      clear hc
      have h53 : k3 < wr.heap.size := G3.out.2.1
      have h51 : w.heap.size + 1 < wr.heap.size := R1.out.2.1
      replace T0 := Lib.hid (T0.out.more (cdo c))
      replace R1 := Lib.hid (R1.out.more (cdo c))
      replace G3 := Lib.hid (G3.out.more (cdo c))
      have C5 : Hid (Bx.Fre (wr.alloc (cdo c)) wr.heap.size (cdl c)) := Lib.hid (Bx.Fre.new wr (cdl c) 28)
      replace bel := Lib.hid (Bx.bel_box bel.out (cdo c))
      go_upto_region 6 with (first | ((with_reducible refine cd_fresh ?_ ?_ (wr.heap.size) c ?_ ?_ wr (cdl Cd.zero) ?_ ?_ ?_ ?_); (· rfl); (· rfl); (· rfl); (· rfl); (· rfl); (· rfl); (· first | rfl | (simp; done))))
      clear hix
      obtain ⟨k5, hk5⟩ : ∃ k, k = wr.heap.size := ⟨_, rfl⟩
      rw [← hk5] at C5 h53 h51 ⊢
      generalize wr.alloc (cdo c) = w0 at *
      clear hk5 wr
      have gq := G3.out.at k g3.out
      have C5_13 := C5.out.at 13 rfl
      have C5f13 := C5.out.2.2 13
      replace T0 := Lib.hid (T0.out.other (k' := k5) (o := 13) (x := .int .i64 q) (by omega))
      replace R1 := Lib.hid (R1.out.other (k' := k5) (o := 13) (x := .int .i64 q) (by omega))
      replace G3 := Lib.hid (G3.out.other (k' := k5) (o := 13) (x := .int .i64 q) (by omega))
      replace bel := Lib.hid (Bx.bel_set (k := k5) (o := 13) (x := .int .i64 q) (by omega) bel.out)
      replace C5 := Lib.hid ((C5.out.set (13) (.int .i64 q)).of (m := (cdl { c with role := q })) (by first | rfl | simp [enc, tenc]))
      go_upto_region 7 with fail
      clear gq C5_13 C5f13
      generalize (w0.setCell ⟨k5, 13, none⟩ (.int .i64 q)) = w5 at *
      rcases HC.out with rfl | rfl | rfl | rfl
      · clear HC g3
        have C5_13 := C5.out.at 13 rfl
        obtain ⟨d, hd⟩ : ∃ d : Cd, d = { Cd.zero with adm := c.adm, cost := c.cost } := ⟨_, rfl⟩
        rw [if_pos rfl, ← hd] at HN
        have C5_1 := C5.out.at 1 rfl
        have C5_3 := C5.out.at 3 rfl
        go_upto_region 13 with (first | ((with_reducible refine cd_store ?_ ?_ (k5) d ?_ ?_ (cdl { c with role := 0 }) ?_ ?_ ?_); (· rfl); (· rfl); (· rfl); (· rw [hd]; rfl); (· rfl); (· exact C5.out.own)))
        clear hd C5_13 C5_1 C5_3
        replace T0 := Lib.hid (T0.out.apart_at (k' := k5) (cdl d) 0 (by omega))
        replace R1 := Lib.hid (R1.out.apart_at (k' := k5) (cdl d) 0 (by omega))
        replace G3 := Lib.hid (G3.out.apart_at (k' := k5) (cdl d) 0 (by omega))
        replace bel := Lib.hid (Bx.bel_put_at (k := k5) (cdl d) 0 (by omega) bel.out)
        replace C5 := Lib.hid (C5.out.full (m := (cdl d)) (rfl))
        generalize (w5.setCells (k5) 0 (cdl d)) = w6 at *
        have T9 := T0
        have C9 := C5
        replace R1 := Lib.hid (R1.out.apart_at (k' := w.heap.size) (cdl d) (14 + k * 31) (by omega))
        replace G3 := Lib.hid (G3.out.apart_at (k' := w.heap.size) (cdl d) (14 + k * 31) (by omega))
        replace C5 := Lib.hid (C5.out.apart_at (k' := w.heap.size) (cdl d) (14 + k * 31) (by omega))
        replace bel := Lib.hid (Bx.bel_put_at (k := w.heap.size) (cdl d) (14 + k * 31) (by omega) bel.out)
        replace T0 := Lib.hid ((Bx.Fre.put_at (cdl d) (14 + k * 31) T0.out).of (m := (tdl (Td.mk x.id x.own r.v r.t r.p (mixN (eleC x r) x.cs (k + 1))))) (HP.out d (HN.out)))
        go_wp2_with (first | ((with_reducible refine cc_store ?_ ?_ (w.heap.size) k hk ?_ d ?_ (Td.mk x.id x.own r.v r.t r.p (mixN (eleC x r) x.cs k)) ?_ ?_); (· rfl); (· rfl); (· rfl); (· rfl); (· exact T9.out)) | ((with_reducible refine cd_load ?_ ?_ (k5) ?_ d ?_ ?_); (· rfl); (· rfl); (· rfl); (· exact C9.out.blk)) | ((with_reducible refine td_load ?_ ?_ (w.heap.size) ?_ (Td.mk x.id x.own r.v r.t r.p (mixN (eleC x r) x.cs (k + 1))) ?_ ?_); (· rfl); (· rfl); (· rfl); (· exact T0.out.blk)) | ((with_reducible refine cs_load ?_ ?_ (w.heap.size) ?_ (Td.mk x.id x.own r.v r.t r.p (mixN (eleC x r) x.cs (k + 1))) ?_ ?_); (· rfl); (· rfl); (· rfl); (· exact T0.out.blk)) | ((with_reducible refine td_load ?_ ?_ (w.heap.size + 1) ?_ Td.zero ?_ ?_); (· rfl); (· rfl); (· rfl); (· exact R1.out.blk)) | ((with_reducible refine cs_load ?_ ?_ (w.heap.size + 1) ?_ Td.zero ?_ ?_); (· rfl); (· rfl); (· rfl); (· exact R1.out.blk)) | ((with_reducible refine i8_load ?_ ?_ (k3) ?_ (roleN x r) ?_ ?_); (· rfl); (· rfl); (· rfl); (· exact G3.out.blk)) | ((with_reducible refine cd_load ?_ ?_ (k5) ?_ d ?_ ?_); (· rfl); (· rfl); (· rfl); (· exact C5.out.blk)))
        go_roundg g
        case measure => omega
        case rel => exact ⟨k + 1, by omega, by go_num, T0.out, R1.out, G3.out, bel.out⟩
      · clear HC g3
        have C5_13 := C5.out.at 13 rfl
        rw [if_neg (by decide), if_neg (by decide)] at HN
        have C5_17 := C5.out.at 17 rfl
        have C5f17 := C5.out.2.2 17
        obtain ⟨d, hd⟩ : ∃ d : Cd, d = { c with role := 1, png := false } := ⟨_, rfl⟩
        rw [← hd] at HN
        replace T0 := Lib.hid (T0.out.other (k' := k5) (o := 17) (x := .bool false) (by omega))
        replace R1 := Lib.hid (R1.out.other (k' := k5) (o := 17) (x := .bool false) (by omega))
        replace G3 := Lib.hid (G3.out.other (k' := k5) (o := 17) (x := .bool false) (by omega))
        replace bel := Lib.hid (Bx.bel_set (k := k5) (o := 17) (x := .bool false) (by omega) bel.out)
        replace C5 := Lib.hid ((C5.out.set (17) (.bool false)).of (m := (cdl d)) (by rw [hd]; rfl))
        clear hd
        go_upto_region 13 with fail
        clear C5_13 C5_17 C5f17
        generalize (w5.setCell ⟨k5, 17, none⟩ (.bool false)) = w6 at *
        have T9 := T0
        have C9 := C5
        replace R1 := Lib.hid (R1.out.apart_at (k' := w.heap.size) (cdl d) (14 + k * 31) (by omega))
        replace G3 := Lib.hid (G3.out.apart_at (k' := w.heap.size) (cdl d) (14 + k * 31) (by omega))
        replace C5 := Lib.hid (C5.out.apart_at (k' := w.heap.size) (cdl d) (14 + k * 31) (by omega))
        replace bel := Lib.hid (Bx.bel_put_at (k := w.heap.size) (cdl d) (14 + k * 31) (by omega) bel.out)
        replace T0 := Lib.hid ((Bx.Fre.put_at (cdl d) (14 + k * 31) T0.out).of (m := (tdl (Td.mk x.id x.own r.v r.t r.p (mixN (eleC x r) x.cs (k + 1))))) (HP.out d (HN.out)))
        go_wp2_with (first | ((with_reducible refine cc_store ?_ ?_ (w.heap.size) k hk ?_ d ?_ (Td.mk x.id x.own r.v r.t r.p (mixN (eleC x r) x.cs k)) ?_ ?_); (· rfl); (· rfl); (· rfl); (· rfl); (· exact T9.out)) | ((with_reducible refine cd_load ?_ ?_ (k5) ?_ d ?_ ?_); (· rfl); (· rfl); (· rfl); (· exact C9.out.blk)) | ((with_reducible refine td_load ?_ ?_ (w.heap.size) ?_ (Td.mk x.id x.own r.v r.t r.p (mixN (eleC x r) x.cs (k + 1))) ?_ ?_); (· rfl); (· rfl); (· rfl); (· exact T0.out.blk)) | ((with_reducible refine cs_load ?_ ?_ (w.heap.size) ?_ (Td.mk x.id x.own r.v r.t r.p (mixN (eleC x r) x.cs (k + 1))) ?_ ?_); (· rfl); (· rfl); (· rfl); (· exact T0.out.blk)) | ((with_reducible refine td_load ?_ ?_ (w.heap.size + 1) ?_ Td.zero ?_ ?_); (· rfl); (· rfl); (· rfl); (· exact R1.out.blk)) | ((with_reducible refine cs_load ?_ ?_ (w.heap.size + 1) ?_ Td.zero ?_ ?_); (· rfl); (· rfl); (· rfl); (· exact R1.out.blk)) | ((with_reducible refine i8_load ?_ ?_ (k3) ?_ (roleN x r) ?_ ?_); (· rfl); (· rfl); (· rfl); (· exact G3.out.blk)) | ((with_reducible refine cd_load ?_ ?_ (k5) ?_ d ?_ ?_); (· rfl); (· rfl); (· rfl); (· exact C5.out.blk)))
        go_roundg g
        case measure => omega
        case rel => exact ⟨k + 1, by omega, by go_num, T0.out, R1.out, G3.out, bel.out⟩
      · clear HC g3
        have C5_13 := C5.out.at 13 rfl
        rw [if_neg (by decide), if_neg (by decide)] at HN
        have C5_17 := C5.out.at 17 rfl
        have C5f17 := C5.out.2.2 17
        obtain ⟨d, hd⟩ : ∃ d : Cd, d = { c with role := 2, png := false } := ⟨_, rfl⟩
        rw [← hd] at HN
        replace T0 := Lib.hid (T0.out.other (k' := k5) (o := 17) (x := .bool false) (by omega))
        replace R1 := Lib.hid (R1.out.other (k' := k5) (o := 17) (x := .bool false) (by omega))
        replace G3 := Lib.hid (G3.out.other (k' := k5) (o := 17) (x := .bool false) (by omega))
        replace bel := Lib.hid (Bx.bel_set (k := k5) (o := 17) (x := .bool false) (by omega) bel.out)
        replace C5 := Lib.hid ((C5.out.set (17) (.bool false)).of (m := (cdl d)) (by rw [hd]; rfl))
        clear hd
        go_upto_region 13 with fail
        clear C5_13 C5_17 C5f17
        generalize (w5.setCell ⟨k5, 17, none⟩ (.bool false)) = w6 at *
        have T9 := T0
        have C9 := C5
        replace R1 := Lib.hid (R1.out.apart_at (k' := w.heap.size) (cdl d) (14 + k * 31) (by omega))
        replace G3 := Lib.hid (G3.out.apart_at (k' := w.heap.size) (cdl d) (14 + k * 31) (by omega))
        replace C5 := Lib.hid (C5.out.apart_at (k' := w.heap.size) (cdl d) (14 + k * 31) (by omega))
        replace bel := Lib.hid (Bx.bel_put_at (k := w.heap.size) (cdl d) (14 + k * 31) (by omega) bel.out)
        replace T0 := Lib.hid ((Bx.Fre.put_at (cdl d) (14 + k * 31) T0.out).of (m := (tdl (Td.mk x.id x.own r.v r.t r.p (mixN (eleC x r) x.cs (k + 1))))) (HP.out d (HN.out)))
        go_wp2_with (first | ((with_reducible refine cc_store ?_ ?_ (w.heap.size) k hk ?_ d ?_ (Td.mk x.id x.own r.v r.t r.p (mixN (eleC x r) x.cs k)) ?_ ?_); (· rfl); (· rfl); (· rfl); (· rfl); (· exact T9.out)) | ((with_reducible refine cd_load ?_ ?_ (k5) ?_ d ?_ ?_); (· rfl); (· rfl); (· rfl); (· exact C9.out.blk)) | ((with_reducible refine td_load ?_ ?_ (w.heap.size) ?_ (Td.mk x.id x.own r.v r.t r.p (mixN (eleC x r) x.cs (k + 1))) ?_ ?_); (· rfl); (· rfl); (· rfl); (· exact T0.out.blk)) | ((with_reducible refine cs_load ?_ ?_ (w.heap.size) ?_ (Td.mk x.id x.own r.v r.t r.p (mixN (eleC x r) x.cs (k + 1))) ?_ ?_); (· rfl); (· rfl); (· rfl); (· exact T0.out.blk)) | ((with_reducible refine td_load ?_ ?_ (w.heap.size + 1) ?_ Td.zero ?_ ?_); (· rfl); (· rfl); (· rfl); (· exact R1.out.blk)) | ((with_reducible refine cs_load ?_ ?_ (w.heap.size + 1) ?_ Td.zero ?_ ?_); (· rfl); (· rfl); (· rfl); (· exact R1.out.blk)) | ((with_reducible refine i8_load ?_ ?_ (k3) ?_ (roleN x r) ?_ ?_); (· rfl); (· rfl); (· rfl); (· exact G3.out.blk)) | ((with_reducible refine cd_load ?_ ?_ (k5) ?_ d ?_ ?_); (· rfl); (· rfl); (· rfl); (· exact C5.out.blk)))
        go_roundg g
        case measure => omega
        case rel => exact ⟨k + 1, by omega, by go_num, T0.out, R1.out, G3.out, bel.out⟩
      · clear HC g3
        have C5_13 := C5.out.at 13 rfl
        rw [if_neg (by decide), if_pos rfl] at HN
        have HV := Lib.hid (fun w => ownv_any r.v x.id k hk w)
        have HD := Lib.hid (fun w => dsg_any { c with role := 3 } (desV r.v x.id k) r.t w)
        obtain ⟨d, hd⟩ : ∃ d : Cd, d = desC { c with role := 3 } (desV r.v x.id k) r.t := ⟨_, rfl⟩
        rw [← hd] at HN HD
        clear hd
        go_upto_region 12 with fail
        clear C5_13
        refine wp_region_noPanic ?_
        refine wp_region_held_drew (S := fun w' => w'.cell? ⟨w.heap.size, 5, none⟩ = some (.int .u64 r.v.r) ∧ w'.cell? ⟨w.heap.size, 6, none⟩ = some (.int .u64 r.v.c) ∧ w'.cell? ⟨w.heap.size, 7, none⟩ = some (.int .u64 r.v.b) ∧ w'.cell? ⟨w.heap.size, 8, none⟩ = some (.int .i64 r.v.p) ∧ w'.cell? ⟨w.heap.size, 0, none⟩ = some (.int .u64 x.id) ∧ w'.cell? ⟨w.heap.size, 9, none⟩ = some (.int .i64 r.t.a) ∧ w'.cell? ⟨w.heap.size, 10, none⟩ = some (.int .i64 r.t.m) ∧ w'.cell? ⟨w.heap.size, 11, none⟩ = some (.int .i64 r.t.h) ∧ w'.cell? ⟨w.heap.size, 12, none⟩ = some (.int .i64 r.t.d)) (by kernel_rfl) (by exact ⟨T0.out.at 5 (v := .int .u64 r.v.r) rfl, T0.out.at 6 (v := .int .u64 r.v.c) rfl, T0.out.at 7 (v := .int .u64 r.v.b) rfl, T0.out.at 8 (v := .int .i64 r.v.p) rfl, T0.out.at 0 (v := .int .u64 x.id) rfl, T0.out.at 9 (v := .int .i64 r.t.a) rfl, T0.out.at 10 (v := .int .i64 r.t.m) rfl, T0.out.at 11 (v := .int .i64 r.t.h) rfl, T0.out.at 12 (v := .int .i64 r.t.d) rfl⟩) (fun hHeld => ?_)
        refine wpAnyH_take (i := 1) (oi := ?ot1x1) (v := ?vt1x1) ?hit1x1 (by kernel_rfl) (by kernel_rfl) (by kernel_rfl) (fun _ _ _ h => h) ?yt1x1 (by assumption) ?rt1x1
        case hit1x1 => (simp only [List.getElem?_toArray, List.getElem?_cons_succ, List.getElem?_cons_zero]; rfl)
        case yt1x1 => (refine Or.inl ⟨by rfl, ?_⟩; intro w' hSw; (try dsimp only at hSw); go_simp; (try with_reducible rfl))
        try simp only [Act.put, List.setIfInBounds_toArray, List.set_cons_zero, List.set_cons_succ]
        refine wpAnyH_take (i := 2) (oi := ?ot1x2) (v := ?vt1x2) ?hit1x2 (by kernel_rfl) (by kernel_rfl) (by kernel_rfl) (fun _ _ _ h => h) ?yt1x2 (by assumption) ?rt1x2
        case hit1x2 => (simp only [List.getElem?_toArray, List.getElem?_cons_succ, List.getElem?_cons_zero]; rfl)
        case yt1x2 => (refine Or.inl ⟨by rfl, ?_⟩; intro w' hSw; (try dsimp only at hSw); go_simp; (try with_reducible rfl))
        try simp only [Act.put, List.setIfInBounds_toArray, List.set_cons_zero, List.set_cons_succ]
        refine wpAnyH_take (i := 3) (oi := ?ot1x3) (v := ?vt1x3) ?hit1x3 (by kernel_rfl) (by kernel_rfl) (by kernel_rfl) (fun _ _ _ h => h) ?yt1x3 (by assumption) ?rt1x3
        case hit1x3 => (simp only [List.getElem?_toArray, List.getElem?_cons_succ, List.getElem?_cons_zero]; rfl)
        case yt1x3 => (refine Or.inl ⟨by rfl, ?_⟩; intro w' hSw; (try dsimp only at hSw); go_simp; (try with_reducible rfl))
        try simp only [Act.put, List.setIfInBounds_toArray, List.set_cons_zero, List.set_cons_succ]
        refine wpAnyH_take (i := 4) (oi := ?ot1x4) (v := ?vt1x4) ?hit1x4 (by kernel_rfl) (by kernel_rfl) (by kernel_rfl) (fun _ _ _ h => h) ?yt1x4 (by assumption) ?rt1x4
        case hit1x4 => (simp only [List.getElem?_toArray, List.getElem?_cons_succ, List.getElem?_cons_zero]; rfl)
        case yt1x4 => (refine Or.inl ⟨by rfl, ?_⟩; intro w' hSw; (try dsimp only at hSw); go_simp; (try with_reducible rfl))
        try simp only [Act.put, List.setIfInBounds_toArray, List.set_cons_zero, List.set_cons_succ]
        refine wpAnyH_take (i := 5) (oi := ?ot1x5) (v := ?vt1x5) ?hit1x5 (by kernel_rfl) (by kernel_rfl) (by kernel_rfl) (fun _ _ _ h => h) ?yt1x5 (by assumption) ?rt1x5
        case hit1x5 => (simp only [List.getElem?_toArray, List.getElem?_cons_succ, List.getElem?_cons_zero]; rfl)
        case yt1x5 => (refine Or.inl ⟨by rfl, ?_⟩; intro w' hSw; (try dsimp only at hSw); go_simp; (try with_reducible rfl))
        try simp only [Act.put, List.setIfInBounds_toArray, List.set_cons_zero, List.set_cons_succ]
        refine wpAnyH_take (i := 7) (oi := ?ot1x6) (v := ?vt1x6) ?hit1x6 (by kernel_rfl) (by kernel_rfl) (by kernel_rfl) (fun _ _ _ h => h) ?yt1x6 (by assumption) ?rt1x6
        case hit1x6 => (simp only [List.getElem?_toArray, List.getElem?_cons_succ, List.getElem?_cons_zero]; rfl)
        case yt1x6 => (refine Or.inl ⟨by rfl, ?_⟩; intro w' hSw; (try dsimp only at hSw); go_simp; (try with_reducible rfl))
        try simp only [Act.put, List.setIfInBounds_toArray, List.set_cons_zero, List.set_cons_succ]
        refine wpAnyH_take (i := 8) (oi := ?ot1x7) (v := ?vt1x7) ?hit1x7 (by kernel_rfl) (by kernel_rfl) (by kernel_rfl) (fun _ _ _ h => h) ?yt1x7 (by assumption) ?rt1x7
        case hit1x7 => (simp only [List.getElem?_toArray, List.getElem?_cons_succ, List.getElem?_cons_zero]; rfl)
        case yt1x7 => (refine Or.inl ⟨by rfl, ?_⟩; intro w' hSw; (try dsimp only at hSw); go_simp; (try with_reducible rfl))
        try simp only [Act.put, List.setIfInBounds_toArray, List.set_cons_zero, List.set_cons_succ]
        refine wpAnyH_ready (rs := [0, 6]) (by kernel_rfl) (by simp) ?_
        refine AllReadyH.cons (o := ?ot1x8) ?hit1x8 ?hstt1x8 (AllReadyH.cons (o := ?ot1x9) ?hit1x9 ?hstt1x9 AllReadyH.nil)
        case hit1x8 => (simp only [List.getElem?_toArray, List.getElem?_cons_zero]; rfl)
        case hit1x9 => (simp only [List.getElem?_toArray, List.getElem?_cons_succ, List.getElem?_cons_zero]; rfl)
        case hstt1x8 =>
          intro K hK
          rw [if_pos (by rfl)]
          refine cdr_wp rfl (k5) rfl { c with role := 3 } C5.out.drew.blk ?_
          refine hK.out _ _ hHeld (fun _ => ?_)
          clear hK K
          try simp only [Act.put, List.setIfInBounds_toArray, List.set_cons_zero, List.set_cons_succ]
          refine wpAnyH_ready (rs := [6]) (by kernel_rfl) (by simp) ?_
          refine AllReadyH.cons (o := ?ot1x11) ?hit1x11 ?hstt1x11 AllReadyH.nil
          case hit1x11 => (simp only [List.getElem?_toArray, List.getElem?_cons_succ, List.getElem?_cons_zero]; rfl)
          intro K hK
          go_simp
          (go_at_call 32; (with_reducible refine (HV.out _).mono ?_); rintro e vt1x12 ⟨rfl, hb⟩)
          go_wp2_with fail
          refine hK.out _ _ ⟨Bx.keep_cell hb hHeld.1, Bx.keep_cell hb hHeld.2.1, Bx.keep_cell hb hHeld.2.2.1, Bx.keep_cell hb hHeld.2.2.2.1, Bx.keep_cell hb hHeld.2.2.2.2.1, Bx.keep_cell hb hHeld.2.2.2.2.2.1, Bx.keep_cell hb hHeld.2.2.2.2.2.2.1, Bx.keep_cell hb hHeld.2.2.2.2.2.2.2.1, Bx.keep_cell hb hHeld.2.2.2.2.2.2.2.2⟩ (fun hNew => ?_)
          clear hHeld
          have hHeld := hNew
          clear hNew hK K
          replace bel := Lib.hid (Bx.then_below (Bx.bel_drewn bel.out) hb)
          replace T0 := Lib.hid (T0.out.drew.keep hb)
          replace R1 := Lib.hid (R1.out.drew.keep hb)
          replace G3 := Lib.hid (G3.out.drew.keep hb)
          replace C5 := Lib.hid (C5.out.drew.keep hb)
          clear hb
          refine wpAnyH_ready (rs := [9]) (by kernel_rfl) (by simp) ?_
          refine AllReadyH.cons (o := ?ot1x13) ?hit1x13 ?hstt1x13 AllReadyH.nil
          case hit1x13 => (simp only [List.getElem?_toArray, List.getElem?_cons_succ, List.getElem?_cons_zero]; rfl)
          intro K hK
          go_simp
          (go_at_call 31; (with_reducible refine (HD.out _).mono ?_); rintro e vt1x14 ⟨rfl, hb⟩)
          go_wp2_with fail
          refine hK.out _ _ ⟨Bx.keep_cell hb hHeld.1, Bx.keep_cell hb hHeld.2.1, Bx.keep_cell hb hHeld.2.2.1, Bx.keep_cell hb hHeld.2.2.2.1, Bx.keep_cell hb hHeld.2.2.2.2.1, Bx.keep_cell hb hHeld.2.2.2.2.2.1, Bx.keep_cell hb hHeld.2.2.2.2.2.2.1, Bx.keep_cell hb hHeld.2.2.2.2.2.2.2.1, Bx.keep_cell hb hHeld.2.2.2.2.2.2.2.2⟩ (fun hNew => ?_)
          clear hHeld
          have hHeld := hNew
          clear hNew hK K
          replace bel := Lib.hid (Bx.then_below bel.out hb)
          replace T0 := Lib.hid (T0.out.keep hb)
          replace R1 := Lib.hid (R1.out.keep hb)
          replace G3 := Lib.hid (G3.out.keep hb)
          replace C5 := Lib.hid (C5.out.keep hb)
          clear hb
          refine wpAnyH_ready (rs := [10]) (by kernel_rfl) (by simp) ?_
          refine AllReadyH.cons (o := ?ot1x15) ?hit1x15 ?hstt1x15 AllReadyH.nil
          case hit1x15 => (simp only [List.getElem?_toArray, List.getElem?_cons_succ, List.getElem?_cons_zero]; rfl)
          intro K hK
          rw [if_pos (by rfl)]
          refine cdw_wp rfl (k5) rfl d rfl (cdl { c with role := 3 }) rfl C5.out ?_
          refine hK.out _ _ ⟨Bx.cell_apart_at _ _ (by omega) hHeld.1, Bx.cell_apart_at _ _ (by omega) hHeld.2.1, Bx.cell_apart_at _ _ (by omega) hHeld.2.2.1, Bx.cell_apart_at _ _ (by omega) hHeld.2.2.2.1, Bx.cell_apart_at _ _ (by omega) hHeld.2.2.2.2.1, Bx.cell_apart_at _ _ (by omega) hHeld.2.2.2.2.2.1, Bx.cell_apart_at _ _ (by omega) hHeld.2.2.2.2.2.2.1, Bx.cell_apart_at _ _ (by omega) hHeld.2.2.2.2.2.2.2.1, Bx.cell_apart_at _ _ (by omega) hHeld.2.2.2.2.2.2.2.2⟩ (fun hNew => ?_)
          clear hHeld
          have hHeld := hNew
          clear hNew hK K
          try simp only [Act.put]
          replace bel := Lib.hid (Bx.bel_put_at (k := k5) (cdl d) 0 (by omega) bel.out)
          replace T0 := Lib.hid (T0.out.apart_at (k' := k5) (cdl d) 0 (by omega))
          replace R1 := Lib.hid (R1.out.apart_at (k' := k5) (cdl d) 0 (by omega))
          replace G3 := Lib.hid (G3.out.apart_at (k' := k5) (cdl d) 0 (by omega))
          replace C5 := Lib.hid (C5.out.full (m := (cdl d)) rfl)
          generalize vt1x14.setCells (k5) 0 (cdl d) = vt1x16 at *
          refine wpAnyH_done (by kernel_rfl) ?_ _
          refine NoPanic.normal ?_
          have T9 := T0
          have C9 := C5
          replace R1 := Lib.hid (R1.out.apart_at (k' := w.heap.size) (cdl d) (14 + k * 31) (by omega))
          replace G3 := Lib.hid (G3.out.apart_at (k' := w.heap.size) (cdl d) (14 + k * 31) (by omega))
          replace C5 := Lib.hid (C5.out.apart_at (k' := w.heap.size) (cdl d) (14 + k * 31) (by omega))
          replace bel := Lib.hid (Bx.bel_put_at (k := w.heap.size) (cdl d) (14 + k * 31) (by omega) bel.out)
          replace T0 := Lib.hid ((Bx.Fre.put_at (cdl d) (14 + k * 31) T0.out).of (m := (tdl (Td.mk x.id x.own r.v r.t r.p (mixN (eleC x r) x.cs (k + 1))))) (HP.out d (HN.out)))
          go_wp2_with (first | ((with_reducible refine cc_store ?_ ?_ (w.heap.size) k hk ?_ d ?_ (Td.mk x.id x.own r.v r.t r.p (mixN (eleC x r) x.cs k)) ?_ ?_); (· rfl); (· rfl); (· rfl); (· rfl); (· exact T9.out)) | ((with_reducible refine cd_load ?_ ?_ (k5) ?_ d ?_ ?_); (· rfl); (· rfl); (· rfl); (· exact C9.out.blk)) | ((with_reducible refine td_load ?_ ?_ (w.heap.size) ?_ (Td.mk x.id x.own r.v r.t r.p (mixN (eleC x r) x.cs (k + 1))) ?_ ?_); (· rfl); (· rfl); (· rfl); (· exact T0.out.blk)) | ((with_reducible refine cs_load ?_ ?_ (w.heap.size) ?_ (Td.mk x.id x.own r.v r.t r.p (mixN (eleC x r) x.cs (k + 1))) ?_ ?_); (· rfl); (· rfl); (· rfl); (· exact T0.out.blk)) | ((with_reducible refine td_load ?_ ?_ (w.heap.size + 1) ?_ Td.zero ?_ ?_); (· rfl); (· rfl); (· rfl); (· exact R1.out.blk)) | ((with_reducible refine cs_load ?_ ?_ (w.heap.size + 1) ?_ Td.zero ?_ ?_); (· rfl); (· rfl); (· rfl); (· exact R1.out.blk)) | ((with_reducible refine i8_load ?_ ?_ (k3) ?_ (roleN x r) ?_ ?_); (· rfl); (· rfl); (· rfl); (· exact G3.out.blk)) | ((with_reducible refine cd_load ?_ ?_ (k5) ?_ d ?_ ?_); (· rfl); (· rfl); (· rfl); (· exact C5.out.blk)))
          go_roundg g
          case measure => omega
          case rel => exact ⟨k + 1, by omega, by go_num, T0.out, R1.out, G3.out, bel.out⟩
        case hstt1x9 =>
          intro K hK
          go_simp
          (go_at_call 32; (with_reducible refine (HV.out _).mono ?_); rintro e vt1x17 ⟨rfl, hb⟩)
          go_wp2_with fail
          refine hK.out _ _ ⟨Bx.keep_cell hb hHeld.1, Bx.keep_cell hb hHeld.2.1, Bx.keep_cell hb hHeld.2.2.1, Bx.keep_cell hb hHeld.2.2.2.1, Bx.keep_cell hb hHeld.2.2.2.2.1, Bx.keep_cell hb hHeld.2.2.2.2.2.1, Bx.keep_cell hb hHeld.2.2.2.2.2.2.1, Bx.keep_cell hb hHeld.2.2.2.2.2.2.2.1, Bx.keep_cell hb hHeld.2.2.2.2.2.2.2.2⟩ (fun hNew => ?_)
          clear hHeld
          have hHeld := hNew
          clear hNew hK K
          replace bel := Lib.hid (Bx.then_below (Bx.bel_drewn bel.out) hb)
          replace T0 := Lib.hid (T0.out.drew.keep hb)
          replace R1 := Lib.hid (R1.out.drew.keep hb)
          replace G3 := Lib.hid (G3.out.drew.keep hb)
          replace C5 := Lib.hid (C5.out.drew.keep hb)
          clear hb
          refine wpAnyH_ready (rs := [0]) (by kernel_rfl) (by simp) ?_
          refine AllReadyH.cons (o := ?ot1x18) ?hit1x18 ?hstt1x18 AllReadyH.nil
          case hit1x18 => (simp only [List.getElem?_toArray, List.getElem?_cons_zero]; rfl)
          intro K hK
          rw [if_pos (by rfl)]
          refine cdr_wp rfl (k5) rfl { c with role := 3 } C5.out.blk ?_
          refine hK.out _ _ hHeld (fun _ => ?_)
          clear hK K
          try simp only [Act.put, List.setIfInBounds_toArray, List.set_cons_zero, List.set_cons_succ]
          refine wpAnyH_ready (rs := [9]) (by kernel_rfl) (by simp) ?_
          refine AllReadyH.cons (o := ?ot1x20) ?hit1x20 ?hstt1x20 AllReadyH.nil
          case hit1x20 => (simp only [List.getElem?_toArray, List.getElem?_cons_succ, List.getElem?_cons_zero]; rfl)
          intro K hK
          go_simp
          (go_at_call 31; (with_reducible refine (HD.out _).mono ?_); rintro e vt1x21 ⟨rfl, hb⟩)
          go_wp2_with fail
          refine hK.out _ _ ⟨Bx.keep_cell hb hHeld.1, Bx.keep_cell hb hHeld.2.1, Bx.keep_cell hb hHeld.2.2.1, Bx.keep_cell hb hHeld.2.2.2.1, Bx.keep_cell hb hHeld.2.2.2.2.1, Bx.keep_cell hb hHeld.2.2.2.2.2.1, Bx.keep_cell hb hHeld.2.2.2.2.2.2.1, Bx.keep_cell hb hHeld.2.2.2.2.2.2.2.1, Bx.keep_cell hb hHeld.2.2.2.2.2.2.2.2⟩ (fun hNew => ?_)
          clear hHeld
          have hHeld := hNew
          clear hNew hK K
          replace bel := Lib.hid (Bx.then_below bel.out hb)
          replace T0 := Lib.hid (T0.out.keep hb)
          replace R1 := Lib.hid (R1.out.keep hb)
          replace G3 := Lib.hid (G3.out.keep hb)
          replace C5 := Lib.hid (C5.out.keep hb)
          clear hb
          refine wpAnyH_ready (rs := [10]) (by kernel_rfl) (by simp) ?_
          refine AllReadyH.cons (o := ?ot1x22) ?hit1x22 ?hstt1x22 AllReadyH.nil
          case hit1x22 => (simp only [List.getElem?_toArray, List.getElem?_cons_succ, List.getElem?_cons_zero]; rfl)
          intro K hK
          rw [if_pos (by rfl)]
          refine cdw_wp rfl (k5) rfl d rfl (cdl { c with role := 3 }) rfl C5.out ?_
          refine hK.out _ _ ⟨Bx.cell_apart_at _ _ (by omega) hHeld.1, Bx.cell_apart_at _ _ (by omega) hHeld.2.1, Bx.cell_apart_at _ _ (by omega) hHeld.2.2.1, Bx.cell_apart_at _ _ (by omega) hHeld.2.2.2.1, Bx.cell_apart_at _ _ (by omega) hHeld.2.2.2.2.1, Bx.cell_apart_at _ _ (by omega) hHeld.2.2.2.2.2.1, Bx.cell_apart_at _ _ (by omega) hHeld.2.2.2.2.2.2.1, Bx.cell_apart_at _ _ (by omega) hHeld.2.2.2.2.2.2.2.1, Bx.cell_apart_at _ _ (by omega) hHeld.2.2.2.2.2.2.2.2⟩ (fun hNew => ?_)
          clear hHeld
          have hHeld := hNew
          clear hNew hK K
          try simp only [Act.put]
          replace bel := Lib.hid (Bx.bel_put_at (k := k5) (cdl d) 0 (by omega) bel.out)
          replace T0 := Lib.hid (T0.out.apart_at (k' := k5) (cdl d) 0 (by omega))
          replace R1 := Lib.hid (R1.out.apart_at (k' := k5) (cdl d) 0 (by omega))
          replace G3 := Lib.hid (G3.out.apart_at (k' := k5) (cdl d) 0 (by omega))
          replace C5 := Lib.hid (C5.out.full (m := (cdl d)) rfl)
          generalize vt1x21.setCells (k5) 0 (cdl d) = vt1x23 at *
          refine wpAnyH_done (by kernel_rfl) ?_ _
          refine NoPanic.normal ?_
          have T9 := T0
          have C9 := C5
          replace R1 := Lib.hid (R1.out.apart_at (k' := w.heap.size) (cdl d) (14 + k * 31) (by omega))
          replace G3 := Lib.hid (G3.out.apart_at (k' := w.heap.size) (cdl d) (14 + k * 31) (by omega))
          replace C5 := Lib.hid (C5.out.apart_at (k' := w.heap.size) (cdl d) (14 + k * 31) (by omega))
          replace bel := Lib.hid (Bx.bel_put_at (k := w.heap.size) (cdl d) (14 + k * 31) (by omega) bel.out)
          replace T0 := Lib.hid ((Bx.Fre.put_at (cdl d) (14 + k * 31) T0.out).of (m := (tdl (Td.mk x.id x.own r.v r.t r.p (mixN (eleC x r) x.cs (k + 1))))) (HP.out d (HN.out)))
          go_wp2_with (first | ((with_reducible refine cc_store ?_ ?_ (w.heap.size) k hk ?_ d ?_ (Td.mk x.id x.own r.v r.t r.p (mixN (eleC x r) x.cs k)) ?_ ?_); (· rfl); (· rfl); (· rfl); (· rfl); (· exact T9.out)) | ((with_reducible refine cd_load ?_ ?_ (k5) ?_ d ?_ ?_); (· rfl); (· rfl); (· rfl); (· exact C9.out.blk)) | ((with_reducible refine td_load ?_ ?_ (w.heap.size) ?_ (Td.mk x.id x.own r.v r.t r.p (mixN (eleC x r) x.cs (k + 1))) ?_ ?_); (· rfl); (· rfl); (· rfl); (· exact T0.out.blk)) | ((with_reducible refine cs_load ?_ ?_ (w.heap.size) ?_ (Td.mk x.id x.own r.v r.t r.p (mixN (eleC x r) x.cs (k + 1))) ?_ ?_); (· rfl); (· rfl); (· rfl); (· exact T0.out.blk)) | ((with_reducible refine td_load ?_ ?_ (w.heap.size + 1) ?_ Td.zero ?_ ?_); (· rfl); (· rfl); (· rfl); (· exact R1.out.blk)) | ((with_reducible refine cs_load ?_ ?_ (w.heap.size + 1) ?_ Td.zero ?_ ?_); (· rfl); (· rfl); (· rfl); (· exact R1.out.blk)) | ((with_reducible refine i8_load ?_ ?_ (k3) ?_ (roleN x r) ?_ ?_); (· rfl); (· rfl); (· rfl); (· exact G3.out.blk)) | ((with_reducible refine cd_load ?_ ?_ (k5) ?_ d ?_ ?_); (· rfl); (· rfl); (· rfl); (· exact C5.out.blk)))
          go_roundg g
          case measure => omega
          case rel => exact ⟨k + 1, by omega, by go_num, T0.out, R1.out, G3.out, bel.out⟩

end Elt
end Go.Proofs.Ytkjdnmlaehjmgaa
