/-
  What the document's Elect answers.
-/
import Derived.Test.YtlaahomkgaaciaaEltE
import Derived.Test.YtlaahomkgaaciaaEltF
namespace Go.Proofs.Ytlaahomkgaaciaa
open Go.RowKit
namespace Elt
open Pre Crd Tre

set_option maxRecDepth 40000 in
set_option maxHeartbeats 8000000 in
theorem relect_any (x : Td) (w : World) : Calls Try.prog 11 #[tdv x] w fun e w' => e = .returned (tdv (eleT x)) ∧ Below w.heap.size w w' := by
  have HL : Hid (∀ w, Calls Try.prog 9 #[tdv x] w fun e w' => e = .returned (i8v (roleN x (rootR x))) ∧ Below w.heap.size w w') := Lib.hid (rroles_any x)
  have HR : Hid (∀ w, Calls Try.prog 7 #[tdv x] w fun e w' => e = .returned (.tuple #[vv (rootR x).v, tmv (rootR x).t, .int .i64 (rootR x).p]) ∧ Below w.heap.size w w') := Lib.hid (rroot_any x)
  have hE : tdv (eleT x) = tdv (Td.mk x.id x.own (rootR x).v (rootR x).t (rootR x).p (eleC x (rootR x))) := rfl
  rw [hE]
  clear hE
  obtain ⟨r, hr⟩ : ∃ r, r = rootR x := ⟨_, rfl⟩
  rw [← hr] at HL HR ⊢
  clear hr
  have hal := zero_at
  have T0 : Hid (Bx.Fre (w.alloc (tdo x)) w.heap.size (tdl x)) := Lib.hid (Bx.Fre.new w (tdl x) 31)
  have bel := Lib.hid (Bx.box_below w (tdo x))
  replace T0 := Lib.hid (T0.out.more (tdo Td.zero))
  have R1 : Hid (Bx.Fre ((w.alloc (tdo x)).alloc (tdo Td.zero)) (w.heap.size + 1) (tdl Td.zero)) := Lib.hid (Bx.Fre.new_at (W := (w.alloc (tdo x))) (k := w.heap.size + 1) (tdl Td.zero) 31 (by simp))
  replace bel := Lib.hid (Bx.bel_box bel.out (tdo Td.zero))
  go_enter Try.func11, Try.ntmps11
  go_wp2_with (first | ((with_reducible refine td_load ?_ ?_ (w.heap.size) ?_ x ?_ ?_); (· rfl); (· rfl); (· rfl); (· exact T0.out.blk)) | ((with_reducible refine cs_load ?_ ?_ (w.heap.size) ?_ x ?_ ?_); (· rfl); (· rfl); (· rfl); (· exact T0.out.blk)))
  clear hal
  refine (HL.out _).mono ?_; rintro e w1 ⟨rfl, hb⟩
  replace T0 := Lib.hid (T0.out.keep hb)
  replace R1 := Lib.hid (R1.out.keep hb)
  replace bel := Lib.hid (Bx.then_below bel.out hb)
  clear hb
  have h13 : w.heap.size + 1 < w1.heap.size := R1.out.2.1
  replace T0 := Lib.hid (T0.out.more (i8o (roleN x r)))
  replace R1 := Lib.hid (R1.out.more (i8o (roleN x r)))
  have G3 : Hid (Bx.Fre (w1.alloc (i8o (roleN x r))) w1.heap.size (i8 (roleN x r))) := Lib.hid (Bx.Fre.new w1 (i8 (roleN x r)) 34)
  replace bel := Lib.hid (Bx.bel_box bel.out (i8o (roleN x r)))
  go_wp2_with (first | ((with_reducible refine i8_fresh ?_ ?_ (w1.heap.size) (roleN x r) ?_ ?_ w1 (i8 (fun _ => 0)) ?_ ?_ ?_ ?_); (· rfl); (· rfl); (· rfl); (· rfl); (· rfl); (· rfl); (· first | rfl | (simp; done))) | ((with_reducible refine td_load ?_ ?_ (w.heap.size) ?_ x ?_ ?_); (· rfl); (· rfl); (· rfl); (· exact T0.out.blk)) | ((with_reducible refine cs_load ?_ ?_ (w.heap.size) ?_ x ?_ ?_); (· rfl); (· rfl); (· rfl); (· exact T0.out.blk)))
  obtain ⟨k3, hk3⟩ : ∃ k, k = w1.heap.size := ⟨_, rfl⟩
  rw [← hk3] at G3 h13 ⊢
  generalize (w1.alloc (i8o (roleN x r))) = W2 at *
  clear hk3
  refine (HR.out _).mono ?_; rintro e w2 ⟨rfl, hb⟩
  replace T0 := Lib.hid (T0.out.keep hb)
  replace R1 := Lib.hid (R1.out.keep hb)
  replace G3 := Lib.hid (G3.out.keep hb)
  replace bel := Lib.hid (Bx.then_below bel.out hb)
  clear hb
  have F1 := T0
  replace R1 := Lib.hid (R1.out.apart_at (k' := w.heap.size) (enc r.v) (5) (by omega))
  replace G3 := Lib.hid (G3.out.apart_at (k' := w.heap.size) (enc r.v) (5) (by omega))
  replace bel := Lib.hid (Bx.bel_put_at (k := w.heap.size) (enc r.v) (5) (by omega) bel.out)
  replace T0 := Lib.hid ((Bx.Fre.put_at (enc r.v) (5) T0.out).of (m := (tdl (Td.mk x.id x.own r.v x.times x.port x.cs))) (rfl))
  have F2 := T0
  replace R1 := Lib.hid (R1.out.apart_at (k' := w.heap.size) (tenc r.t) (9) (by omega))
  replace G3 := Lib.hid (G3.out.apart_at (k' := w.heap.size) (tenc r.t) (9) (by omega))
  replace bel := Lib.hid (Bx.bel_put_at (k := w.heap.size) (tenc r.t) (9) (by omega) bel.out)
  replace T0 := Lib.hid ((Bx.Fre.put_at (tenc r.t) (9) T0.out).of (m := (tdl (Td.mk x.id x.own r.v r.t x.port x.cs))) (rfl))
  have T0_13 := T0.out.at 13 (v := .int .i64 x.port) rfl
  have T0f13 := T0.out.2.2 13
  replace R1 := Lib.hid (R1.out.other (k' := w.heap.size) (o := 13) (x := .int .i64 r.p) (by omega))
  replace G3 := Lib.hid (G3.out.other (k' := w.heap.size) (o := 13) (x := .int .i64 r.p) (by omega))
  replace bel := Lib.hid (Bx.bel_set (k := w.heap.size) (o := 13) (x := .int .i64 r.p) (by omega) bel.out)
  replace T0 := Lib.hid ((T0.out.set (13) (.int .i64 r.p)).of (m := (tdl (Td.mk x.id x.own r.v r.t r.p x.cs))) (by first | rfl | simp [enc, tenc]))
  go_upto_region 3 with (first | ((with_reducible refine vec_put ?_ ?_ (w.heap.size) 5 ?_ r.v ?_ (tdl x) ?_ ?_ ?_); (· rfl); (· rfl); (· rfl); (· rfl); (· rw [tdl_len]; omega); (· exact F1.out)) | ((with_reducible refine tm_put ?_ ?_ (w.heap.size) 9 ?_ r.t ?_ (tdl (Td.mk x.id x.own r.v x.times x.port x.cs)) ?_ ?_ ?_); (· rfl); (· rfl); (· rfl); (· rfl); (· rw [tdl_len]; omega); (· exact F2.out)))
  clear F1 F2 T0_13 T0f13
  generalize (((w2.setCells (w.heap.size) (5) (enc r.v)).setCells (w.heap.size) (9) (tenc r.t)).setCell ⟨w.heap.size, 13, none⟩ (.int .i64 r.p)) = W4 at *
  go_wp2_with (first | ((with_reducible refine td_load ?_ ?_ (w.heap.size) ?_ (Td.mk x.id x.own r.v r.t r.p x.cs) ?_ ?_); (· rfl); (· rfl); (· rfl); (· exact T0.out.blk)) | ((with_reducible refine cs_load ?_ ?_ (w.heap.size) ?_ (Td.mk x.id x.own r.v r.t r.p x.cs) ?_ ?_); (· rfl); (· rfl); (· rfl); (· exact T0.out.blk)))
  replace T0 := Lib.hid (T0.out.of (m := tdl (Td.mk x.id x.own r.v r.t r.p (mixN (eleC x r) x.cs 0))) (by rw [mix_none]))
  go_loopg [20] 8 (fun g sk wr => ∃ k : Nat, k + g = 8 ∧ sk = .int .i64 k ∧ Aside (Bx.Fre wr w.heap.size (tdl (Td.mk x.id x.own r.v r.t r.p (mixN (eleC x r) x.cs k)))) ∧ Aside (Bx.Fre wr (w.heap.size + 1) (tdl Td.zero)) ∧ Aside (Bx.Fre wr k3 (i8 (roleN x r))) ∧ Aside (Below w.heap.size w wr))
  case atStart => exact ⟨0, by omega, rfl, T0.out, R1.out, G3.out, bel.out⟩
  case round =>
    clear T0 R1 G3 bel W4
    obtain ⟨k, hkg, rfl, T0, R1, G3, bel⟩ := hrel
    cases gk with
    | zero =>
      have hkz : ¬ ((k : Int) < 8) := by omega
      obtain rfl : k = 8 := by omega
      replace T0 := Lib.hid (T0.out.of (m := tdl (Td.mk x.id x.own r.v r.t r.p (eleC x r))) (mix_all (Td.mk x.id x.own r.v r.t r.p (eleC x r)) (eleC x r) x.cs))
      go_wp2_with (first | ((with_reducible refine td_store ?_ ?_ (w.heap.size + 1) (Td.mk x.id x.own r.v r.t r.p (eleC x r)) ?_ ?_ (tdl Td.zero) ?_ ?_ ?_); (· rfl); (· rfl); (· rfl); (· rfl); (· exact tdl_len _); (· exact R1.out.own)) | ((with_reducible refine td_load ?_ ?_ (w.heap.size) ?_ (Td.mk x.id x.own r.v r.t r.p (eleC x r)) ?_ ?_); (· rfl); (· rfl); (· rfl); (· exact T0.out.blk)) | ((with_reducible refine cs_load ?_ ?_ (w.heap.size) ?_ (Td.mk x.id x.own r.v r.t r.p (eleC x r)) ?_ ?_); (· rfl); (· rfl); (· rfl); (· exact T0.out.blk)))
      replace T0 := Lib.hid (T0.out.apart_at (k' := w.heap.size + 1) (tdl (Td.mk x.id x.own r.v r.t r.p (eleC x r))) 0 (by omega))
      replace G3 := Lib.hid (G3.out.apart_at (k' := w.heap.size + 1) (tdl (Td.mk x.id x.own r.v r.t r.p (eleC x r))) 0 (by omega))
      replace bel := Lib.hid (Bx.bel_put_at (k := w.heap.size + 1) (tdl (Td.mk x.id x.own r.v r.t r.p (eleC x r))) 0 (by omega) bel.out)
      replace R1 := Lib.hid (R1.out.full (m := (tdl (Td.mk x.id x.own r.v r.t r.p (eleC x r)))) (by rw [tdl_len, tdl_len]))
      exact bodyPost_ret (v := tdv (Td.mk x.id x.own r.v r.t r.p (eleC x r))) (td_result Try.results11 rfl R1.out.blk) rfl ⟨rfl, bel.out⟩
    | succ g =>
      have hkz : (k : Int) < 8 := by omega
      have hk0 : (0 : Int) ≤ k := by omega
      have hk : k < 8 := by omega
      have hix := index_at x.cs k hk
      have HP := Lib.hid (fun c hc => set_port x.id x.own r.v r.t r.p (eleC x r) x.cs k hk c hc)
      have g3 := Lib.hid (i8_get (roleN x r) k hk)
      have HN := Lib.hid (show eleC x r k = if roleN x r k = 0 then { Cd.zero with adm := (x.cs k).adm, cost := (x.cs k).cost } else if roleN x r k = 3 then desC { x.cs k with role := 3 } (desV r.v x.id k) r.t else { x.cs k with role := roleN x r k, png := false } from rfl)
      have HC := Lib.hid (roleN_cases x r k)
      obtain ⟨q, hq⟩ : ∃ q, q = roleN x r k := ⟨_, rfl⟩
      rw [← hq] at g3 HN HC
      clear hq
      obtain ⟨c, hc⟩ : ∃ c, c = x.cs k := ⟨_, rfl⟩
      rw [← hc] at hix HN
      clear hc
      have h53 : k3 < wr.heap.size := G3.out.2.1
      have h51 : w.heap.size + 1 < wr.heap.size := R1.out.2.1
      replace T0 := Lib.hid (T0.out.more (cdo c))
      replace R1 := Lib.hid (R1.out.more (cdo c))
      replace G3 := Lib.hid (G3.out.more (cdo c))
      have C5 : Hid (Bx.Fre (wr.alloc (cdo c)) wr.heap.size (cdl c)) := Lib.hid (Bx.Fre.new wr (cdl c) 28)
      replace bel := Lib.hid (Bx.bel_box bel.out (cdo c))
      go_upto_region 6 with (first | ((with_reducible refine cd_fresh ?_ ?_ (wr.heap.size) c ?_ ?_ wr (cdl Cd.zero) ?_ ?_ ?_ ?_); (· rfl); (· rfl); (· rfl); (· rfl); (· rfl); (· rfl); (· first | rfl | (simp; done))))
      clear hix
      obtain ⟨k5, hk5⟩ : ∃ k, k = wr.heap.size := ⟨_, rfl⟩
      rw [← hk5] at C5 h53 h51 ⊢
      generalize wr.alloc (cdo c) = w0 at *
      clear hk5 wr
      have hw1 : IntKind.i64.wrap ((k : Int) + 1) = (k : Int) + 1 := by rw [IntKind.wrap_i64]; omega
      have HO : Hid (∀ w, Calls Try.prog 25 #[vv r.v, .int .u64 x.id, .int .i64 ((k : Int) + 1)] w fun e w' => e = .returned (vv (desV r.v x.id k)) ∧ Below w.heap.size w w') := Lib.hid (fun w => rdes_any r.v x.id ((k : Int) + 1) w)
      obtain ⟨m, hm⟩ : ∃ m, m = desV r.v x.id k := ⟨_, rfl⟩
      rw [← hm] at HO HN
      clear hm
      have T0_0 := T0.out.at 0 (v := .int .u64 x.id) rfl
      have T0_5 := T0.out.at 5 (v := .int .u64 r.v.r) rfl
      have T0_6 := T0.out.at 6 (v := .int .u64 r.v.c) rfl
      have T0_7 := T0.out.at 7 (v := .int .u64 r.v.b) rfl
      have T0_8 := T0.out.at 8 (v := .int .i64 r.v.p) rfl
      go_wp2_with (first | ((with_reducible refine td_load ?_ ?_ (w.heap.size) ?_ (Td.mk x.id x.own r.v r.t r.p (mixN (eleC x r) x.cs k)) ?_ ?_); (· rfl); (· rfl); (· rfl); (· exact T0.out.blk)) | ((with_reducible refine cs_load ?_ ?_ (w.heap.size) ?_ (Td.mk x.id x.own r.v r.t r.p (mixN (eleC x r) x.cs k)) ?_ ?_); (· rfl); (· rfl); (· rfl); (· exact T0.out.blk)) | ((with_reducible refine td_load ?_ ?_ (w.heap.size + 1) ?_ Td.zero ?_ ?_); (· rfl); (· rfl); (· rfl); (· exact R1.out.blk)) | ((with_reducible refine cs_load ?_ ?_ (w.heap.size + 1) ?_ Td.zero ?_ ?_); (· rfl); (· rfl); (· rfl); (· exact R1.out.blk)) | ((with_reducible refine i8_load ?_ ?_ (k3) ?_ (roleN x r) ?_ ?_); (· rfl); (· rfl); (· rfl); (· exact G3.out.blk)) | ((with_reducible refine cd_load ?_ ?_ (k5) ?_ c ?_ ?_); (· rfl); (· rfl); (· rfl); (· exact C5.out.blk)))
      clear T0_0 T0_5 T0_6 T0_7 T0_8
      refine (HO.out _).mono ?_; rintro e w1 ⟨rfl, hb⟩
      replace T0 := Lib.hid (T0.out.keep hb)
      replace R1 := Lib.hid (R1.out.keep hb)
      replace G3 := Lib.hid (G3.out.keep hb)
      replace C5 := Lib.hid (C5.out.keep hb)
      replace bel := Lib.hid (Bx.then_below bel.out hb)
      clear hb
      have h65 : k5 < w1.heap.size := C5.out.2.1
      have h63 : k3 < w1.heap.size := G3.out.2.1
      have h61 : w.heap.size + 1 < w1.heap.size := R1.out.2.1
      replace T0 := Lib.hid (T0.out.more (vo m))
      replace R1 := Lib.hid (R1.out.more (vo m))
      replace G3 := Lib.hid (G3.out.more (vo m))
      replace C5 := Lib.hid (C5.out.more (vo m))
      have M6 : Hid (Bx.Fre (w1.alloc (vo m)) w1.heap.size (enc m)) := Lib.hid (Bx.Fre.new w1 (enc m) 26)
      replace bel := Lib.hid (Bx.bel_box bel.out (vo m))
      go_upto_region 7 with fail
      obtain ⟨k6, hk6⟩ : ∃ k, k = w1.heap.size := ⟨_, rfl⟩
      rw [← hk6] at M6 h65 h63 h61 ⊢
      generalize w1.alloc (vo m) = w2 at *
      clear hk6
      rcases HC.out with rfl | rfl | rfl | rfl
      · clear HC
        obtain ⟨d, hd⟩ : ∃ d : Cd, d = { Cd.zero with adm := c.adm, cost := c.cost } := ⟨_, rfl⟩
        rw [if_pos rfl, ← hd] at HN
        have C5_1 := C5.out.at 1 rfl
        have C5_3 := C5.out.at 3 rfl
        have gq := G3.out.at k g3.out
        go_upto_region 16 with (first | ((with_reducible refine cd_store ?_ ?_ (k5) d ?_ ?_ (cdl c) ?_ ?_ ?_); (· rfl); (· rfl); (· rfl); (· rw [hd]; rfl); (· rfl); (· exact C5.out.own)))
        clear C5_1 C5_3 gq
        replace T0 := Lib.hid (T0.out.apart_at (k' := k5) (cdl d) 0 (by omega))
        replace R1 := Lib.hid (R1.out.apart_at (k' := k5) (cdl d) 0 (by omega))
        replace G3 := Lib.hid (G3.out.apart_at (k' := k5) (cdl d) 0 (by omega))
        replace M6 := Lib.hid (M6.out.apart_at (k' := k5) (cdl d) 0 (by omega))
        replace bel := Lib.hid (Bx.bel_put_at (k := k5) (cdl d) 0 (by omega) bel.out)
        replace C5 := Lib.hid (C5.out.full (m := (cdl d)) (rfl))
        generalize (w2.setCells (k5) 0 (cdl d)) = w6 at *
        have gq := G3.out.at k g3.out
        have C5_13 := C5.out.at 13 rfl
        have C5f13 := C5.out.2.2 13
        replace T0 := Lib.hid (T0.out.other (k' := k5) (o := 13) (x := .int .i64 0) (by omega))
        replace R1 := Lib.hid (R1.out.other (k' := k5) (o := 13) (x := .int .i64 0) (by omega))
        replace G3 := Lib.hid (G3.out.other (k' := k5) (o := 13) (x := .int .i64 0) (by omega))
        replace M6 := Lib.hid (M6.out.other (k' := k5) (o := 13) (x := .int .i64 0) (by omega))
        replace bel := Lib.hid (Bx.bel_set (k := k5) (o := 13) (x := .int .i64 0) (by omega) bel.out)
        replace C5 := Lib.hid ((C5.out.set (13) (.int .i64 0)).of (m := (cdl d)) (by rw [hd]; rfl))
        go_upto_region 17 with fail
        clear hd
        clear gq C5_13 C5f13
        generalize (w6.setCell ⟨k5, 13, none⟩ (.int .i64 0)) = w7 at *
        have T9 := T0
        have C9 := C5
        replace R1 := Lib.hid (R1.out.apart_at (k' := w.heap.size) (cdl d) (14 + k * 31) (by omega))
        replace G3 := Lib.hid (G3.out.apart_at (k' := w.heap.size) (cdl d) (14 + k * 31) (by omega))
        replace C5 := Lib.hid (C5.out.apart_at (k' := w.heap.size) (cdl d) (14 + k * 31) (by omega))
        replace M6 := Lib.hid (M6.out.apart_at (k' := w.heap.size) (cdl d) (14 + k * 31) (by omega))
        replace bel := Lib.hid (Bx.bel_put_at (k := w.heap.size) (cdl d) (14 + k * 31) (by omega) bel.out)
        replace T0 := Lib.hid ((Bx.Fre.put_at (cdl d) (14 + k * 31) T0.out).of (m := (tdl (Td.mk x.id x.own r.v r.t r.p (mixN (eleC x r) x.cs (k + 1))))) (HP.out d (HN.out)))
        go_wp2_with (first | ((with_reducible refine cc_store ?_ ?_ (w.heap.size) k hk ?_ d ?_ (Td.mk x.id x.own r.v r.t r.p (mixN (eleC x r) x.cs k)) ?_ ?_); (· rfl); (· rfl); (· rfl); (· rfl); (· exact T9.out)) | ((with_reducible refine cd_load ?_ ?_ (k5) ?_ d ?_ ?_); (· rfl); (· rfl); (· rfl); (· exact C9.out.blk)) | ((with_reducible refine td_load ?_ ?_ (w.heap.size) ?_ (Td.mk x.id x.own r.v r.t r.p (mixN (eleC x r) x.cs (k + 1))) ?_ ?_); (· rfl); (· rfl); (· rfl); (· exact T0.out.blk)) | ((with_reducible refine cs_load ?_ ?_ (w.heap.size) ?_ (Td.mk x.id x.own r.v r.t r.p (mixN (eleC x r) x.cs (k + 1))) ?_ ?_); (· rfl); (· rfl); (· rfl); (· exact T0.out.blk)) | ((with_reducible refine td_load ?_ ?_ (w.heap.size + 1) ?_ Td.zero ?_ ?_); (· rfl); (· rfl); (· rfl); (· exact R1.out.blk)) | ((with_reducible refine cs_load ?_ ?_ (w.heap.size + 1) ?_ Td.zero ?_ ?_); (· rfl); (· rfl); (· rfl); (· exact R1.out.blk)) | ((with_reducible refine i8_load ?_ ?_ (k3) ?_ (roleN x r) ?_ ?_); (· rfl); (· rfl); (· rfl); (· exact G3.out.blk)) | ((with_reducible refine cd_load ?_ ?_ (k5) ?_ d ?_ ?_); (· rfl); (· rfl); (· rfl); (· exact C5.out.blk)))
        go_roundg g
        case measure => omega
        case rel => exact ⟨k + 1, by omega, by go_num, T0.out, R1.out, G3.out, bel.out⟩
      · clear HC
        rw [if_neg (by decide), if_neg (by decide)] at HN
        obtain ⟨d, hd⟩ : ∃ d : Cd, d = { c with role := 1, png := false } := ⟨_, rfl⟩
        rw [← hd] at HN
        have gq := G3.out.at k g3.out
        have C5_17 := C5.out.at 17 rfl
        have C5f17 := C5.out.2.2 17
        replace T0 := Lib.hid (T0.out.other (k' := k5) (o := 17) (x := .bool false) (by omega))
        replace R1 := Lib.hid (R1.out.other (k' := k5) (o := 17) (x := .bool false) (by omega))
        replace G3 := Lib.hid (G3.out.other (k' := k5) (o := 17) (x := .bool false) (by omega))
        replace M6 := Lib.hid (M6.out.other (k' := k5) (o := 17) (x := .bool false) (by omega))
        replace bel := Lib.hid (Bx.bel_set (k := k5) (o := 17) (x := .bool false) (by omega) bel.out)
        replace C5 := Lib.hid ((C5.out.set (17) (.bool false)).of (m := (cdl { c with png := false })) (by first | rfl | simp [enc, tenc]))
        go_upto_region 16 with fail
        clear gq C5_17 C5f17
        generalize (w2.setCell ⟨k5, 17, none⟩ (.bool false)) = w6 at *
        have gq := G3.out.at k g3.out
        have C5_13 := C5.out.at 13 rfl
        have C5f13 := C5.out.2.2 13
        replace T0 := Lib.hid (T0.out.other (k' := k5) (o := 13) (x := .int .i64 1) (by omega))
        replace R1 := Lib.hid (R1.out.other (k' := k5) (o := 13) (x := .int .i64 1) (by omega))
        replace G3 := Lib.hid (G3.out.other (k' := k5) (o := 13) (x := .int .i64 1) (by omega))
        replace M6 := Lib.hid (M6.out.other (k' := k5) (o := 13) (x := .int .i64 1) (by omega))
        replace bel := Lib.hid (Bx.bel_set (k := k5) (o := 13) (x := .int .i64 1) (by omega) bel.out)
        replace C5 := Lib.hid ((C5.out.set (13) (.int .i64 1)).of (m := (cdl d)) (by rw [hd]; rfl))
        go_upto_region 17 with fail
        clear hd
        clear gq C5_13 C5f13
        generalize (w6.setCell ⟨k5, 13, none⟩ (.int .i64 1)) = w7 at *
        have T9 := T0
        have C9 := C5
        replace R1 := Lib.hid (R1.out.apart_at (k' := w.heap.size) (cdl d) (14 + k * 31) (by omega))
        replace G3 := Lib.hid (G3.out.apart_at (k' := w.heap.size) (cdl d) (14 + k * 31) (by omega))
        replace C5 := Lib.hid (C5.out.apart_at (k' := w.heap.size) (cdl d) (14 + k * 31) (by omega))
        replace M6 := Lib.hid (M6.out.apart_at (k' := w.heap.size) (cdl d) (14 + k * 31) (by omega))
        replace bel := Lib.hid (Bx.bel_put_at (k := w.heap.size) (cdl d) (14 + k * 31) (by omega) bel.out)
        replace T0 := Lib.hid ((Bx.Fre.put_at (cdl d) (14 + k * 31) T0.out).of (m := (tdl (Td.mk x.id x.own r.v r.t r.p (mixN (eleC x r) x.cs (k + 1))))) (HP.out d (HN.out)))
        go_wp2_with (first | ((with_reducible refine cc_store ?_ ?_ (w.heap.size) k hk ?_ d ?_ (Td.mk x.id x.own r.v r.t r.p (mixN (eleC x r) x.cs k)) ?_ ?_); (· rfl); (· rfl); (· rfl); (· rfl); (· exact T9.out)) | ((with_reducible refine cd_load ?_ ?_ (k5) ?_ d ?_ ?_); (· rfl); (· rfl); (· rfl); (· exact C9.out.blk)) | ((with_reducible refine td_load ?_ ?_ (w.heap.size) ?_ (Td.mk x.id x.own r.v r.t r.p (mixN (eleC x r) x.cs (k + 1))) ?_ ?_); (· rfl); (· rfl); (· rfl); (· exact T0.out.blk)) | ((with_reducible refine cs_load ?_ ?_ (w.heap.size) ?_ (Td.mk x.id x.own r.v r.t r.p (mixN (eleC x r) x.cs (k + 1))) ?_ ?_); (· rfl); (· rfl); (· rfl); (· exact T0.out.blk)) | ((with_reducible refine td_load ?_ ?_ (w.heap.size + 1) ?_ Td.zero ?_ ?_); (· rfl); (· rfl); (· rfl); (· exact R1.out.blk)) | ((with_reducible refine cs_load ?_ ?_ (w.heap.size + 1) ?_ Td.zero ?_ ?_); (· rfl); (· rfl); (· rfl); (· exact R1.out.blk)) | ((with_reducible refine i8_load ?_ ?_ (k3) ?_ (roleN x r) ?_ ?_); (· rfl); (· rfl); (· rfl); (· exact G3.out.blk)) | ((with_reducible refine cd_load ?_ ?_ (k5) ?_ d ?_ ?_); (· rfl); (· rfl); (· rfl); (· exact C5.out.blk)))
        go_roundg g
        case measure => omega
        case rel => exact ⟨k + 1, by omega, by go_num, T0.out, R1.out, G3.out, bel.out⟩
      · clear HC
        rw [if_neg (by decide), if_neg (by decide)] at HN
        obtain ⟨d, hd⟩ : ∃ d : Cd, d = { c with role := 2, png := false } := ⟨_, rfl⟩
        rw [← hd] at HN
        have gq := G3.out.at k g3.out
        have C5_17 := C5.out.at 17 rfl
        have C5f17 := C5.out.2.2 17
        replace T0 := Lib.hid (T0.out.other (k' := k5) (o := 17) (x := .bool false) (by omega))
        replace R1 := Lib.hid (R1.out.other (k' := k5) (o := 17) (x := .bool false) (by omega))
        replace G3 := Lib.hid (G3.out.other (k' := k5) (o := 17) (x := .bool false) (by omega))
        replace M6 := Lib.hid (M6.out.other (k' := k5) (o := 17) (x := .bool false) (by omega))
        replace bel := Lib.hid (Bx.bel_set (k := k5) (o := 17) (x := .bool false) (by omega) bel.out)
        replace C5 := Lib.hid ((C5.out.set (17) (.bool false)).of (m := (cdl { c with png := false })) (by first | rfl | simp [enc, tenc]))
        go_upto_region 16 with fail
        clear gq C5_17 C5f17
        generalize (w2.setCell ⟨k5, 17, none⟩ (.bool false)) = w6 at *
        have gq := G3.out.at k g3.out
        have C5_13 := C5.out.at 13 rfl
        have C5f13 := C5.out.2.2 13
        replace T0 := Lib.hid (T0.out.other (k' := k5) (o := 13) (x := .int .i64 2) (by omega))
        replace R1 := Lib.hid (R1.out.other (k' := k5) (o := 13) (x := .int .i64 2) (by omega))
        replace G3 := Lib.hid (G3.out.other (k' := k5) (o := 13) (x := .int .i64 2) (by omega))
        replace M6 := Lib.hid (M6.out.other (k' := k5) (o := 13) (x := .int .i64 2) (by omega))
        replace bel := Lib.hid (Bx.bel_set (k := k5) (o := 13) (x := .int .i64 2) (by omega) bel.out)
        replace C5 := Lib.hid ((C5.out.set (13) (.int .i64 2)).of (m := (cdl d)) (by rw [hd]; rfl))
        go_upto_region 17 with fail
        clear hd
        clear gq C5_13 C5f13
        generalize (w6.setCell ⟨k5, 13, none⟩ (.int .i64 2)) = w7 at *
        have T9 := T0
        have C9 := C5
        replace R1 := Lib.hid (R1.out.apart_at (k' := w.heap.size) (cdl d) (14 + k * 31) (by omega))
        replace G3 := Lib.hid (G3.out.apart_at (k' := w.heap.size) (cdl d) (14 + k * 31) (by omega))
        replace C5 := Lib.hid (C5.out.apart_at (k' := w.heap.size) (cdl d) (14 + k * 31) (by omega))
        replace M6 := Lib.hid (M6.out.apart_at (k' := w.heap.size) (cdl d) (14 + k * 31) (by omega))
        replace bel := Lib.hid (Bx.bel_put_at (k := w.heap.size) (cdl d) (14 + k * 31) (by omega) bel.out)
        replace T0 := Lib.hid ((Bx.Fre.put_at (cdl d) (14 + k * 31) T0.out).of (m := (tdl (Td.mk x.id x.own r.v r.t r.p (mixN (eleC x r) x.cs (k + 1))))) (HP.out d (HN.out)))
        go_wp2_with (first | ((with_reducible refine cc_store ?_ ?_ (w.heap.size) k hk ?_ d ?_ (Td.mk x.id x.own r.v r.t r.p (mixN (eleC x r) x.cs k)) ?_ ?_); (· rfl); (· rfl); (· rfl); (· rfl); (· exact T9.out)) | ((with_reducible refine cd_load ?_ ?_ (k5) ?_ d ?_ ?_); (· rfl); (· rfl); (· rfl); (· exact C9.out.blk)) | ((with_reducible refine td_load ?_ ?_ (w.heap.size) ?_ (Td.mk x.id x.own r.v r.t r.p (mixN (eleC x r) x.cs (k + 1))) ?_ ?_); (· rfl); (· rfl); (· rfl); (· exact T0.out.blk)) | ((with_reducible refine cs_load ?_ ?_ (w.heap.size) ?_ (Td.mk x.id x.own r.v r.t r.p (mixN (eleC x r) x.cs (k + 1))) ?_ ?_); (· rfl); (· rfl); (· rfl); (· exact T0.out.blk)) | ((with_reducible refine td_load ?_ ?_ (w.heap.size + 1) ?_ Td.zero ?_ ?_); (· rfl); (· rfl); (· rfl); (· exact R1.out.blk)) | ((with_reducible refine cs_load ?_ ?_ (w.heap.size + 1) ?_ Td.zero ?_ ?_); (· rfl); (· rfl); (· rfl); (· exact R1.out.blk)) | ((with_reducible refine i8_load ?_ ?_ (k3) ?_ (roleN x r) ?_ ?_); (· rfl); (· rfl); (· rfl); (· exact G3.out.blk)) | ((with_reducible refine cd_load ?_ ?_ (k5) ?_ d ?_ ?_); (· rfl); (· rfl); (· rfl); (· exact C5.out.blk)))
        go_roundg g
        case measure => omega
        case rel => exact ⟨k + 1, by omega, by go_num, T0.out, R1.out, G3.out, bel.out⟩
      · clear HC
        rw [if_neg (by decide), if_pos rfl] at HN
        have hvg := fun op a y w => vguard_at op a y c.v m w
        have htg := fun op a y w => Crd.tguard_at op a y c.t r.t w
        unfold desC at HN
        by_cases h1 : c.info = 1
        · have g1 : (c.info != 1) = false := by simp [h1]
          by_cases h2 : c.v = m
          · have hvn : ∀ w, (binOp .neq 26 (vv c.v) (vv m)).run Try.prog w = .ok (.bool false) w := fun w => by rw [vneq_at, decide_eq_true h2]; rfl
            by_cases h3 : c.t = r.t
            · have htn : ∀ w, (binOp .neq 24 (tmv c.t) (tmv r.t)).run Try.prog w = .ok (.bool false) w := fun w => by rw [tneq_at, decide_eq_true h3]; rfl
              obtain ⟨d, hd⟩ : ∃ d : Cd, d = { c with role := 3 } := ⟨_, rfl⟩
              replace HN := Lib.hid (HN.out.trans ((if_pos ⟨h1, h2, h3⟩).trans hd.symm))
              clear h1 h2 h3
              replace hd := Lib.hid hd
              have gq := G3.out.at k g3.out
              have C5_4 := C5.out.at 4 rfl
              have C5_5 := C5.out.at 5 rfl
              have C5_6 := C5.out.at 6 rfl
              have C5_7 := C5.out.at 7 rfl
              have C5_8 := C5.out.at 8 rfl
              have C5_9 := C5.out.at 9 rfl
              have C5_10 := C5.out.at 10 rfl
              have C5_11 := C5.out.at 11 rfl
              have C5_12 := C5.out.at 12 rfl
              have M6_0 := M6.out.at 0 rfl
              have M6_1 := M6.out.at 1 rfl
              have M6_2 := M6.out.at 2 rfl
              have M6_3 := M6.out.at 3 rfl
              have T0_9 := T0.out.at 9 (v := .int .i64 r.t.a) rfl
              have T0_10 := T0.out.at 10 (v := .int .i64 r.t.m) rfl
              have T0_11 := T0.out.at 11 (v := .int .i64 r.t.h) rfl
              have T0_12 := T0.out.at 12 (v := .int .i64 r.t.d) rfl
              go_upto_region 16 with fail
              clear gq C5_4 C5_5 C5_6 C5_7 C5_8 C5_9 C5_10 C5_11 C5_12 M6_0 M6_1 M6_2 M6_3 T0_9 T0_10 T0_11 T0_12
              have gq := G3.out.at k g3.out
              have C5_13 := C5.out.at 13 rfl
              have C5f13 := C5.out.2.2 13
              replace T0 := Lib.hid (T0.out.other (k' := k5) (o := 13) (x := .int .i64 3) (by omega))
              replace R1 := Lib.hid (R1.out.other (k' := k5) (o := 13) (x := .int .i64 3) (by omega))
              replace G3 := Lib.hid (G3.out.other (k' := k5) (o := 13) (x := .int .i64 3) (by omega))
              replace M6 := Lib.hid (M6.out.other (k' := k5) (o := 13) (x := .int .i64 3) (by omega))
              replace bel := Lib.hid (Bx.bel_set (k := k5) (o := 13) (x := .int .i64 3) (by omega) bel.out)
              replace C5 := Lib.hid ((C5.out.set (13) (.int .i64 3)).of (m := (cdl d)) (by rw [hd.out]; rfl))
              go_upto_region 17 with fail
              clear gq C5_13 C5f13
              generalize (w2.setCell ⟨k5, 13, none⟩ (.int .i64 3)) = w9 at *
              have T9 := T0
              have C9 := C5
              replace R1 := Lib.hid (R1.out.apart_at (k' := w.heap.size) (cdl d) (14 + k * 31) (by omega))
              replace G3 := Lib.hid (G3.out.apart_at (k' := w.heap.size) (cdl d) (14 + k * 31) (by omega))
              replace C5 := Lib.hid (C5.out.apart_at (k' := w.heap.size) (cdl d) (14 + k * 31) (by omega))
              replace M6 := Lib.hid (M6.out.apart_at (k' := w.heap.size) (cdl d) (14 + k * 31) (by omega))
              replace bel := Lib.hid (Bx.bel_put_at (k := w.heap.size) (cdl d) (14 + k * 31) (by omega) bel.out)
              replace T0 := Lib.hid ((Bx.Fre.put_at (cdl d) (14 + k * 31) T0.out).of (m := (tdl (Td.mk x.id x.own r.v r.t r.p (mixN (eleC x r) x.cs (k + 1))))) (HP.out d (HN.out)))
              go_wp2_with (first | ((with_reducible refine cc_store ?_ ?_ (w.heap.size) k hk ?_ d ?_ (Td.mk x.id x.own r.v r.t r.p (mixN (eleC x r) x.cs k)) ?_ ?_); (· rfl); (· rfl); (· rfl); (· rfl); (· exact T9.out)) | ((with_reducible refine cd_load ?_ ?_ (k5) ?_ d ?_ ?_); (· rfl); (· rfl); (· rfl); (· exact C9.out.blk)) | ((with_reducible refine td_load ?_ ?_ (w.heap.size) ?_ (Td.mk x.id x.own r.v r.t r.p (mixN (eleC x r) x.cs (k + 1))) ?_ ?_); (· rfl); (· rfl); (· rfl); (· exact T0.out.blk)) | ((with_reducible refine cs_load ?_ ?_ (w.heap.size) ?_ (Td.mk x.id x.own r.v r.t r.p (mixN (eleC x r) x.cs (k + 1))) ?_ ?_); (· rfl); (· rfl); (· rfl); (· exact T0.out.blk)) | ((with_reducible refine td_load ?_ ?_ (w.heap.size + 1) ?_ Td.zero ?_ ?_); (· rfl); (· rfl); (· rfl); (· exact R1.out.blk)) | ((with_reducible refine cs_load ?_ ?_ (w.heap.size + 1) ?_ Td.zero ?_ ?_); (· rfl); (· rfl); (· rfl); (· exact R1.out.blk)) | ((with_reducible refine i8_load ?_ ?_ (k3) ?_ (roleN x r) ?_ ?_); (· rfl); (· rfl); (· rfl); (· exact G3.out.blk)) | ((with_reducible refine cd_load ?_ ?_ (k5) ?_ d ?_ ?_); (· rfl); (· rfl); (· rfl); (· exact C5.out.blk)))
              go_roundg g
              case measure => omega
              case rel => exact ⟨k + 1, by omega, by go_num, T0.out, R1.out, G3.out, bel.out⟩
            · have htn : ∀ w, (binOp .neq 24 (tmv c.t) (tmv r.t)).run Try.prog w = .ok (.bool true) w := fun w => by rw [tneq_at, decide_eq_false h3]; rfl
              have hx : ¬ (c.info = 1 ∧ c.v = m ∧ c.t = r.t) := fun h => h3 h.2.2
              clear h1 h2 h3
              obtain ⟨d, hd⟩ : ∃ d : Cd, d = { c with info := 1, v := m, t := r.t, agd := false, syd := false, agr := false, prd := false, tel := true, role := 3 } := ⟨_, rfl⟩
              replace HN := Lib.hid (HN.out.trans ((if_neg hx).trans hd.symm))
              clear hx
              replace hd := Lib.hid hd
              have gq := G3.out.at k g3.out
              have C5_4 := C5.out.at 4 rfl
              have C5_5 := C5.out.at 5 rfl
              have C5_6 := C5.out.at 6 rfl
              have C5_7 := C5.out.at 7 rfl
              have C5_8 := C5.out.at 8 rfl
              have C5_9 := C5.out.at 9 rfl
              have C5_10 := C5.out.at 10 rfl
              have C5_11 := C5.out.at 11 rfl
              have C5_12 := C5.out.at 12 rfl
              have M6_0 := M6.out.at 0 rfl
              have M6_1 := M6.out.at 1 rfl
              have M6_2 := M6.out.at 2 rfl
              have M6_3 := M6.out.at 3 rfl
              have T0_9 := T0.out.at 9 (v := .int .i64 r.t.a) rfl
              have T0_10 := T0.out.at 10 (v := .int .i64 r.t.m) rfl
              have T0_11 := T0.out.at 11 (v := .int .i64 r.t.h) rfl
              have T0_12 := T0.out.at 12 (v := .int .i64 r.t.d) rfl
              go_upto_region 13 with fail
              clear gq C5_4 C5_5 C5_6 C5_7 C5_8 C5_9 C5_10 C5_11 C5_12 M6_0 M6_1 M6_2 M6_3 T0_9 T0_10 T0_11 T0_12
              refine wp_region_noPanic ?_
              refine wp_region_held_drew (S := fun w' => w'.cell? ⟨k6, 0, none⟩ = some (.int .u64 m.r) ∧ w'.cell? ⟨k6, 1, none⟩ = some (.int .u64 m.c) ∧ w'.cell? ⟨k6, 2, none⟩ = some (.int .u64 m.b) ∧ w'.cell? ⟨k6, 3, none⟩ = some (.int .i64 m.p) ∧ w'.cell? ⟨w.heap.size, 9, none⟩ = some (.int .i64 r.t.a) ∧ w'.cell? ⟨w.heap.size, 10, none⟩ = some (.int .i64 r.t.m) ∧ w'.cell? ⟨w.heap.size, 11, none⟩ = some (.int .i64 r.t.h) ∧ w'.cell? ⟨w.heap.size, 12, none⟩ = some (.int .i64 r.t.d)) (by kernel_rfl) (by exact ⟨M6.out.at 0 rfl, M6.out.at 1 rfl, M6.out.at 2 rfl, M6.out.at 3 rfl, T0.out.at 9 (v := .int .i64 r.t.a) rfl, T0.out.at 10 (v := .int .i64 r.t.m) rfl, T0.out.at 11 (v := .int .i64 r.t.h) rfl, T0.out.at 12 (v := .int .i64 r.t.d) rfl⟩) (fun hHeld => ?_)
              replace bel := Lib.hid (Bx.bel_drewn bel.out)
              replace T0 := Lib.hid (T0.out.drew)
              replace R1 := Lib.hid (R1.out.drew)
              replace G3 := Lib.hid (G3.out.drew)
              replace C5 := Lib.hid (C5.out.drew)
              replace M6 := Lib.hid (M6.out.drew)
              refine wpAnyH_take (i := 0) (oi := ?oz2x0) (v := ?vz2x0) ?hiz2x0 (by kernel_rfl) (by kernel_rfl) (by kernel_rfl) (fun _ _ _ h => h) ?yz2x0 (by assumption) ?rz2x0
              case hiz2x0 => (simp only [List.getElem?_toArray, List.getElem?_cons_zero]; rfl)
              case yz2x0 => (refine Or.inl ⟨by rfl, ?_⟩; intro w' hSw; (try dsimp only at hSw); go_simp; (try with_reducible rfl))
              try simp only [Act.put, List.setIfInBounds_toArray, List.set_cons_zero, List.set_cons_succ]
              refine wpAnyH_take (i := 1) (oi := ?oz2x1) (v := ?vz2x1) ?hiz2x1 (by kernel_rfl) (by kernel_rfl) (by kernel_rfl) (fun _ _ _ h => h) ?yz2x1 (by assumption) ?rz2x1
              case hiz2x1 => (simp only [List.getElem?_toArray, List.getElem?_cons_succ, List.getElem?_cons_zero]; rfl)
              case yz2x1 => (refine Or.inl ⟨by rfl, ?_⟩; intro w' hSw; (try dsimp only at hSw); go_simp; (try with_reducible rfl))
              try simp only [Act.put, List.setIfInBounds_toArray, List.set_cons_zero, List.set_cons_succ]
              refine wpAnyH_take (i := 2) (oi := ?oz2x2) (v := ?vz2x2) ?hiz2x2 (by kernel_rfl) (by kernel_rfl) (by kernel_rfl) (fun _ _ _ h => h) ?yz2x2 (by assumption) ?rz2x2
              case hiz2x2 => (simp only [List.getElem?_toArray, List.getElem?_cons_succ, List.getElem?_cons_zero]; rfl)
              case yz2x2 => (refine Or.inl ⟨by rfl, ?_⟩; intro w' hSw; (try dsimp only at hSw); go_simp; (try with_reducible rfl))
              try simp only [Act.put, List.setIfInBounds_toArray, List.set_cons_zero, List.set_cons_succ]
              refine wpAnyH_take (i := 3) (oi := ?oz2x3) (v := ?vz2x3) ?hiz2x3 (by kernel_rfl) (by kernel_rfl) (by kernel_rfl) (fun _ _ _ h => h) ?yz2x3 (by assumption) ?rz2x3
              case hiz2x3 => (simp only [List.getElem?_toArray, List.getElem?_cons_succ, List.getElem?_cons_zero]; rfl)
              case yz2x3 => (refine Or.inl ⟨by rfl, ?_⟩; intro w' hSw; (try dsimp only at hSw); go_simp; (try with_reducible rfl))
              try simp only [Act.put, List.setIfInBounds_toArray, List.set_cons_zero, List.set_cons_succ]
              refine wpAnyH_ready (rs := [4]) (by kernel_rfl) (by simp) ?_
              refine AllReadyH.cons (o := ?oz2x4) ?hiz2x4 ?hstz2x4 AllReadyH.nil
              case hiz2x4 => (simp only [List.getElem?_toArray, List.getElem?_cons_succ, List.getElem?_cons_zero]; rfl)
              intro K hK
              rw [if_pos (by rfl)]
              refine vec_wp rfl (k5) 5 rfl m rfl (cdl c) (by simp) C5.out ?_
              refine hK.out _ _ ⟨Bx.cell_apart_at _ _ (by omega) hHeld.1, Bx.cell_apart_at _ _ (by omega) hHeld.2.1, Bx.cell_apart_at _ _ (by omega) hHeld.2.2.1, Bx.cell_apart_at _ _ (by omega) hHeld.2.2.2.1, Bx.cell_apart_at _ _ (by omega) hHeld.2.2.2.2.1, Bx.cell_apart_at _ _ (by omega) hHeld.2.2.2.2.2.1, Bx.cell_apart_at _ _ (by omega) hHeld.2.2.2.2.2.2.1, Bx.cell_apart_at _ _ (by omega) hHeld.2.2.2.2.2.2.2⟩ (fun hNew => ?_)
              clear hHeld
              have hHeld := hNew
              clear hNew hK K
              try simp only [Act.put]
              replace bel := Lib.hid (Bx.bel_put_at (k := k5) (enc m) 5 (by omega) bel.out)
              replace T0 := Lib.hid (Bx.Fre.apart_at (k' := k5) (enc m) 5 (by omega) T0.out)
              replace R1 := Lib.hid (Bx.Fre.apart_at (k' := k5) (enc m) 5 (by omega) R1.out)
              replace G3 := Lib.hid (Bx.Fre.apart_at (k' := k5) (enc m) 5 (by omega) G3.out)
              replace C5 := Lib.hid (Bx.Fre.put_at (enc m) 5 C5.out)
              replace M6 := Lib.hid (Bx.Fre.apart_at (k' := k5) (enc m) 5 (by omega) M6.out)
              refine wpAnyH_take (i := 5) (oi := ?oz2x5) (v := ?vz2x5) ?hiz2x5 (by kernel_rfl) (by kernel_rfl) (by kernel_rfl) (fun _ _ _ h => h) ?yz2x5 (by assumption) ?rz2x5
              case hiz2x5 => (simp only [List.getElem?_toArray, List.getElem?_cons_succ, List.getElem?_cons_zero]; rfl)
              case yz2x5 => (refine Or.inl ⟨by rfl, ?_⟩; intro w' hSw; (try dsimp only at hSw); go_simp; (try with_reducible rfl))
              try simp only [Act.put, List.setIfInBounds_toArray, List.set_cons_zero, List.set_cons_succ]
              refine wpAnyH_ready (rs := [6]) (by kernel_rfl) (by simp) ?_
              refine AllReadyH.cons (o := ?oz2x6) ?hiz2x6 ?hstz2x6 AllReadyH.nil
              case hiz2x6 => (simp only [List.getElem?_toArray, List.getElem?_cons_succ, List.getElem?_cons_zero]; rfl)
              intro K hK
              rw [if_pos (by rfl)]
              refine tm_wp rfl (k5) 9 rfl r.t rfl (Bx.setL (cdl c) 5 (enc m)) (by simp [Bx.setL, enc]) C5.out ?_
              refine hK.out _ _ ⟨Bx.cell_apart_at _ _ (by omega) hHeld.1, Bx.cell_apart_at _ _ (by omega) hHeld.2.1, Bx.cell_apart_at _ _ (by omega) hHeld.2.2.1, Bx.cell_apart_at _ _ (by omega) hHeld.2.2.2.1, Bx.cell_apart_at _ _ (by omega) hHeld.2.2.2.2.1, Bx.cell_apart_at _ _ (by omega) hHeld.2.2.2.2.2.1, Bx.cell_apart_at _ _ (by omega) hHeld.2.2.2.2.2.2.1, Bx.cell_apart_at _ _ (by omega) hHeld.2.2.2.2.2.2.2⟩ (fun hNew => ?_)
              clear hHeld
              have hHeld := hNew
              clear hNew hK K
              try simp only [Act.put]
              replace bel := Lib.hid (Bx.bel_put_at (k := k5) (tenc r.t) 9 (by omega) bel.out)
              replace T0 := Lib.hid (Bx.Fre.apart_at (k' := k5) (tenc r.t) 9 (by omega) T0.out)
              replace R1 := Lib.hid (Bx.Fre.apart_at (k' := k5) (tenc r.t) 9 (by omega) R1.out)
              replace G3 := Lib.hid (Bx.Fre.apart_at (k' := k5) (tenc r.t) 9 (by omega) G3.out)
              replace C5 := Lib.hid (Bx.Fre.put_at (tenc r.t) 9 C5.out)
              replace M6 := Lib.hid (Bx.Fre.apart_at (k' := k5) (tenc r.t) 9 (by omega) M6.out)
              refine wpAnyH_take (i := 7) (oi := ?oz2x7) (v := ?vz2x7) ?hiz2x7 (by kernel_rfl) (by kernel_rfl) (by kernel_rfl) (fun _ _ _ h => h) ?yz2x7 (by assumption) ?rz2x7
              case hiz2x7 => (simp only [List.getElem?_toArray, List.getElem?_cons_succ, List.getElem?_cons_zero]; rfl)
              case yz2x7 => (refine Or.inl ⟨by rfl, ?_⟩; intro w' hSw; (try dsimp only at hSw); go_simp; (try with_reducible rfl))
              try simp only [Act.put, List.setIfInBounds_toArray, List.set_cons_zero, List.set_cons_succ]
              refine wpAnyH_ready (rs := [8]) (by kernel_rfl) (by simp) ?_
              refine AllReadyH.cons (o := ?oz2x8) ?hiz2x8 ?hstz2x8 AllReadyH.nil
              case hiz2x8 => (simp only [List.getElem?_toArray, List.getElem?_cons_succ, List.getElem?_cons_zero]; rfl)
              intro K hK
              have z4 := C5.out.at 4 rfl; have f4 := C5.out.2.2 4; go_simp
              refine hK.out _ _ ⟨(by first | exact Bx.cell_other (by omega) hHeld.1 | exact Bx.cell_other_drew (by omega) hHeld.1), (by first | exact Bx.cell_other (by omega) hHeld.2.1 | exact Bx.cell_other_drew (by omega) hHeld.2.1), (by first | exact Bx.cell_other (by omega) hHeld.2.2.1 | exact Bx.cell_other_drew (by omega) hHeld.2.2.1), (by first | exact Bx.cell_other (by omega) hHeld.2.2.2.1 | exact Bx.cell_other_drew (by omega) hHeld.2.2.2.1), (by first | exact Bx.cell_other (by omega) hHeld.2.2.2.2.1 | exact Bx.cell_other_drew (by omega) hHeld.2.2.2.2.1), (by first | exact Bx.cell_other (by omega) hHeld.2.2.2.2.2.1 | exact Bx.cell_other_drew (by omega) hHeld.2.2.2.2.2.1), (by first | exact Bx.cell_other (by omega) hHeld.2.2.2.2.2.2.1 | exact Bx.cell_other_drew (by omega) hHeld.2.2.2.2.2.2.1), (by first | exact Bx.cell_other (by omega) hHeld.2.2.2.2.2.2.2 | exact Bx.cell_other_drew (by omega) hHeld.2.2.2.2.2.2.2)⟩ (fun hNew => ?_)
              clear hHeld
              have hHeld := hNew
              clear hNew hK K
              replace bel := Lib.hid (Bx.bel_set (k := k5) (o := 4) (x := .int .i64 1) (by omega) bel.out)
              replace T0 := Lib.hid (T0.out.other (k' := k5) (o := 4) (x := .int .i64 1) (by omega))
              replace R1 := Lib.hid (R1.out.other (k' := k5) (o := 4) (x := .int .i64 1) (by omega))
              replace G3 := Lib.hid (G3.out.other (k' := k5) (o := 4) (x := .int .i64 1) (by omega))
              replace C5 := Lib.hid (C5.out.set 4 (.int .i64 1))
              replace M6 := Lib.hid (M6.out.other (k' := k5) (o := 4) (x := .int .i64 1) (by omega))
              refine wpAnyH_done (by kernel_rfl) ?_ _
              refine NoPanic.normal ?_
              clear hHeld
              replace C5 := Lib.hid (C5.out.of (m := cdl { c with info := 1, v := m, t := r.t }) rfl)
              generalize ((w2.drew.setCells k5 5 (enc m)).setCells k5 9 (tenc r.t)).setCell ⟨k5, 4, none⟩ (.int .i64 1) = w6 at *
              have C5_15 := C5.out.at 15 rfl
              have C5_20 := C5.out.at 20 rfl
              have C5_22 := C5.out.at 22 rfl
              have C5_16 := C5.out.at 16 rfl
              have C5_18 := C5.out.at 18 rfl
              have C5f15 := C5.out.2.2 15
              have C5f20 := C5.out.2.2 20
              have C5f22 := C5.out.2.2 22
              have C5f16 := C5.out.2.2 16
              have C5f18 := C5.out.2.2 18
              replace T0 := Lib.hid (T0.out.other (k' := k5) (o := 15) (x := .bool false) (by omega))
              replace R1 := Lib.hid (R1.out.other (k' := k5) (o := 15) (x := .bool false) (by omega))
              replace G3 := Lib.hid (G3.out.other (k' := k5) (o := 15) (x := .bool false) (by omega))
              replace M6 := Lib.hid (M6.out.other (k' := k5) (o := 15) (x := .bool false) (by omega))
              replace bel := Lib.hid (Bx.bel_set (k := k5) (o := 15) (x := .bool false) (by omega) bel.out)
              replace C5 := Lib.hid ((C5.out.set (15) (.bool false)).of (m := (cdl { c with info := 1, v := m, t := r.t, agd := false })) (by first | rfl | simp [enc, tenc]))
              replace T0 := Lib.hid (T0.out.other (k' := k5) (o := 20) (x := .bool false) (by omega))
              replace R1 := Lib.hid (R1.out.other (k' := k5) (o := 20) (x := .bool false) (by omega))
              replace G3 := Lib.hid (G3.out.other (k' := k5) (o := 20) (x := .bool false) (by omega))
              replace M6 := Lib.hid (M6.out.other (k' := k5) (o := 20) (x := .bool false) (by omega))
              replace bel := Lib.hid (Bx.bel_set (k := k5) (o := 20) (x := .bool false) (by omega) bel.out)
              replace C5 := Lib.hid ((C5.out.set (20) (.bool false)).of (m := (cdl { c with info := 1, v := m, t := r.t, agd := false, syd := false })) (by first | rfl | simp [enc, tenc]))
              replace T0 := Lib.hid (T0.out.other (k' := k5) (o := 22) (x := .bool true) (by omega))
              replace R1 := Lib.hid (R1.out.other (k' := k5) (o := 22) (x := .bool true) (by omega))
              replace G3 := Lib.hid (G3.out.other (k' := k5) (o := 22) (x := .bool true) (by omega))
              replace M6 := Lib.hid (M6.out.other (k' := k5) (o := 22) (x := .bool true) (by omega))
              replace bel := Lib.hid (Bx.bel_set (k := k5) (o := 22) (x := .bool true) (by omega) bel.out)
              replace C5 := Lib.hid ((C5.out.set (22) (.bool true)).of (m := (cdl { c with info := 1, v := m, t := r.t, agd := false, syd := false, tel := true })) (by first | rfl | simp [enc, tenc]))
              replace T0 := Lib.hid (T0.out.other (k' := k5) (o := 16) (x := .bool false) (by omega))
              replace R1 := Lib.hid (R1.out.other (k' := k5) (o := 16) (x := .bool false) (by omega))
              replace G3 := Lib.hid (G3.out.other (k' := k5) (o := 16) (x := .bool false) (by omega))
              replace M6 := Lib.hid (M6.out.other (k' := k5) (o := 16) (x := .bool false) (by omega))
              replace bel := Lib.hid (Bx.bel_set (k := k5) (o := 16) (x := .bool false) (by omega) bel.out)
              replace C5 := Lib.hid ((C5.out.set (16) (.bool false)).of (m := (cdl { c with info := 1, v := m, t := r.t, agd := false, syd := false, tel := true, agr := false })) (by first | rfl | simp [enc, tenc]))
              replace T0 := Lib.hid (T0.out.other (k' := k5) (o := 18) (x := .bool false) (by omega))
              replace R1 := Lib.hid (R1.out.other (k' := k5) (o := 18) (x := .bool false) (by omega))
              replace G3 := Lib.hid (G3.out.other (k' := k5) (o := 18) (x := .bool false) (by omega))
              replace M6 := Lib.hid (M6.out.other (k' := k5) (o := 18) (x := .bool false) (by omega))
              replace bel := Lib.hid (Bx.bel_set (k := k5) (o := 18) (x := .bool false) (by omega) bel.out)
              replace C5 := Lib.hid ((C5.out.set (18) (.bool false)).of (m := (cdl { c with info := 1, v := m, t := r.t, agd := false, syd := false, tel := true, agr := false, prd := false })) (by first | rfl | simp [enc, tenc]))
              go_upto_region 16 with fail
              clear C5_15 C5_20 C5_22 C5_16 C5_18 C5f15 C5f20 C5f22 C5f16 C5f18
              generalize (((((w6.setCell ⟨k5, 15, none⟩ (.bool false)).setCell ⟨k5, 20, none⟩ (.bool false)).setCell ⟨k5, 22, none⟩ (.bool true)).setCell ⟨k5, 16, none⟩ (.bool false)).setCell ⟨k5, 18, none⟩ (.bool false)) = w8 at *
              have gq := G3.out.at k g3.out
              have C5_13 := C5.out.at 13 rfl
              have C5f13 := C5.out.2.2 13
              replace T0 := Lib.hid (T0.out.other (k' := k5) (o := 13) (x := .int .i64 3) (by omega))
              replace R1 := Lib.hid (R1.out.other (k' := k5) (o := 13) (x := .int .i64 3) (by omega))
              replace G3 := Lib.hid (G3.out.other (k' := k5) (o := 13) (x := .int .i64 3) (by omega))
              replace M6 := Lib.hid (M6.out.other (k' := k5) (o := 13) (x := .int .i64 3) (by omega))
              replace bel := Lib.hid (Bx.bel_set (k := k5) (o := 13) (x := .int .i64 3) (by omega) bel.out)
              replace C5 := Lib.hid ((C5.out.set (13) (.int .i64 3)).of (m := (cdl d)) (by rw [hd.out]; rfl))
              go_upto_region 17 with fail
              clear gq C5_13 C5f13
              generalize (w8.setCell ⟨k5, 13, none⟩ (.int .i64 3)) = w9 at *
              have T9 := T0
              have C9 := C5
              replace R1 := Lib.hid (R1.out.apart_at (k' := w.heap.size) (cdl d) (14 + k * 31) (by omega))
              replace G3 := Lib.hid (G3.out.apart_at (k' := w.heap.size) (cdl d) (14 + k * 31) (by omega))
              replace C5 := Lib.hid (C5.out.apart_at (k' := w.heap.size) (cdl d) (14 + k * 31) (by omega))
              replace M6 := Lib.hid (M6.out.apart_at (k' := w.heap.size) (cdl d) (14 + k * 31) (by omega))
              replace bel := Lib.hid (Bx.bel_put_at (k := w.heap.size) (cdl d) (14 + k * 31) (by omega) bel.out)
              replace T0 := Lib.hid ((Bx.Fre.put_at (cdl d) (14 + k * 31) T0.out).of (m := (tdl (Td.mk x.id x.own r.v r.t r.p (mixN (eleC x r) x.cs (k + 1))))) (HP.out d (HN.out)))
              go_wp2_with (first | ((with_reducible refine cc_store ?_ ?_ (w.heap.size) k hk ?_ d ?_ (Td.mk x.id x.own r.v r.t r.p (mixN (eleC x r) x.cs k)) ?_ ?_); (· rfl); (· rfl); (· rfl); (· rfl); (· exact T9.out)) | ((with_reducible refine cd_load ?_ ?_ (k5) ?_ d ?_ ?_); (· rfl); (· rfl); (· rfl); (· exact C9.out.blk)) | ((with_reducible refine td_load ?_ ?_ (w.heap.size) ?_ (Td.mk x.id x.own r.v r.t r.p (mixN (eleC x r) x.cs (k + 1))) ?_ ?_); (· rfl); (· rfl); (· rfl); (· exact T0.out.blk)) | ((with_reducible refine cs_load ?_ ?_ (w.heap.size) ?_ (Td.mk x.id x.own r.v r.t r.p (mixN (eleC x r) x.cs (k + 1))) ?_ ?_); (· rfl); (· rfl); (· rfl); (· exact T0.out.blk)) | ((with_reducible refine td_load ?_ ?_ (w.heap.size + 1) ?_ Td.zero ?_ ?_); (· rfl); (· rfl); (· rfl); (· exact R1.out.blk)) | ((with_reducible refine cs_load ?_ ?_ (w.heap.size + 1) ?_ Td.zero ?_ ?_); (· rfl); (· rfl); (· rfl); (· exact R1.out.blk)) | ((with_reducible refine i8_load ?_ ?_ (k3) ?_ (roleN x r) ?_ ?_); (· rfl); (· rfl); (· rfl); (· exact G3.out.blk)) | ((with_reducible refine cd_load ?_ ?_ (k5) ?_ d ?_ ?_); (· rfl); (· rfl); (· rfl); (· exact C5.out.blk)))
              go_roundg g
              case measure => omega
              case rel => exact ⟨k + 1, by omega, by go_num, T0.out, R1.out, G3.out, bel.out⟩
          · have hvn : ∀ w, (binOp .neq 26 (vv c.v) (vv m)).run Try.prog w = .ok (.bool true) w := fun w => by rw [vneq_at, decide_eq_false h2]; rfl
            have hx : ¬ (c.info = 1 ∧ c.v = m ∧ c.t = r.t) := fun h => h2 h.2.1
            clear h1 h2
            obtain ⟨d, hd⟩ : ∃ d : Cd, d = { c with info := 1, v := m, t := r.t, agd := false, syd := false, agr := false, prd := false, tel := true, role := 3 } := ⟨_, rfl⟩
            replace HN := Lib.hid (HN.out.trans ((if_neg hx).trans hd.symm))
            clear hx
            replace hd := Lib.hid hd
            have gq := G3.out.at k g3.out
            have C5_4 := C5.out.at 4 rfl
            have C5_5 := C5.out.at 5 rfl
            have C5_6 := C5.out.at 6 rfl
            have C5_7 := C5.out.at 7 rfl
            have C5_8 := C5.out.at 8 rfl
            have C5_9 := C5.out.at 9 rfl
            have C5_10 := C5.out.at 10 rfl
            have C5_11 := C5.out.at 11 rfl
            have C5_12 := C5.out.at 12 rfl
            have M6_0 := M6.out.at 0 rfl
            have M6_1 := M6.out.at 1 rfl
            have M6_2 := M6.out.at 2 rfl
            have M6_3 := M6.out.at 3 rfl
            have T0_9 := T0.out.at 9 (v := .int .i64 r.t.a) rfl
            have T0_10 := T0.out.at 10 (v := .int .i64 r.t.m) rfl
            have T0_11 := T0.out.at 11 (v := .int .i64 r.t.h) rfl
            have T0_12 := T0.out.at 12 (v := .int .i64 r.t.d) rfl
            go_upto_region 13 with fail
            clear gq C5_4 C5_5 C5_6 C5_7 C5_8 C5_9 C5_10 C5_11 C5_12 M6_0 M6_1 M6_2 M6_3 T0_9 T0_10 T0_11 T0_12
            refine wp_region_noPanic ?_
            refine wp_region_held_drew (S := fun w' => w'.cell? ⟨k6, 0, none⟩ = some (.int .u64 m.r) ∧ w'.cell? ⟨k6, 1, none⟩ = some (.int .u64 m.c) ∧ w'.cell? ⟨k6, 2, none⟩ = some (.int .u64 m.b) ∧ w'.cell? ⟨k6, 3, none⟩ = some (.int .i64 m.p) ∧ w'.cell? ⟨w.heap.size, 9, none⟩ = some (.int .i64 r.t.a) ∧ w'.cell? ⟨w.heap.size, 10, none⟩ = some (.int .i64 r.t.m) ∧ w'.cell? ⟨w.heap.size, 11, none⟩ = some (.int .i64 r.t.h) ∧ w'.cell? ⟨w.heap.size, 12, none⟩ = some (.int .i64 r.t.d)) (by kernel_rfl) (by exact ⟨M6.out.at 0 rfl, M6.out.at 1 rfl, M6.out.at 2 rfl, M6.out.at 3 rfl, T0.out.at 9 (v := .int .i64 r.t.a) rfl, T0.out.at 10 (v := .int .i64 r.t.m) rfl, T0.out.at 11 (v := .int .i64 r.t.h) rfl, T0.out.at 12 (v := .int .i64 r.t.d) rfl⟩) (fun hHeld => ?_)
            replace bel := Lib.hid (Bx.bel_drewn bel.out)
            replace T0 := Lib.hid (T0.out.drew)
            replace R1 := Lib.hid (R1.out.drew)
            replace G3 := Lib.hid (G3.out.drew)
            replace C5 := Lib.hid (C5.out.drew)
            replace M6 := Lib.hid (M6.out.drew)
            refine wpAnyH_take (i := 0) (oi := ?oz3x0) (v := ?vz3x0) ?hiz3x0 (by kernel_rfl) (by kernel_rfl) (by kernel_rfl) (fun _ _ _ h => h) ?yz3x0 (by assumption) ?rz3x0
            case hiz3x0 => (simp only [List.getElem?_toArray, List.getElem?_cons_zero]; rfl)
            case yz3x0 => (refine Or.inl ⟨by rfl, ?_⟩; intro w' hSw; (try dsimp only at hSw); go_simp; (try with_reducible rfl))
            try simp only [Act.put, List.setIfInBounds_toArray, List.set_cons_zero, List.set_cons_succ]
            refine wpAnyH_take (i := 1) (oi := ?oz3x1) (v := ?vz3x1) ?hiz3x1 (by kernel_rfl) (by kernel_rfl) (by kernel_rfl) (fun _ _ _ h => h) ?yz3x1 (by assumption) ?rz3x1
            case hiz3x1 => (simp only [List.getElem?_toArray, List.getElem?_cons_succ, List.getElem?_cons_zero]; rfl)
            case yz3x1 => (refine Or.inl ⟨by rfl, ?_⟩; intro w' hSw; (try dsimp only at hSw); go_simp; (try with_reducible rfl))
            try simp only [Act.put, List.setIfInBounds_toArray, List.set_cons_zero, List.set_cons_succ]
            refine wpAnyH_take (i := 2) (oi := ?oz3x2) (v := ?vz3x2) ?hiz3x2 (by kernel_rfl) (by kernel_rfl) (by kernel_rfl) (fun _ _ _ h => h) ?yz3x2 (by assumption) ?rz3x2
            case hiz3x2 => (simp only [List.getElem?_toArray, List.getElem?_cons_succ, List.getElem?_cons_zero]; rfl)
            case yz3x2 => (refine Or.inl ⟨by rfl, ?_⟩; intro w' hSw; (try dsimp only at hSw); go_simp; (try with_reducible rfl))
            try simp only [Act.put, List.setIfInBounds_toArray, List.set_cons_zero, List.set_cons_succ]
            refine wpAnyH_take (i := 3) (oi := ?oz3x3) (v := ?vz3x3) ?hiz3x3 (by kernel_rfl) (by kernel_rfl) (by kernel_rfl) (fun _ _ _ h => h) ?yz3x3 (by assumption) ?rz3x3
            case hiz3x3 => (simp only [List.getElem?_toArray, List.getElem?_cons_succ, List.getElem?_cons_zero]; rfl)
            case yz3x3 => (refine Or.inl ⟨by rfl, ?_⟩; intro w' hSw; (try dsimp only at hSw); go_simp; (try with_reducible rfl))
            try simp only [Act.put, List.setIfInBounds_toArray, List.set_cons_zero, List.set_cons_succ]
            refine wpAnyH_ready (rs := [4]) (by kernel_rfl) (by simp) ?_
            refine AllReadyH.cons (o := ?oz3x4) ?hiz3x4 ?hstz3x4 AllReadyH.nil
            case hiz3x4 => (simp only [List.getElem?_toArray, List.getElem?_cons_succ, List.getElem?_cons_zero]; rfl)
            intro K hK
            rw [if_pos (by rfl)]
            refine vec_wp rfl (k5) 5 rfl m rfl (cdl c) (by simp) C5.out ?_
            refine hK.out _ _ ⟨Bx.cell_apart_at _ _ (by omega) hHeld.1, Bx.cell_apart_at _ _ (by omega) hHeld.2.1, Bx.cell_apart_at _ _ (by omega) hHeld.2.2.1, Bx.cell_apart_at _ _ (by omega) hHeld.2.2.2.1, Bx.cell_apart_at _ _ (by omega) hHeld.2.2.2.2.1, Bx.cell_apart_at _ _ (by omega) hHeld.2.2.2.2.2.1, Bx.cell_apart_at _ _ (by omega) hHeld.2.2.2.2.2.2.1, Bx.cell_apart_at _ _ (by omega) hHeld.2.2.2.2.2.2.2⟩ (fun hNew => ?_)
            clear hHeld
            have hHeld := hNew
            clear hNew hK K
            try simp only [Act.put]
            replace bel := Lib.hid (Bx.bel_put_at (k := k5) (enc m) 5 (by omega) bel.out)
            replace T0 := Lib.hid (Bx.Fre.apart_at (k' := k5) (enc m) 5 (by omega) T0.out)
            replace R1 := Lib.hid (Bx.Fre.apart_at (k' := k5) (enc m) 5 (by omega) R1.out)
            replace G3 := Lib.hid (Bx.Fre.apart_at (k' := k5) (enc m) 5 (by omega) G3.out)
            replace C5 := Lib.hid (Bx.Fre.put_at (enc m) 5 C5.out)
            replace M6 := Lib.hid (Bx.Fre.apart_at (k' := k5) (enc m) 5 (by omega) M6.out)
            refine wpAnyH_take (i := 5) (oi := ?oz3x5) (v := ?vz3x5) ?hiz3x5 (by kernel_rfl) (by kernel_rfl) (by kernel_rfl) (fun _ _ _ h => h) ?yz3x5 (by assumption) ?rz3x5
            case hiz3x5 => (simp only [List.getElem?_toArray, List.getElem?_cons_succ, List.getElem?_cons_zero]; rfl)
            case yz3x5 => (refine Or.inl ⟨by rfl, ?_⟩; intro w' hSw; (try dsimp only at hSw); go_simp; (try with_reducible rfl))
            try simp only [Act.put, List.setIfInBounds_toArray, List.set_cons_zero, List.set_cons_succ]
            refine wpAnyH_ready (rs := [6]) (by kernel_rfl) (by simp) ?_
            refine AllReadyH.cons (o := ?oz3x6) ?hiz3x6 ?hstz3x6 AllReadyH.nil
            case hiz3x6 => (simp only [List.getElem?_toArray, List.getElem?_cons_succ, List.getElem?_cons_zero]; rfl)
            intro K hK
            rw [if_pos (by rfl)]
            refine tm_wp rfl (k5) 9 rfl r.t rfl (Bx.setL (cdl c) 5 (enc m)) (by simp [Bx.setL, enc]) C5.out ?_
            refine hK.out _ _ ⟨Bx.cell_apart_at _ _ (by omega) hHeld.1, Bx.cell_apart_at _ _ (by omega) hHeld.2.1, Bx.cell_apart_at _ _ (by omega) hHeld.2.2.1, Bx.cell_apart_at _ _ (by omega) hHeld.2.2.2.1, Bx.cell_apart_at _ _ (by omega) hHeld.2.2.2.2.1, Bx.cell_apart_at _ _ (by omega) hHeld.2.2.2.2.2.1, Bx.cell_apart_at _ _ (by omega) hHeld.2.2.2.2.2.2.1, Bx.cell_apart_at _ _ (by omega) hHeld.2.2.2.2.2.2.2⟩ (fun hNew => ?_)
            clear hHeld
            have hHeld := hNew
            clear hNew hK K
            try simp only [Act.put]
            replace bel := Lib.hid (Bx.bel_put_at (k := k5) (tenc r.t) 9 (by omega) bel.out)
            replace T0 := Lib.hid (Bx.Fre.apart_at (k' := k5) (tenc r.t) 9 (by omega) T0.out)
            replace R1 := Lib.hid (Bx.Fre.apart_at (k' := k5) (tenc r.t) 9 (by omega) R1.out)
            replace G3 := Lib.hid (Bx.Fre.apart_at (k' := k5) (tenc r.t) 9 (by omega) G3.out)
            replace C5 := Lib.hid (Bx.Fre.put_at (tenc r.t) 9 C5.out)
            replace M6 := Lib.hid (Bx.Fre.apart_at (k' := k5) (tenc r.t) 9 (by omega) M6.out)
            refine wpAnyH_take (i := 7) (oi := ?oz3x7) (v := ?vz3x7) ?hiz3x7 (by kernel_rfl) (by kernel_rfl) (by kernel_rfl) (fun _ _ _ h => h) ?yz3x7 (by assumption) ?rz3x7
            case hiz3x7 => (simp only [List.getElem?_toArray, List.getElem?_cons_succ, List.getElem?_cons_zero]; rfl)
            case yz3x7 => (refine Or.inl ⟨by rfl, ?_⟩; intro w' hSw; (try dsimp only at hSw); go_simp; (try with_reducible rfl))
            try simp only [Act.put, List.setIfInBounds_toArray, List.set_cons_zero, List.set_cons_succ]
            refine wpAnyH_ready (rs := [8]) (by kernel_rfl) (by simp) ?_
            refine AllReadyH.cons (o := ?oz3x8) ?hiz3x8 ?hstz3x8 AllReadyH.nil
            case hiz3x8 => (simp only [List.getElem?_toArray, List.getElem?_cons_succ, List.getElem?_cons_zero]; rfl)
            intro K hK
            have z4 := C5.out.at 4 rfl; have f4 := C5.out.2.2 4; go_simp
            refine hK.out _ _ ⟨(by first | exact Bx.cell_other (by omega) hHeld.1 | exact Bx.cell_other_drew (by omega) hHeld.1), (by first | exact Bx.cell_other (by omega) hHeld.2.1 | exact Bx.cell_other_drew (by omega) hHeld.2.1), (by first | exact Bx.cell_other (by omega) hHeld.2.2.1 | exact Bx.cell_other_drew (by omega) hHeld.2.2.1), (by first | exact Bx.cell_other (by omega) hHeld.2.2.2.1 | exact Bx.cell_other_drew (by omega) hHeld.2.2.2.1), (by first | exact Bx.cell_other (by omega) hHeld.2.2.2.2.1 | exact Bx.cell_other_drew (by omega) hHeld.2.2.2.2.1), (by first | exact Bx.cell_other (by omega) hHeld.2.2.2.2.2.1 | exact Bx.cell_other_drew (by omega) hHeld.2.2.2.2.2.1), (by first | exact Bx.cell_other (by omega) hHeld.2.2.2.2.2.2.1 | exact Bx.cell_other_drew (by omega) hHeld.2.2.2.2.2.2.1), (by first | exact Bx.cell_other (by omega) hHeld.2.2.2.2.2.2.2 | exact Bx.cell_other_drew (by omega) hHeld.2.2.2.2.2.2.2)⟩ (fun hNew => ?_)
            clear hHeld
            have hHeld := hNew
            clear hNew hK K
            replace bel := Lib.hid (Bx.bel_set (k := k5) (o := 4) (x := .int .i64 1) (by omega) bel.out)
            replace T0 := Lib.hid (T0.out.other (k' := k5) (o := 4) (x := .int .i64 1) (by omega))
            replace R1 := Lib.hid (R1.out.other (k' := k5) (o := 4) (x := .int .i64 1) (by omega))
            replace G3 := Lib.hid (G3.out.other (k' := k5) (o := 4) (x := .int .i64 1) (by omega))
            replace C5 := Lib.hid (C5.out.set 4 (.int .i64 1))
            replace M6 := Lib.hid (M6.out.other (k' := k5) (o := 4) (x := .int .i64 1) (by omega))
            refine wpAnyH_done (by kernel_rfl) ?_ _
            refine NoPanic.normal ?_
            clear hHeld
            replace C5 := Lib.hid (C5.out.of (m := cdl { c with info := 1, v := m, t := r.t }) rfl)
            generalize ((w2.drew.setCells k5 5 (enc m)).setCells k5 9 (tenc r.t)).setCell ⟨k5, 4, none⟩ (.int .i64 1) = w6 at *
            have C5_15 := C5.out.at 15 rfl
            have C5_20 := C5.out.at 20 rfl
            have C5_22 := C5.out.at 22 rfl
            have C5_16 := C5.out.at 16 rfl
            have C5_18 := C5.out.at 18 rfl
            have C5f15 := C5.out.2.2 15
            have C5f20 := C5.out.2.2 20
            have C5f22 := C5.out.2.2 22
            have C5f16 := C5.out.2.2 16
            have C5f18 := C5.out.2.2 18
            replace T0 := Lib.hid (T0.out.other (k' := k5) (o := 15) (x := .bool false) (by omega))
            replace R1 := Lib.hid (R1.out.other (k' := k5) (o := 15) (x := .bool false) (by omega))
            replace G3 := Lib.hid (G3.out.other (k' := k5) (o := 15) (x := .bool false) (by omega))
            replace M6 := Lib.hid (M6.out.other (k' := k5) (o := 15) (x := .bool false) (by omega))
            replace bel := Lib.hid (Bx.bel_set (k := k5) (o := 15) (x := .bool false) (by omega) bel.out)
            replace C5 := Lib.hid ((C5.out.set (15) (.bool false)).of (m := (cdl { c with info := 1, v := m, t := r.t, agd := false })) (by first | rfl | simp [enc, tenc]))
            replace T0 := Lib.hid (T0.out.other (k' := k5) (o := 20) (x := .bool false) (by omega))
            replace R1 := Lib.hid (R1.out.other (k' := k5) (o := 20) (x := .bool false) (by omega))
            replace G3 := Lib.hid (G3.out.other (k' := k5) (o := 20) (x := .bool false) (by omega))
            replace M6 := Lib.hid (M6.out.other (k' := k5) (o := 20) (x := .bool false) (by omega))
            replace bel := Lib.hid (Bx.bel_set (k := k5) (o := 20) (x := .bool false) (by omega) bel.out)
            replace C5 := Lib.hid ((C5.out.set (20) (.bool false)).of (m := (cdl { c with info := 1, v := m, t := r.t, agd := false, syd := false })) (by first | rfl | simp [enc, tenc]))
            replace T0 := Lib.hid (T0.out.other (k' := k5) (o := 22) (x := .bool true) (by omega))
            replace R1 := Lib.hid (R1.out.other (k' := k5) (o := 22) (x := .bool true) (by omega))
            replace G3 := Lib.hid (G3.out.other (k' := k5) (o := 22) (x := .bool true) (by omega))
            replace M6 := Lib.hid (M6.out.other (k' := k5) (o := 22) (x := .bool true) (by omega))
            replace bel := Lib.hid (Bx.bel_set (k := k5) (o := 22) (x := .bool true) (by omega) bel.out)
            replace C5 := Lib.hid ((C5.out.set (22) (.bool true)).of (m := (cdl { c with info := 1, v := m, t := r.t, agd := false, syd := false, tel := true })) (by first | rfl | simp [enc, tenc]))
            replace T0 := Lib.hid (T0.out.other (k' := k5) (o := 16) (x := .bool false) (by omega))
            replace R1 := Lib.hid (R1.out.other (k' := k5) (o := 16) (x := .bool false) (by omega))
            replace G3 := Lib.hid (G3.out.other (k' := k5) (o := 16) (x := .bool false) (by omega))
            replace M6 := Lib.hid (M6.out.other (k' := k5) (o := 16) (x := .bool false) (by omega))
            replace bel := Lib.hid (Bx.bel_set (k := k5) (o := 16) (x := .bool false) (by omega) bel.out)
            replace C5 := Lib.hid ((C5.out.set (16) (.bool false)).of (m := (cdl { c with info := 1, v := m, t := r.t, agd := false, syd := false, tel := true, agr := false })) (by first | rfl | simp [enc, tenc]))
            replace T0 := Lib.hid (T0.out.other (k' := k5) (o := 18) (x := .bool false) (by omega))
            replace R1 := Lib.hid (R1.out.other (k' := k5) (o := 18) (x := .bool false) (by omega))
            replace G3 := Lib.hid (G3.out.other (k' := k5) (o := 18) (x := .bool false) (by omega))
            replace M6 := Lib.hid (M6.out.other (k' := k5) (o := 18) (x := .bool false) (by omega))
            replace bel := Lib.hid (Bx.bel_set (k := k5) (o := 18) (x := .bool false) (by omega) bel.out)
            replace C5 := Lib.hid ((C5.out.set (18) (.bool false)).of (m := (cdl { c with info := 1, v := m, t := r.t, agd := false, syd := false, tel := true, agr := false, prd := false })) (by first | rfl | simp [enc, tenc]))
            go_upto_region 16 with fail
            clear C5_15 C5_20 C5_22 C5_16 C5_18 C5f15 C5f20 C5f22 C5f16 C5f18
            generalize (((((w6.setCell ⟨k5, 15, none⟩ (.bool false)).setCell ⟨k5, 20, none⟩ (.bool false)).setCell ⟨k5, 22, none⟩ (.bool true)).setCell ⟨k5, 16, none⟩ (.bool false)).setCell ⟨k5, 18, none⟩ (.bool false)) = w8 at *
            have gq := G3.out.at k g3.out
            have C5_13 := C5.out.at 13 rfl
            have C5f13 := C5.out.2.2 13
            replace T0 := Lib.hid (T0.out.other (k' := k5) (o := 13) (x := .int .i64 3) (by omega))
            replace R1 := Lib.hid (R1.out.other (k' := k5) (o := 13) (x := .int .i64 3) (by omega))
            replace G3 := Lib.hid (G3.out.other (k' := k5) (o := 13) (x := .int .i64 3) (by omega))
            replace M6 := Lib.hid (M6.out.other (k' := k5) (o := 13) (x := .int .i64 3) (by omega))
            replace bel := Lib.hid (Bx.bel_set (k := k5) (o := 13) (x := .int .i64 3) (by omega) bel.out)
            replace C5 := Lib.hid ((C5.out.set (13) (.int .i64 3)).of (m := (cdl d)) (by rw [hd.out]; rfl))
            go_upto_region 17 with fail
            clear gq C5_13 C5f13
            generalize (w8.setCell ⟨k5, 13, none⟩ (.int .i64 3)) = w9 at *
            have T9 := T0
            have C9 := C5
            replace R1 := Lib.hid (R1.out.apart_at (k' := w.heap.size) (cdl d) (14 + k * 31) (by omega))
            replace G3 := Lib.hid (G3.out.apart_at (k' := w.heap.size) (cdl d) (14 + k * 31) (by omega))
            replace C5 := Lib.hid (C5.out.apart_at (k' := w.heap.size) (cdl d) (14 + k * 31) (by omega))
            replace M6 := Lib.hid (M6.out.apart_at (k' := w.heap.size) (cdl d) (14 + k * 31) (by omega))
            replace bel := Lib.hid (Bx.bel_put_at (k := w.heap.size) (cdl d) (14 + k * 31) (by omega) bel.out)
            replace T0 := Lib.hid ((Bx.Fre.put_at (cdl d) (14 + k * 31) T0.out).of (m := (tdl (Td.mk x.id x.own r.v r.t r.p (mixN (eleC x r) x.cs (k + 1))))) (HP.out d (HN.out)))
            go_wp2_with (first | ((with_reducible refine cc_store ?_ ?_ (w.heap.size) k hk ?_ d ?_ (Td.mk x.id x.own r.v r.t r.p (mixN (eleC x r) x.cs k)) ?_ ?_); (· rfl); (· rfl); (· rfl); (· rfl); (· exact T9.out)) | ((with_reducible refine cd_load ?_ ?_ (k5) ?_ d ?_ ?_); (· rfl); (· rfl); (· rfl); (· exact C9.out.blk)) | ((with_reducible refine td_load ?_ ?_ (w.heap.size) ?_ (Td.mk x.id x.own r.v r.t r.p (mixN (eleC x r) x.cs (k + 1))) ?_ ?_); (· rfl); (· rfl); (· rfl); (· exact T0.out.blk)) | ((with_reducible refine cs_load ?_ ?_ (w.heap.size) ?_ (Td.mk x.id x.own r.v r.t r.p (mixN (eleC x r) x.cs (k + 1))) ?_ ?_); (· rfl); (· rfl); (· rfl); (· exact T0.out.blk)) | ((with_reducible refine td_load ?_ ?_ (w.heap.size + 1) ?_ Td.zero ?_ ?_); (· rfl); (· rfl); (· rfl); (· exact R1.out.blk)) | ((with_reducible refine cs_load ?_ ?_ (w.heap.size + 1) ?_ Td.zero ?_ ?_); (· rfl); (· rfl); (· rfl); (· exact R1.out.blk)) | ((with_reducible refine i8_load ?_ ?_ (k3) ?_ (roleN x r) ?_ ?_); (· rfl); (· rfl); (· rfl); (· exact G3.out.blk)) | ((with_reducible refine cd_load ?_ ?_ (k5) ?_ d ?_ ?_); (· rfl); (· rfl); (· rfl); (· exact C5.out.blk)))
            go_roundg g
            case measure => omega
            case rel => exact ⟨k + 1, by omega, by go_num, T0.out, R1.out, G3.out, bel.out⟩
        · have g1 : (c.info != 1) = true := by simp [h1]
          have hx : ¬ (c.info = 1 ∧ c.v = m ∧ c.t = r.t) := fun h => h1 h.1
          clear h1
          obtain ⟨d, hd⟩ : ∃ d : Cd, d = { c with info := 1, v := m, t := r.t, agd := false, syd := false, agr := false, prd := false, tel := true, role := 3 } := ⟨_, rfl⟩
          replace HN := Lib.hid (HN.out.trans ((if_neg hx).trans hd.symm))
          clear hx
          replace hd := Lib.hid hd
          have gq := G3.out.at k g3.out
          have C5_4 := C5.out.at 4 rfl
          have C5_5 := C5.out.at 5 rfl
          have C5_6 := C5.out.at 6 rfl
          have C5_7 := C5.out.at 7 rfl
          have C5_8 := C5.out.at 8 rfl
          have C5_9 := C5.out.at 9 rfl
          have C5_10 := C5.out.at 10 rfl
          have C5_11 := C5.out.at 11 rfl
          have C5_12 := C5.out.at 12 rfl
          have M6_0 := M6.out.at 0 rfl
          have M6_1 := M6.out.at 1 rfl
          have M6_2 := M6.out.at 2 rfl
          have M6_3 := M6.out.at 3 rfl
          have T0_9 := T0.out.at 9 (v := .int .i64 r.t.a) rfl
          have T0_10 := T0.out.at 10 (v := .int .i64 r.t.m) rfl
          have T0_11 := T0.out.at 11 (v := .int .i64 r.t.h) rfl
          have T0_12 := T0.out.at 12 (v := .int .i64 r.t.d) rfl
          go_upto_region 13 with fail
          clear gq C5_4 C5_5 C5_6 C5_7 C5_8 C5_9 C5_10 C5_11 C5_12 M6_0 M6_1 M6_2 M6_3 T0_9 T0_10 T0_11 T0_12
          refine wp_region_noPanic ?_
          refine wp_region_held_drew (S := fun w' => w'.cell? ⟨k6, 0, none⟩ = some (.int .u64 m.r) ∧ w'.cell? ⟨k6, 1, none⟩ = some (.int .u64 m.c) ∧ w'.cell? ⟨k6, 2, none⟩ = some (.int .u64 m.b) ∧ w'.cell? ⟨k6, 3, none⟩ = some (.int .i64 m.p) ∧ w'.cell? ⟨w.heap.size, 9, none⟩ = some (.int .i64 r.t.a) ∧ w'.cell? ⟨w.heap.size, 10, none⟩ = some (.int .i64 r.t.m) ∧ w'.cell? ⟨w.heap.size, 11, none⟩ = some (.int .i64 r.t.h) ∧ w'.cell? ⟨w.heap.size, 12, none⟩ = some (.int .i64 r.t.d)) (by kernel_rfl) (by exact ⟨M6.out.at 0 rfl, M6.out.at 1 rfl, M6.out.at 2 rfl, M6.out.at 3 rfl, T0.out.at 9 (v := .int .i64 r.t.a) rfl, T0.out.at 10 (v := .int .i64 r.t.m) rfl, T0.out.at 11 (v := .int .i64 r.t.h) rfl, T0.out.at 12 (v := .int .i64 r.t.d) rfl⟩) (fun hHeld => ?_)
          replace bel := Lib.hid (Bx.bel_drewn bel.out)
          replace T0 := Lib.hid (T0.out.drew)
          replace R1 := Lib.hid (R1.out.drew)
          replace G3 := Lib.hid (G3.out.drew)
          replace C5 := Lib.hid (C5.out.drew)
          replace M6 := Lib.hid (M6.out.drew)
          refine wpAnyH_take (i := 0) (oi := ?oz4x0) (v := ?vz4x0) ?hiz4x0 (by kernel_rfl) (by kernel_rfl) (by kernel_rfl) (fun _ _ _ h => h) ?yz4x0 (by assumption) ?rz4x0
          case hiz4x0 => (simp only [List.getElem?_toArray, List.getElem?_cons_zero]; rfl)
          case yz4x0 => (refine Or.inl ⟨by rfl, ?_⟩; intro w' hSw; (try dsimp only at hSw); go_simp; (try with_reducible rfl))
          try simp only [Act.put, List.setIfInBounds_toArray, List.set_cons_zero, List.set_cons_succ]
          refine wpAnyH_take (i := 1) (oi := ?oz4x1) (v := ?vz4x1) ?hiz4x1 (by kernel_rfl) (by kernel_rfl) (by kernel_rfl) (fun _ _ _ h => h) ?yz4x1 (by assumption) ?rz4x1
          case hiz4x1 => (simp only [List.getElem?_toArray, List.getElem?_cons_succ, List.getElem?_cons_zero]; rfl)
          case yz4x1 => (refine Or.inl ⟨by rfl, ?_⟩; intro w' hSw; (try dsimp only at hSw); go_simp; (try with_reducible rfl))
          try simp only [Act.put, List.setIfInBounds_toArray, List.set_cons_zero, List.set_cons_succ]
          refine wpAnyH_take (i := 2) (oi := ?oz4x2) (v := ?vz4x2) ?hiz4x2 (by kernel_rfl) (by kernel_rfl) (by kernel_rfl) (fun _ _ _ h => h) ?yz4x2 (by assumption) ?rz4x2
          case hiz4x2 => (simp only [List.getElem?_toArray, List.getElem?_cons_succ, List.getElem?_cons_zero]; rfl)
          case yz4x2 => (refine Or.inl ⟨by rfl, ?_⟩; intro w' hSw; (try dsimp only at hSw); go_simp; (try with_reducible rfl))
          try simp only [Act.put, List.setIfInBounds_toArray, List.set_cons_zero, List.set_cons_succ]
          refine wpAnyH_take (i := 3) (oi := ?oz4x3) (v := ?vz4x3) ?hiz4x3 (by kernel_rfl) (by kernel_rfl) (by kernel_rfl) (fun _ _ _ h => h) ?yz4x3 (by assumption) ?rz4x3
          case hiz4x3 => (simp only [List.getElem?_toArray, List.getElem?_cons_succ, List.getElem?_cons_zero]; rfl)
          case yz4x3 => (refine Or.inl ⟨by rfl, ?_⟩; intro w' hSw; (try dsimp only at hSw); go_simp; (try with_reducible rfl))
          try simp only [Act.put, List.setIfInBounds_toArray, List.set_cons_zero, List.set_cons_succ]
          refine wpAnyH_ready (rs := [4]) (by kernel_rfl) (by simp) ?_
          refine AllReadyH.cons (o := ?oz4x4) ?hiz4x4 ?hstz4x4 AllReadyH.nil
          case hiz4x4 => (simp only [List.getElem?_toArray, List.getElem?_cons_succ, List.getElem?_cons_zero]; rfl)
          intro K hK
          rw [if_pos (by rfl)]
          refine vec_wp rfl (k5) 5 rfl m rfl (cdl c) (by simp) C5.out ?_
          refine hK.out _ _ ⟨Bx.cell_apart_at _ _ (by omega) hHeld.1, Bx.cell_apart_at _ _ (by omega) hHeld.2.1, Bx.cell_apart_at _ _ (by omega) hHeld.2.2.1, Bx.cell_apart_at _ _ (by omega) hHeld.2.2.2.1, Bx.cell_apart_at _ _ (by omega) hHeld.2.2.2.2.1, Bx.cell_apart_at _ _ (by omega) hHeld.2.2.2.2.2.1, Bx.cell_apart_at _ _ (by omega) hHeld.2.2.2.2.2.2.1, Bx.cell_apart_at _ _ (by omega) hHeld.2.2.2.2.2.2.2⟩ (fun hNew => ?_)
          clear hHeld
          have hHeld := hNew
          clear hNew hK K
          try simp only [Act.put]
          replace bel := Lib.hid (Bx.bel_put_at (k := k5) (enc m) 5 (by omega) bel.out)
          replace T0 := Lib.hid (Bx.Fre.apart_at (k' := k5) (enc m) 5 (by omega) T0.out)
          replace R1 := Lib.hid (Bx.Fre.apart_at (k' := k5) (enc m) 5 (by omega) R1.out)
          replace G3 := Lib.hid (Bx.Fre.apart_at (k' := k5) (enc m) 5 (by omega) G3.out)
          replace C5 := Lib.hid (Bx.Fre.put_at (enc m) 5 C5.out)
          replace M6 := Lib.hid (Bx.Fre.apart_at (k' := k5) (enc m) 5 (by omega) M6.out)
          refine wpAnyH_take (i := 5) (oi := ?oz4x5) (v := ?vz4x5) ?hiz4x5 (by kernel_rfl) (by kernel_rfl) (by kernel_rfl) (fun _ _ _ h => h) ?yz4x5 (by assumption) ?rz4x5
          case hiz4x5 => (simp only [List.getElem?_toArray, List.getElem?_cons_succ, List.getElem?_cons_zero]; rfl)
          case yz4x5 => (refine Or.inl ⟨by rfl, ?_⟩; intro w' hSw; (try dsimp only at hSw); go_simp; (try with_reducible rfl))
          try simp only [Act.put, List.setIfInBounds_toArray, List.set_cons_zero, List.set_cons_succ]
          refine wpAnyH_ready (rs := [6]) (by kernel_rfl) (by simp) ?_
          refine AllReadyH.cons (o := ?oz4x6) ?hiz4x6 ?hstz4x6 AllReadyH.nil
          case hiz4x6 => (simp only [List.getElem?_toArray, List.getElem?_cons_succ, List.getElem?_cons_zero]; rfl)
          intro K hK
          rw [if_pos (by rfl)]
          refine tm_wp rfl (k5) 9 rfl r.t rfl (Bx.setL (cdl c) 5 (enc m)) (by simp [Bx.setL, enc]) C5.out ?_
          refine hK.out _ _ ⟨Bx.cell_apart_at _ _ (by omega) hHeld.1, Bx.cell_apart_at _ _ (by omega) hHeld.2.1, Bx.cell_apart_at _ _ (by omega) hHeld.2.2.1, Bx.cell_apart_at _ _ (by omega) hHeld.2.2.2.1, Bx.cell_apart_at _ _ (by omega) hHeld.2.2.2.2.1, Bx.cell_apart_at _ _ (by omega) hHeld.2.2.2.2.2.1, Bx.cell_apart_at _ _ (by omega) hHeld.2.2.2.2.2.2.1, Bx.cell_apart_at _ _ (by omega) hHeld.2.2.2.2.2.2.2⟩ (fun hNew => ?_)
          clear hHeld
          have hHeld := hNew
          clear hNew hK K
          try simp only [Act.put]
          replace bel := Lib.hid (Bx.bel_put_at (k := k5) (tenc r.t) 9 (by omega) bel.out)
          replace T0 := Lib.hid (Bx.Fre.apart_at (k' := k5) (tenc r.t) 9 (by omega) T0.out)
          replace R1 := Lib.hid (Bx.Fre.apart_at (k' := k5) (tenc r.t) 9 (by omega) R1.out)
          replace G3 := Lib.hid (Bx.Fre.apart_at (k' := k5) (tenc r.t) 9 (by omega) G3.out)
          replace C5 := Lib.hid (Bx.Fre.put_at (tenc r.t) 9 C5.out)
          replace M6 := Lib.hid (Bx.Fre.apart_at (k' := k5) (tenc r.t) 9 (by omega) M6.out)
          refine wpAnyH_take (i := 7) (oi := ?oz4x7) (v := ?vz4x7) ?hiz4x7 (by kernel_rfl) (by kernel_rfl) (by kernel_rfl) (fun _ _ _ h => h) ?yz4x7 (by assumption) ?rz4x7
          case hiz4x7 => (simp only [List.getElem?_toArray, List.getElem?_cons_succ, List.getElem?_cons_zero]; rfl)
          case yz4x7 => (refine Or.inl ⟨by rfl, ?_⟩; intro w' hSw; (try dsimp only at hSw); go_simp; (try with_reducible rfl))
          try simp only [Act.put, List.setIfInBounds_toArray, List.set_cons_zero, List.set_cons_succ]
          refine wpAnyH_ready (rs := [8]) (by kernel_rfl) (by simp) ?_
          refine AllReadyH.cons (o := ?oz4x8) ?hiz4x8 ?hstz4x8 AllReadyH.nil
          case hiz4x8 => (simp only [List.getElem?_toArray, List.getElem?_cons_succ, List.getElem?_cons_zero]; rfl)
          intro K hK
          have z4 := C5.out.at 4 rfl; have f4 := C5.out.2.2 4; go_simp
          refine hK.out _ _ ⟨(by first | exact Bx.cell_other (by omega) hHeld.1 | exact Bx.cell_other_drew (by omega) hHeld.1), (by first | exact Bx.cell_other (by omega) hHeld.2.1 | exact Bx.cell_other_drew (by omega) hHeld.2.1), (by first | exact Bx.cell_other (by omega) hHeld.2.2.1 | exact Bx.cell_other_drew (by omega) hHeld.2.2.1), (by first | exact Bx.cell_other (by omega) hHeld.2.2.2.1 | exact Bx.cell_other_drew (by omega) hHeld.2.2.2.1), (by first | exact Bx.cell_other (by omega) hHeld.2.2.2.2.1 | exact Bx.cell_other_drew (by omega) hHeld.2.2.2.2.1), (by first | exact Bx.cell_other (by omega) hHeld.2.2.2.2.2.1 | exact Bx.cell_other_drew (by omega) hHeld.2.2.2.2.2.1), (by first | exact Bx.cell_other (by omega) hHeld.2.2.2.2.2.2.1 | exact Bx.cell_other_drew (by omega) hHeld.2.2.2.2.2.2.1), (by first | exact Bx.cell_other (by omega) hHeld.2.2.2.2.2.2.2 | exact Bx.cell_other_drew (by omega) hHeld.2.2.2.2.2.2.2)⟩ (fun hNew => ?_)
          clear hHeld
          have hHeld := hNew
          clear hNew hK K
          replace bel := Lib.hid (Bx.bel_set (k := k5) (o := 4) (x := .int .i64 1) (by omega) bel.out)
          replace T0 := Lib.hid (T0.out.other (k' := k5) (o := 4) (x := .int .i64 1) (by omega))
          replace R1 := Lib.hid (R1.out.other (k' := k5) (o := 4) (x := .int .i64 1) (by omega))
          replace G3 := Lib.hid (G3.out.other (k' := k5) (o := 4) (x := .int .i64 1) (by omega))
          replace C5 := Lib.hid (C5.out.set 4 (.int .i64 1))
          replace M6 := Lib.hid (M6.out.other (k' := k5) (o := 4) (x := .int .i64 1) (by omega))
          refine wpAnyH_done (by kernel_rfl) ?_ _
          refine NoPanic.normal ?_
          clear hHeld
          replace C5 := Lib.hid (C5.out.of (m := cdl { c with info := 1, v := m, t := r.t }) rfl)
          generalize ((w2.drew.setCells k5 5 (enc m)).setCells k5 9 (tenc r.t)).setCell ⟨k5, 4, none⟩ (.int .i64 1) = w6 at *
          have C5_15 := C5.out.at 15 rfl
          have C5_20 := C5.out.at 20 rfl
          have C5_22 := C5.out.at 22 rfl
          have C5_16 := C5.out.at 16 rfl
          have C5_18 := C5.out.at 18 rfl
          have C5f15 := C5.out.2.2 15
          have C5f20 := C5.out.2.2 20
          have C5f22 := C5.out.2.2 22
          have C5f16 := C5.out.2.2 16
          have C5f18 := C5.out.2.2 18
          replace T0 := Lib.hid (T0.out.other (k' := k5) (o := 15) (x := .bool false) (by omega))
          replace R1 := Lib.hid (R1.out.other (k' := k5) (o := 15) (x := .bool false) (by omega))
          replace G3 := Lib.hid (G3.out.other (k' := k5) (o := 15) (x := .bool false) (by omega))
          replace M6 := Lib.hid (M6.out.other (k' := k5) (o := 15) (x := .bool false) (by omega))
          replace bel := Lib.hid (Bx.bel_set (k := k5) (o := 15) (x := .bool false) (by omega) bel.out)
          replace C5 := Lib.hid ((C5.out.set (15) (.bool false)).of (m := (cdl { c with info := 1, v := m, t := r.t, agd := false })) (by first | rfl | simp [enc, tenc]))
          replace T0 := Lib.hid (T0.out.other (k' := k5) (o := 20) (x := .bool false) (by omega))
          replace R1 := Lib.hid (R1.out.other (k' := k5) (o := 20) (x := .bool false) (by omega))
          replace G3 := Lib.hid (G3.out.other (k' := k5) (o := 20) (x := .bool false) (by omega))
          replace M6 := Lib.hid (M6.out.other (k' := k5) (o := 20) (x := .bool false) (by omega))
          replace bel := Lib.hid (Bx.bel_set (k := k5) (o := 20) (x := .bool false) (by omega) bel.out)
          replace C5 := Lib.hid ((C5.out.set (20) (.bool false)).of (m := (cdl { c with info := 1, v := m, t := r.t, agd := false, syd := false })) (by first | rfl | simp [enc, tenc]))
          replace T0 := Lib.hid (T0.out.other (k' := k5) (o := 22) (x := .bool true) (by omega))
          replace R1 := Lib.hid (R1.out.other (k' := k5) (o := 22) (x := .bool true) (by omega))
          replace G3 := Lib.hid (G3.out.other (k' := k5) (o := 22) (x := .bool true) (by omega))
          replace M6 := Lib.hid (M6.out.other (k' := k5) (o := 22) (x := .bool true) (by omega))
          replace bel := Lib.hid (Bx.bel_set (k := k5) (o := 22) (x := .bool true) (by omega) bel.out)
          replace C5 := Lib.hid ((C5.out.set (22) (.bool true)).of (m := (cdl { c with info := 1, v := m, t := r.t, agd := false, syd := false, tel := true })) (by first | rfl | simp [enc, tenc]))
          replace T0 := Lib.hid (T0.out.other (k' := k5) (o := 16) (x := .bool false) (by omega))
          replace R1 := Lib.hid (R1.out.other (k' := k5) (o := 16) (x := .bool false) (by omega))
          replace G3 := Lib.hid (G3.out.other (k' := k5) (o := 16) (x := .bool false) (by omega))
          replace M6 := Lib.hid (M6.out.other (k' := k5) (o := 16) (x := .bool false) (by omega))
          replace bel := Lib.hid (Bx.bel_set (k := k5) (o := 16) (x := .bool false) (by omega) bel.out)
          replace C5 := Lib.hid ((C5.out.set (16) (.bool false)).of (m := (cdl { c with info := 1, v := m, t := r.t, agd := false, syd := false, tel := true, agr := false })) (by first | rfl | simp [enc, tenc]))
          replace T0 := Lib.hid (T0.out.other (k' := k5) (o := 18) (x := .bool false) (by omega))
          replace R1 := Lib.hid (R1.out.other (k' := k5) (o := 18) (x := .bool false) (by omega))
          replace G3 := Lib.hid (G3.out.other (k' := k5) (o := 18) (x := .bool false) (by omega))
          replace M6 := Lib.hid (M6.out.other (k' := k5) (o := 18) (x := .bool false) (by omega))
          replace bel := Lib.hid (Bx.bel_set (k := k5) (o := 18) (x := .bool false) (by omega) bel.out)
          replace C5 := Lib.hid ((C5.out.set (18) (.bool false)).of (m := (cdl { c with info := 1, v := m, t := r.t, agd := false, syd := false, tel := true, agr := false, prd := false })) (by first | rfl | simp [enc, tenc]))
          go_upto_region 16 with fail
          clear C5_15 C5_20 C5_22 C5_16 C5_18 C5f15 C5f20 C5f22 C5f16 C5f18
          generalize (((((w6.setCell ⟨k5, 15, none⟩ (.bool false)).setCell ⟨k5, 20, none⟩ (.bool false)).setCell ⟨k5, 22, none⟩ (.bool true)).setCell ⟨k5, 16, none⟩ (.bool false)).setCell ⟨k5, 18, none⟩ (.bool false)) = w8 at *
          have gq := G3.out.at k g3.out
          have C5_13 := C5.out.at 13 rfl
          have C5f13 := C5.out.2.2 13
          replace T0 := Lib.hid (T0.out.other (k' := k5) (o := 13) (x := .int .i64 3) (by omega))
          replace R1 := Lib.hid (R1.out.other (k' := k5) (o := 13) (x := .int .i64 3) (by omega))
          replace G3 := Lib.hid (G3.out.other (k' := k5) (o := 13) (x := .int .i64 3) (by omega))
          replace M6 := Lib.hid (M6.out.other (k' := k5) (o := 13) (x := .int .i64 3) (by omega))
          replace bel := Lib.hid (Bx.bel_set (k := k5) (o := 13) (x := .int .i64 3) (by omega) bel.out)
          replace C5 := Lib.hid ((C5.out.set (13) (.int .i64 3)).of (m := (cdl d)) (by rw [hd.out]; rfl))
          go_upto_region 17 with fail
          clear gq C5_13 C5f13
          generalize (w8.setCell ⟨k5, 13, none⟩ (.int .i64 3)) = w9 at *
          have T9 := T0
          have C9 := C5
          replace R1 := Lib.hid (R1.out.apart_at (k' := w.heap.size) (cdl d) (14 + k * 31) (by omega))
          replace G3 := Lib.hid (G3.out.apart_at (k' := w.heap.size) (cdl d) (14 + k * 31) (by omega))
          replace C5 := Lib.hid (C5.out.apart_at (k' := w.heap.size) (cdl d) (14 + k * 31) (by omega))
          replace M6 := Lib.hid (M6.out.apart_at (k' := w.heap.size) (cdl d) (14 + k * 31) (by omega))
          replace bel := Lib.hid (Bx.bel_put_at (k := w.heap.size) (cdl d) (14 + k * 31) (by omega) bel.out)
          replace T0 := Lib.hid ((Bx.Fre.put_at (cdl d) (14 + k * 31) T0.out).of (m := (tdl (Td.mk x.id x.own r.v r.t r.p (mixN (eleC x r) x.cs (k + 1))))) (HP.out d (HN.out)))
          go_wp2_with (first | ((with_reducible refine cc_store ?_ ?_ (w.heap.size) k hk ?_ d ?_ (Td.mk x.id x.own r.v r.t r.p (mixN (eleC x r) x.cs k)) ?_ ?_); (· rfl); (· rfl); (· rfl); (· rfl); (· exact T9.out)) | ((with_reducible refine cd_load ?_ ?_ (k5) ?_ d ?_ ?_); (· rfl); (· rfl); (· rfl); (· exact C9.out.blk)) | ((with_reducible refine td_load ?_ ?_ (w.heap.size) ?_ (Td.mk x.id x.own r.v r.t r.p (mixN (eleC x r) x.cs (k + 1))) ?_ ?_); (· rfl); (· rfl); (· rfl); (· exact T0.out.blk)) | ((with_reducible refine cs_load ?_ ?_ (w.heap.size) ?_ (Td.mk x.id x.own r.v r.t r.p (mixN (eleC x r) x.cs (k + 1))) ?_ ?_); (· rfl); (· rfl); (· rfl); (· exact T0.out.blk)) | ((with_reducible refine td_load ?_ ?_ (w.heap.size + 1) ?_ Td.zero ?_ ?_); (· rfl); (· rfl); (· rfl); (· exact R1.out.blk)) | ((with_reducible refine cs_load ?_ ?_ (w.heap.size + 1) ?_ Td.zero ?_ ?_); (· rfl); (· rfl); (· rfl); (· exact R1.out.blk)) | ((with_reducible refine i8_load ?_ ?_ (k3) ?_ (roleN x r) ?_ ?_); (· rfl); (· rfl); (· rfl); (· exact G3.out.blk)) | ((with_reducible refine cd_load ?_ ?_ (k5) ?_ d ?_ ?_); (· rfl); (· rfl); (· rfl); (· exact C5.out.blk)))
          go_roundg g
          case measure => omega
          case rel => exact ⟨k + 1, by omega, by go_num, T0.out, R1.out, G3.out, bel.out⟩

end Elt
end Go.Proofs.Ytlaahomkgaaciaa
