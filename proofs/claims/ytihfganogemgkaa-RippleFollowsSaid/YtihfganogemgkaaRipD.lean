/-
  What rootStep and Step answer.
-/
import Derived.Test.YtihfganogemgkaaRipB
import Derived.Test.YtihfganogemgkaaRipC
namespace Go.Proofs.Ytihfganogemgkaa
open Go.RowKit
namespace Rip
open Pre Crd Tre Elt

set_option maxRecDepth 40000 in
set_option maxHeartbeats 8000000 in
theorem root_step (x : Td) (i : Nat) (hi : i < 8) (w : World) : Calls Try.prog 23 #[tdv x, .int .i64 (i : Int)] w fun e w' => e = .returned (tdv (rotT x i)) ∧ Below w.heap.size w w' := by
  have hi0 : (0 : Int) ≤ i := by omega
  have hi8 : (i : Int) < 8 := by omega
  have HY := Lib.hid (syn_any x)
  have HL := Lib.hid (held_any (synT x) i)
  have HA := Lib.hid agree_any
  have HR := Lib.hid rec_any
  have HF := Lib.hid forward_any
  have HE : Hid (rotT x i = rot3 (rot2 (rot1 x i) i) i) := Lib.hid rfl
  have hal := zero_at
  have T0 : Hid (Bx.Fre (w.alloc (tdo x)) w.heap.size (tdl x)) := Lib.hid (Bx.Fre.new w (tdl x) 31)
  have bel := Lib.hid (Bx.box_below w (tdo x))
  replace T0 := Lib.hid (T0.out.more (tdo Td.zero))
  have R1 : Hid (Bx.Fre ((w.alloc (tdo x)).alloc (tdo Td.zero)) (w.heap.size + 1) (tdl Td.zero)) := Lib.hid (Bx.Fre.new_at (W := (w.alloc (tdo x))) (k := w.heap.size + 1) (tdl Td.zero) 31 (by simp))
  replace bel := Lib.hid (Bx.bel_box bel.out (tdo Td.zero))
  go_enter Try.func23, Try.ntmps23
  go_upto_region 1 with fail
  clear hal
  generalize ((w.alloc (tdo x)).alloc (tdo Td.zero)) = W0 at *
  have q1 : W0.cell? ⟨w.heap.size, 14 + i * 31 + 18, none⟩ = some (.bool (x.cs i).prd) := cord_cell (x := x) T0.out.blk i 18 hi (by omega) rfl
  rcases Bool.eq_false_or_eq_true (x.cs i).prd with h | h
  · rw [show rot1 x i = agrT (synT x) i from if_pos h] at HE
    rw [h] at q1
    clear h
    have HH : Hid (agrT (synT x) i = if heldB (synT x) (i : Int) = true then putT (synT x) i (agrC ((synT x).cs i)) else synT x) := Lib.hid rfl
    generalize synT x = y at *
    generalize heldB y (i : Int) = b at *
    go_upto_region 2 with fail
    clear q1
    go_wp2_with (first | ((with_reducible refine td_load ?_ ?_ (w.heap.size) ?_ x ?_ ?_); (· rfl); (· rfl); (· rfl); (· exact T0.out.blk)) | ((with_reducible refine cs_load ?_ ?_ (w.heap.size) ?_ x ?_ ?_); (· rfl); (· rfl); (· rfl); (· exact T0.out.blk)))
    refine (HY.out _).mono ?_; rintro e w1 ⟨rfl, hb⟩
    replace T0 := Lib.hid (T0.out.keep hb)
    replace R1 := Lib.hid (R1.out.keep hb)
    replace bel := Lib.hid (Bx.then_below bel.out hb)
    clear hb
    go_upto_region 3 with (first | ((with_reducible refine td_store ?_ ?_ (w.heap.size) y ?_ ?_ (tdl x) ?_ ?_ ?_); (· rfl); (· rfl); (· rfl); (· rfl); (· exact tdl_len _); (· exact T0.out.own)))
    replace R1 := Lib.hid (R1.out.apart_at (k' := w.heap.size) (tdl y) 0 (by omega))
    replace bel := Lib.hid (Bx.bel_put_at (k := w.heap.size) (tdl y) 0 (by omega) bel.out)
    replace T0 := Lib.hid (T0.out.full (m := (tdl y)) (by rw [tdl_len, tdl_len]))
    generalize (w1.setCells (w.heap.size) 0 (tdl y)) = W3 at *
    go_wp2_with (first | ((with_reducible refine td_load ?_ ?_ (w.heap.size) ?_ y ?_ ?_); (· rfl); (· rfl); (· rfl); (· exact T0.out.blk)) | ((with_reducible refine cs_load ?_ ?_ (w.heap.size) ?_ y ?_ ?_); (· rfl); (· rfl); (· rfl); (· exact T0.out.blk)))
    refine (HL.out _).mono ?_; rintro e w2 ⟨rfl, hb⟩
    replace T0 := Lib.hid (T0.out.keep hb)
    replace R1 := Lib.hid (R1.out.keep hb)
    replace bel := Lib.hid (Bx.then_below bel.out hb)
    clear hb
    cases b with
    | true =>
      rw [show agrT y i = putT y i (agrC (y.cs i)) from HH.out.trans (if_pos rfl)] at HE
      clear HH
      have HB := Lib.hid (HA.out (y.cs i))
      generalize agrC (y.cs i) = a at *
      go_upto_region 4 with fail
      go_wp2_with (first | ((with_reducible refine cc_load ?_ ?_ (w.heap.size) i hi ?_ y ?_ ?_); (· rfl); (· rfl); (· rfl); (· exact T0.out.blk)) | ((with_reducible refine td_load ?_ ?_ (w.heap.size) ?_ y ?_ ?_); (· rfl); (· rfl); (· rfl); (· exact T0.out.blk)) | ((with_reducible refine cs_load ?_ ?_ (w.heap.size) ?_ y ?_ ?_); (· rfl); (· rfl); (· rfl); (· exact T0.out.blk)) | ((with_reducible refine td_load ?_ ?_ (w.heap.size + 1) ?_ Td.zero ?_ ?_); (· rfl); (· rfl); (· rfl); (· exact R1.out.blk)) | ((with_reducible refine cs_load ?_ ?_ (w.heap.size + 1) ?_ Td.zero ?_ ?_); (· rfl); (· rfl); (· rfl); (· exact R1.out.blk)))
      refine (HB.out _).mono ?_; rintro e w3 ⟨rfl, hb⟩
      replace T0 := Lib.hid (T0.out.keep hb)
      replace R1 := Lib.hid (R1.out.keep hb)
      replace bel := Lib.hid (Bx.then_below bel.out hb)
      clear hb
      go_upto_region 5 with (first | ((with_reducible refine cc_store ?_ ?_ (w.heap.size) i hi ?_ a ?_ y ?_ ?_); (· rfl); (· rfl); (· rfl); (· rfl); (· exact T0.out)))
      replace R1 := Lib.hid (R1.out.apart_at (k' := w.heap.size) (cdl a) (14 + i * 31) (by omega))
      replace bel := Lib.hid (Bx.bel_put_at (k := w.heap.size) (cdl a) (14 + i * 31) (by omega) bel.out)
      replace T0 := Lib.hid ((Bx.Fre.put_at (cdl a) (14 + i * 31) T0.out).of (m := (tdl (putT y i a))) (tdl_upd y i hi a))
      generalize (w3.setCells (w.heap.size) (14 + i * 31) (cdl a)) = W5 at *
      obtain ⟨z, hz⟩ : ∃ z : Td, z = putT y i a := ⟨_, rfl⟩
      replace T0 := Lib.hid (T0.out.of (m := tdl z) (by rw [hz]))
      rw [← hz] at HE
      clear hz
      have HZ := Lib.hid (HR.out z)
      have q5 : W5.cell? ⟨w.heap.size, 14 + i * 31 + 14, none⟩ = some (.int .i64 (z.cs i).st) := cord_cell (x := z) T0.out.blk i 14 hi (by omega) rfl
      by_cases h2 : (z.cs i).st = 2
      · have g2 : ((z.cs i).st != 2) = false := by simp [h2]
        rw [show rot2 z i = z from if_pos h2] at HE
        clear h2
        go_upto_region 8 with fail
        clear q5
        have q8 : W5.cell? ⟨w.heap.size, 14 + i * 31 + 9 + 3, none⟩ = some (.int .i64 (z.cs i).t.d) := cord_cell (x := z) T0.out.blk i 12 hi (by omega) rfl
        rw [show rot3 z i = putT z i { z.cs i with rcn := max (z.cs i).t.d 1 } from rfl] at HE
        have q9 : W5.cell? ⟨w.heap.size, 14 + i * 31 + 26, none⟩ = some (.int .i64 (z.cs i).rcn) := cord_cell (x := z) T0.out.blk i 26 hi (by omega) rfl
        have f9 := T0.out.2.2 (14 + i * 31 + 26)
        replace R1 := Lib.hid (R1.out.other (k' := w.heap.size) (o := 14 + i * 31 + 26) (x := .int .i64 (max (z.cs i).t.d 1)) (by omega))
        replace bel := Lib.hid (Bx.bel_set (k := w.heap.size) (o := 14 + i * 31 + 26) (x := .int .i64 (max (z.cs i).t.d 1)) (by omega) bel.out)
        replace T0 := Lib.hid ((T0.out.set (14 + i * 31 + 26) (.int .i64 (max (z.cs i).t.d 1))).of (m := (tdl (putT z i { z.cs i with rcn := max (z.cs i).t.d 1 }))) (tdl_set z i 26 hi (by omega) _ { z.cs i with rcn := max (z.cs i).t.d 1 } rfl))
        go_upto_region 9 with fail
        clear q8 q9 f9
        generalize (W5.setCell ⟨w.heap.size, 14 + i * 31 + 26, none⟩ (.int .i64 (max (z.cs i).t.d 1))) = W9 at *
        obtain ⟨v, hv⟩ : ∃ v : Td, v = putT z i { z.cs i with rcn := max (z.cs i).t.d 1 } := ⟨_, rfl⟩
        replace T0 := Lib.hid (T0.out.of (m := tdl v) (by rw [hv]))
        rw [← hv] at HE
        clear hv
        go_wp2_with (first | ((with_reducible refine td_store ?_ ?_ (w.heap.size + 1) v ?_ ?_ (tdl Td.zero) ?_ ?_ ?_); (· rfl); (· rfl); (· rfl); (· rfl); (· exact tdl_len _); (· exact R1.out.own)) | ((with_reducible refine td_load ?_ ?_ (w.heap.size) ?_ v ?_ ?_); (· rfl); (· rfl); (· rfl); (· exact T0.out.blk)) | ((with_reducible refine cs_load ?_ ?_ (w.heap.size) ?_ v ?_ ?_); (· rfl); (· rfl); (· rfl); (· exact T0.out.blk)))
        replace T0 := Lib.hid (T0.out.apart_at (k' := w.heap.size + 1) (tdl v) 0 (by omega))
        replace bel := Lib.hid (Bx.bel_put_at (k := w.heap.size + 1) (tdl v) 0 (by omega) bel.out)
        replace R1 := Lib.hid (R1.out.full (m := (tdl v)) (by rw [tdl_len, tdl_len]))
        exact bodyPost_ret (v := tdv v) (td_result Try.results23 rfl R1.out.blk) rfl ⟨by rw [HE.out], bel.out⟩
      · have g2 : ((z.cs i).st != 2) = true := by simp [h2]
        rw [show rot2 z i = putT (recT z) i (forC ((recT z).cs i)) from if_neg h2] at HE
        clear h2
        generalize recT z = r at *
        have HG := Lib.hid (HF.out (r.cs i))
        generalize forC (r.cs i) = f at *
        go_upto_region 6 with fail
        clear q5
        go_wp2_with (first | ((with_reducible refine td_load ?_ ?_ (w.heap.size) ?_ z ?_ ?_); (· rfl); (· rfl); (· rfl); (· exact T0.out.blk)) | ((with_reducible refine cs_load ?_ ?_ (w.heap.size) ?_ z ?_ ?_); (· rfl); (· rfl); (· rfl); (· exact T0.out.blk)))
        refine (HZ.out _).mono ?_; rintro e w4 ⟨rfl, hb⟩
        replace T0 := Lib.hid (T0.out.keep hb)
        replace R1 := Lib.hid (R1.out.keep hb)
        replace bel := Lib.hid (Bx.then_below bel.out hb)
        clear hb
        go_upto_region 7 with (first | ((with_reducible refine td_store ?_ ?_ (w.heap.size) r ?_ ?_ (tdl z) ?_ ?_ ?_); (· rfl); (· rfl); (· rfl); (· rfl); (· exact tdl_len _); (· exact T0.out.own)))
        replace R1 := Lib.hid (R1.out.apart_at (k' := w.heap.size) (tdl r) 0 (by omega))
        replace bel := Lib.hid (Bx.bel_put_at (k := w.heap.size) (tdl r) 0 (by omega) bel.out)
        replace T0 := Lib.hid (T0.out.full (m := (tdl r)) (by rw [tdl_len, tdl_len]))
        generalize (w4.setCells (w.heap.size) 0 (tdl r)) = W7 at *
        go_wp2_with (first | ((with_reducible refine cc_load ?_ ?_ (w.heap.size) i hi ?_ r ?_ ?_); (· rfl); (· rfl); (· rfl); (· exact T0.out.blk)) | ((with_reducible refine td_load ?_ ?_ (w.heap.size) ?_ r ?_ ?_); (· rfl); (· rfl); (· rfl); (· exact T0.out.blk)) | ((with_reducible refine cs_load ?_ ?_ (w.heap.size) ?_ r ?_ ?_); (· rfl); (· rfl); (· rfl); (· exact T0.out.blk)) | ((with_reducible refine td_load ?_ ?_ (w.heap.size + 1) ?_ Td.zero ?_ ?_); (· rfl); (· rfl); (· rfl); (· exact R1.out.blk)) | ((with_reducible refine cs_load ?_ ?_ (w.heap.size + 1) ?_ Td.zero ?_ ?_); (· rfl); (· rfl); (· rfl); (· exact R1.out.blk)))
        refine (HG.out _).mono ?_; rintro e w5 ⟨rfl, hb⟩
        replace T0 := Lib.hid (T0.out.keep hb)
        replace R1 := Lib.hid (R1.out.keep hb)
        replace bel := Lib.hid (Bx.then_below bel.out hb)
        clear hb
        go_upto_region 8 with (first | ((with_reducible refine cc_store ?_ ?_ (w.heap.size) i hi ?_ f ?_ r ?_ ?_); (· rfl); (· rfl); (· rfl); (· rfl); (· exact T0.out)))
        replace R1 := Lib.hid (R1.out.apart_at (k' := w.heap.size) (cdl f) (14 + i * 31) (by omega))
        replace bel := Lib.hid (Bx.bel_put_at (k := w.heap.size) (cdl f) (14 + i * 31) (by omega) bel.out)
        replace T0 := Lib.hid ((Bx.Fre.put_at (cdl f) (14 + i * 31) T0.out).of (m := (tdl (putT r i f))) (tdl_upd r i hi f))
        generalize (w5.setCells (w.heap.size) (14 + i * 31) (cdl f)) = W8 at *
        obtain ⟨u, hu⟩ : ∃ u : Td, u = putT r i f := ⟨_, rfl⟩
        replace T0 := Lib.hid (T0.out.of (m := tdl u) (by rw [hu]))
        rw [← hu] at HE
        clear hu
        have q8 : W8.cell? ⟨w.heap.size, 14 + i * 31 + 9 + 3, none⟩ = some (.int .i64 (u.cs i).t.d) := cord_cell (x := u) T0.out.blk i 12 hi (by omega) rfl
        rw [show rot3 u i = putT u i { u.cs i with rcn := max (u.cs i).t.d 1 } from rfl] at HE
        have q9 : W8.cell? ⟨w.heap.size, 14 + i * 31 + 26, none⟩ = some (.int .i64 (u.cs i).rcn) := cord_cell (x := u) T0.out.blk i 26 hi (by omega) rfl
        have f9 := T0.out.2.2 (14 + i * 31 + 26)
        replace R1 := Lib.hid (R1.out.other (k' := w.heap.size) (o := 14 + i * 31 + 26) (x := .int .i64 (max (u.cs i).t.d 1)) (by omega))
        replace bel := Lib.hid (Bx.bel_set (k := w.heap.size) (o := 14 + i * 31 + 26) (x := .int .i64 (max (u.cs i).t.d 1)) (by omega) bel.out)
        replace T0 := Lib.hid ((T0.out.set (14 + i * 31 + 26) (.int .i64 (max (u.cs i).t.d 1))).of (m := (tdl (putT u i { u.cs i with rcn := max (u.cs i).t.d 1 }))) (tdl_set u i 26 hi (by omega) _ { u.cs i with rcn := max (u.cs i).t.d 1 } rfl))
        go_upto_region 9 with fail
        clear q8 q9 f9
        generalize (W8.setCell ⟨w.heap.size, 14 + i * 31 + 26, none⟩ (.int .i64 (max (u.cs i).t.d 1))) = W9 at *
        obtain ⟨v, hv⟩ : ∃ v : Td, v = putT u i { u.cs i with rcn := max (u.cs i).t.d 1 } := ⟨_, rfl⟩
        replace T0 := Lib.hid (T0.out.of (m := tdl v) (by rw [hv]))
        rw [← hv] at HE
        clear hv
        go_wp2_with (first | ((with_reducible refine td_store ?_ ?_ (w.heap.size + 1) v ?_ ?_ (tdl Td.zero) ?_ ?_ ?_); (· rfl); (· rfl); (· rfl); (· rfl); (· exact tdl_len _); (· exact R1.out.own)) | ((with_reducible refine td_load ?_ ?_ (w.heap.size) ?_ v ?_ ?_); (· rfl); (· rfl); (· rfl); (· exact T0.out.blk)) | ((with_reducible refine cs_load ?_ ?_ (w.heap.size) ?_ v ?_ ?_); (· rfl); (· rfl); (· rfl); (· exact T0.out.blk)))
        replace T0 := Lib.hid (T0.out.apart_at (k' := w.heap.size + 1) (tdl v) 0 (by omega))
        replace bel := Lib.hid (Bx.bel_put_at (k := w.heap.size + 1) (tdl v) 0 (by omega) bel.out)
        replace R1 := Lib.hid (R1.out.full (m := (tdl v)) (by rw [tdl_len, tdl_len]))
        exact bodyPost_ret (v := tdv v) (td_result Try.results23 rfl R1.out.blk) rfl ⟨by rw [HE.out], bel.out⟩
    | false =>
      obtain ⟨z, hz⟩ : ∃ z : Td, z = y := ⟨_, rfl⟩
      rw [show agrT y i = z from (HH.out.trans (if_neg (by decide))).trans hz.symm] at HE
      clear HH
      go_upto_region 5 with fail
      replace T0 := Lib.hid (T0.out.of (m := tdl z) (by rw [hz]))
      clear hz
      have HZ := Lib.hid (HR.out z)
      have q5 : w2.cell? ⟨w.heap.size, 14 + i * 31 + 14, none⟩ = some (.int .i64 (z.cs i).st) := cord_cell (x := z) T0.out.blk i 14 hi (by omega) rfl
      by_cases h2 : (z.cs i).st = 2
      · have g2 : ((z.cs i).st != 2) = false := by simp [h2]
        rw [show rot2 z i = z from if_pos h2] at HE
        clear h2
        go_upto_region 8 with fail
        clear q5
        have q8 : w2.cell? ⟨w.heap.size, 14 + i * 31 + 9 + 3, none⟩ = some (.int .i64 (z.cs i).t.d) := cord_cell (x := z) T0.out.blk i 12 hi (by omega) rfl
        rw [show rot3 z i = putT z i { z.cs i with rcn := max (z.cs i).t.d 1 } from rfl] at HE
        have q9 : w2.cell? ⟨w.heap.size, 14 + i * 31 + 26, none⟩ = some (.int .i64 (z.cs i).rcn) := cord_cell (x := z) T0.out.blk i 26 hi (by omega) rfl
        have f9 := T0.out.2.2 (14 + i * 31 + 26)
        replace R1 := Lib.hid (R1.out.other (k' := w.heap.size) (o := 14 + i * 31 + 26) (x := .int .i64 (max (z.cs i).t.d 1)) (by omega))
        replace bel := Lib.hid (Bx.bel_set (k := w.heap.size) (o := 14 + i * 31 + 26) (x := .int .i64 (max (z.cs i).t.d 1)) (by omega) bel.out)
        replace T0 := Lib.hid ((T0.out.set (14 + i * 31 + 26) (.int .i64 (max (z.cs i).t.d 1))).of (m := (tdl (putT z i { z.cs i with rcn := max (z.cs i).t.d 1 }))) (tdl_set z i 26 hi (by omega) _ { z.cs i with rcn := max (z.cs i).t.d 1 } rfl))
        go_upto_region 9 with fail
        clear q8 q9 f9
        generalize (w2.setCell ⟨w.heap.size, 14 + i * 31 + 26, none⟩ (.int .i64 (max (z.cs i).t.d 1))) = W9 at *
        obtain ⟨v, hv⟩ : ∃ v : Td, v = putT z i { z.cs i with rcn := max (z.cs i).t.d 1 } := ⟨_, rfl⟩
        replace T0 := Lib.hid (T0.out.of (m := tdl v) (by rw [hv]))
        rw [← hv] at HE
        clear hv
        go_wp2_with (first | ((with_reducible refine td_store ?_ ?_ (w.heap.size + 1) v ?_ ?_ (tdl Td.zero) ?_ ?_ ?_); (· rfl); (· rfl); (· rfl); (· rfl); (· exact tdl_len _); (· exact R1.out.own)) | ((with_reducible refine td_load ?_ ?_ (w.heap.size) ?_ v ?_ ?_); (· rfl); (· rfl); (· rfl); (· exact T0.out.blk)) | ((with_reducible refine cs_load ?_ ?_ (w.heap.size) ?_ v ?_ ?_); (· rfl); (· rfl); (· rfl); (· exact T0.out.blk)))
        replace T0 := Lib.hid (T0.out.apart_at (k' := w.heap.size + 1) (tdl v) 0 (by omega))
        replace bel := Lib.hid (Bx.bel_put_at (k := w.heap.size + 1) (tdl v) 0 (by omega) bel.out)
        replace R1 := Lib.hid (R1.out.full (m := (tdl v)) (by rw [tdl_len, tdl_len]))
        exact bodyPost_ret (v := tdv v) (td_result Try.results23 rfl R1.out.blk) rfl ⟨by rw [HE.out], bel.out⟩
      · have g2 : ((z.cs i).st != 2) = true := by simp [h2]
        rw [show rot2 z i = putT (recT z) i (forC ((recT z).cs i)) from if_neg h2] at HE
        clear h2
        generalize recT z = r at *
        have HG := Lib.hid (HF.out (r.cs i))
        generalize forC (r.cs i) = f at *
        go_upto_region 6 with fail
        clear q5
        go_wp2_with (first | ((with_reducible refine td_load ?_ ?_ (w.heap.size) ?_ z ?_ ?_); (· rfl); (· rfl); (· rfl); (· exact T0.out.blk)) | ((with_reducible refine cs_load ?_ ?_ (w.heap.size) ?_ z ?_ ?_); (· rfl); (· rfl); (· rfl); (· exact T0.out.blk)))
        refine (HZ.out _).mono ?_; rintro e w3 ⟨rfl, hb⟩
        replace T0 := Lib.hid (T0.out.keep hb)
        replace R1 := Lib.hid (R1.out.keep hb)
        replace bel := Lib.hid (Bx.then_below bel.out hb)
        clear hb
        go_upto_region 7 with (first | ((with_reducible refine td_store ?_ ?_ (w.heap.size) r ?_ ?_ (tdl z) ?_ ?_ ?_); (· rfl); (· rfl); (· rfl); (· rfl); (· exact tdl_len _); (· exact T0.out.own)))
        replace R1 := Lib.hid (R1.out.apart_at (k' := w.heap.size) (tdl r) 0 (by omega))
        replace bel := Lib.hid (Bx.bel_put_at (k := w.heap.size) (tdl r) 0 (by omega) bel.out)
        replace T0 := Lib.hid (T0.out.full (m := (tdl r)) (by rw [tdl_len, tdl_len]))
        generalize (w3.setCells (w.heap.size) 0 (tdl r)) = W7 at *
        go_wp2_with (first | ((with_reducible refine cc_load ?_ ?_ (w.heap.size) i hi ?_ r ?_ ?_); (· rfl); (· rfl); (· rfl); (· exact T0.out.blk)) | ((with_reducible refine td_load ?_ ?_ (w.heap.size) ?_ r ?_ ?_); (· rfl); (· rfl); (· rfl); (· exact T0.out.blk)) | ((with_reducible refine cs_load ?_ ?_ (w.heap.size) ?_ r ?_ ?_); (· rfl); (· rfl); (· rfl); (· exact T0.out.blk)) | ((with_reducible refine td_load ?_ ?_ (w.heap.size + 1) ?_ Td.zero ?_ ?_); (· rfl); (· rfl); (· rfl); (· exact R1.out.blk)) | ((with_reducible refine cs_load ?_ ?_ (w.heap.size + 1) ?_ Td.zero ?_ ?_); (· rfl); (· rfl); (· rfl); (· exact R1.out.blk)))
        refine (HG.out _).mono ?_; rintro e w4 ⟨rfl, hb⟩
        replace T0 := Lib.hid (T0.out.keep hb)
        replace R1 := Lib.hid (R1.out.keep hb)
        replace bel := Lib.hid (Bx.then_below bel.out hb)
        clear hb
        go_upto_region 8 with (first | ((with_reducible refine cc_store ?_ ?_ (w.heap.size) i hi ?_ f ?_ r ?_ ?_); (· rfl); (· rfl); (· rfl); (· rfl); (· exact T0.out)))
        replace R1 := Lib.hid (R1.out.apart_at (k' := w.heap.size) (cdl f) (14 + i * 31) (by omega))
        replace bel := Lib.hid (Bx.bel_put_at (k := w.heap.size) (cdl f) (14 + i * 31) (by omega) bel.out)
        replace T0 := Lib.hid ((Bx.Fre.put_at (cdl f) (14 + i * 31) T0.out).of (m := (tdl (putT r i f))) (tdl_upd r i hi f))
        generalize (w4.setCells (w.heap.size) (14 + i * 31) (cdl f)) = W8 at *
        obtain ⟨u, hu⟩ : ∃ u : Td, u = putT r i f := ⟨_, rfl⟩
        replace T0 := Lib.hid (T0.out.of (m := tdl u) (by rw [hu]))
        rw [← hu] at HE
        clear hu
        have q8 : W8.cell? ⟨w.heap.size, 14 + i * 31 + 9 + 3, none⟩ = some (.int .i64 (u.cs i).t.d) := cord_cell (x := u) T0.out.blk i 12 hi (by omega) rfl
        rw [show rot3 u i = putT u i { u.cs i with rcn := max (u.cs i).t.d 1 } from rfl] at HE
        have q9 : W8.cell? ⟨w.heap.size, 14 + i * 31 + 26, none⟩ = some (.int .i64 (u.cs i).rcn) := cord_cell (x := u) T0.out.blk i 26 hi (by omega) rfl
        have f9 := T0.out.2.2 (14 + i * 31 + 26)
        replace R1 := Lib.hid (R1.out.other (k' := w.heap.size) (o := 14 + i * 31 + 26) (x := .int .i64 (max (u.cs i).t.d 1)) (by omega))
        replace bel := Lib.hid (Bx.bel_set (k := w.heap.size) (o := 14 + i * 31 + 26) (x := .int .i64 (max (u.cs i).t.d 1)) (by omega) bel.out)
        replace T0 := Lib.hid ((T0.out.set (14 + i * 31 + 26) (.int .i64 (max (u.cs i).t.d 1))).of (m := (tdl (putT u i { u.cs i with rcn := max (u.cs i).t.d 1 }))) (tdl_set u i 26 hi (by omega) _ { u.cs i with rcn := max (u.cs i).t.d 1 } rfl))
        go_upto_region 9 with fail
        clear q8 q9 f9
        generalize (W8.setCell ⟨w.heap.size, 14 + i * 31 + 26, none⟩ (.int .i64 (max (u.cs i).t.d 1))) = W9 at *
        obtain ⟨v, hv⟩ : ∃ v : Td, v = putT u i { u.cs i with rcn := max (u.cs i).t.d 1 } := ⟨_, rfl⟩
        replace T0 := Lib.hid (T0.out.of (m := tdl v) (by rw [hv]))
        rw [← hv] at HE
        clear hv
        go_wp2_with (first | ((with_reducible refine td_store ?_ ?_ (w.heap.size + 1) v ?_ ?_ (tdl Td.zero) ?_ ?_ ?_); (· rfl); (· rfl); (· rfl); (· rfl); (· exact tdl_len _); (· exact R1.out.own)) | ((with_reducible refine td_load ?_ ?_ (w.heap.size) ?_ v ?_ ?_); (· rfl); (· rfl); (· rfl); (· exact T0.out.blk)) | ((with_reducible refine cs_load ?_ ?_ (w.heap.size) ?_ v ?_ ?_); (· rfl); (· rfl); (· rfl); (· exact T0.out.blk)))
        replace T0 := Lib.hid (T0.out.apart_at (k' := w.heap.size + 1) (tdl v) 0 (by omega))
        replace bel := Lib.hid (Bx.bel_put_at (k := w.heap.size + 1) (tdl v) 0 (by omega) bel.out)
        replace R1 := Lib.hid (R1.out.full (m := (tdl v)) (by rw [tdl_len, tdl_len]))
        exact bodyPost_ret (v := tdv v) (td_result Try.results23 rfl R1.out.blk) rfl ⟨by rw [HE.out], bel.out⟩
  · obtain ⟨z, hz⟩ : ∃ z : Td, z = x := ⟨_, rfl⟩
    rw [show rot1 x i = z from (show rot1 x i = x from if_neg (by rw [h]; decide)).trans hz.symm] at HE
    rw [h] at q1
    clear h
    go_upto_region 5 with fail
    clear q1
    replace T0 := Lib.hid (T0.out.of (m := tdl z) (by rw [hz]))
    clear hz
    have HZ := Lib.hid (HR.out z)
    have q5 : W0.cell? ⟨w.heap.size, 14 + i * 31 + 14, none⟩ = some (.int .i64 (z.cs i).st) := cord_cell (x := z) T0.out.blk i 14 hi (by omega) rfl
    by_cases h2 : (z.cs i).st = 2
    · have g2 : ((z.cs i).st != 2) = false := by simp [h2]
      rw [show rot2 z i = z from if_pos h2] at HE
      clear h2
      go_upto_region 8 with fail
      clear q5
      have q8 : W0.cell? ⟨w.heap.size, 14 + i * 31 + 9 + 3, none⟩ = some (.int .i64 (z.cs i).t.d) := cord_cell (x := z) T0.out.blk i 12 hi (by omega) rfl
      rw [show rot3 z i = putT z i { z.cs i with rcn := max (z.cs i).t.d 1 } from rfl] at HE
      have q9 : W0.cell? ⟨w.heap.size, 14 + i * 31 + 26, none⟩ = some (.int .i64 (z.cs i).rcn) := cord_cell (x := z) T0.out.blk i 26 hi (by omega) rfl
      have f9 := T0.out.2.2 (14 + i * 31 + 26)
      replace R1 := Lib.hid (R1.out.other (k' := w.heap.size) (o := 14 + i * 31 + 26) (x := .int .i64 (max (z.cs i).t.d 1)) (by omega))
      replace bel := Lib.hid (Bx.bel_set (k := w.heap.size) (o := 14 + i * 31 + 26) (x := .int .i64 (max (z.cs i).t.d 1)) (by omega) bel.out)
      replace T0 := Lib.hid ((T0.out.set (14 + i * 31 + 26) (.int .i64 (max (z.cs i).t.d 1))).of (m := (tdl (putT z i { z.cs i with rcn := max (z.cs i).t.d 1 }))) (tdl_set z i 26 hi (by omega) _ { z.cs i with rcn := max (z.cs i).t.d 1 } rfl))
      go_upto_region 9 with fail
      clear q8 q9 f9
      generalize (W0.setCell ⟨w.heap.size, 14 + i * 31 + 26, none⟩ (.int .i64 (max (z.cs i).t.d 1))) = W9 at *
      obtain ⟨v, hv⟩ : ∃ v : Td, v = putT z i { z.cs i with rcn := max (z.cs i).t.d 1 } := ⟨_, rfl⟩
      replace T0 := Lib.hid (T0.out.of (m := tdl v) (by rw [hv]))
      rw [← hv] at HE
      clear hv
      go_wp2_with (first | ((with_reducible refine td_store ?_ ?_ (w.heap.size + 1) v ?_ ?_ (tdl Td.zero) ?_ ?_ ?_); (· rfl); (· rfl); (· rfl); (· rfl); (· exact tdl_len _); (· exact R1.out.own)) | ((with_reducible refine td_load ?_ ?_ (w.heap.size) ?_ v ?_ ?_); (· rfl); (· rfl); (· rfl); (· exact T0.out.blk)) | ((with_reducible refine cs_load ?_ ?_ (w.heap.size) ?_ v ?_ ?_); (· rfl); (· rfl); (· rfl); (· exact T0.out.blk)))
      replace T0 := Lib.hid (T0.out.apart_at (k' := w.heap.size + 1) (tdl v) 0 (by omega))
      replace bel := Lib.hid (Bx.bel_put_at (k := w.heap.size + 1) (tdl v) 0 (by omega) bel.out)
      replace R1 := Lib.hid (R1.out.full (m := (tdl v)) (by rw [tdl_len, tdl_len]))
      exact bodyPost_ret (v := tdv v) (td_result Try.results23 rfl R1.out.blk) rfl ⟨by rw [HE.out], bel.out⟩
    · have g2 : ((z.cs i).st != 2) = true := by simp [h2]
      rw [show rot2 z i = putT (recT z) i (forC ((recT z).cs i)) from if_neg h2] at HE
      clear h2
      generalize recT z = r at *
      have HG := Lib.hid (HF.out (r.cs i))
      generalize forC (r.cs i) = f at *
      go_upto_region 6 with fail
      clear q5
      go_wp2_with (first | ((with_reducible refine td_load ?_ ?_ (w.heap.size) ?_ z ?_ ?_); (· rfl); (· rfl); (· rfl); (· exact T0.out.blk)) | ((with_reducible refine cs_load ?_ ?_ (w.heap.size) ?_ z ?_ ?_); (· rfl); (· rfl); (· rfl); (· exact T0.out.blk)))
      refine (HZ.out _).mono ?_; rintro e w1 ⟨rfl, hb⟩
      replace T0 := Lib.hid (T0.out.keep hb)
      replace R1 := Lib.hid (R1.out.keep hb)
      replace bel := Lib.hid (Bx.then_below bel.out hb)
      clear hb
      go_upto_region 7 with (first | ((with_reducible refine td_store ?_ ?_ (w.heap.size) r ?_ ?_ (tdl z) ?_ ?_ ?_); (· rfl); (· rfl); (· rfl); (· rfl); (· exact tdl_len _); (· exact T0.out.own)))
      replace R1 := Lib.hid (R1.out.apart_at (k' := w.heap.size) (tdl r) 0 (by omega))
      replace bel := Lib.hid (Bx.bel_put_at (k := w.heap.size) (tdl r) 0 (by omega) bel.out)
      replace T0 := Lib.hid (T0.out.full (m := (tdl r)) (by rw [tdl_len, tdl_len]))
      generalize (w1.setCells (w.heap.size) 0 (tdl r)) = W7 at *
      go_wp2_with (first | ((with_reducible refine cc_load ?_ ?_ (w.heap.size) i hi ?_ r ?_ ?_); (· rfl); (· rfl); (· rfl); (· exact T0.out.blk)) | ((with_reducible refine td_load ?_ ?_ (w.heap.size) ?_ r ?_ ?_); (· rfl); (· rfl); (· rfl); (· exact T0.out.blk)) | ((with_reducible refine cs_load ?_ ?_ (w.heap.size) ?_ r ?_ ?_); (· rfl); (· rfl); (· rfl); (· exact T0.out.blk)) | ((with_reducible refine td_load ?_ ?_ (w.heap.size + 1) ?_ Td.zero ?_ ?_); (· rfl); (· rfl); (· rfl); (· exact R1.out.blk)) | ((with_reducible refine cs_load ?_ ?_ (w.heap.size + 1) ?_ Td.zero ?_ ?_); (· rfl); (· rfl); (· rfl); (· exact R1.out.blk)))
      refine (HG.out _).mono ?_; rintro e w2 ⟨rfl, hb⟩
      replace T0 := Lib.hid (T0.out.keep hb)
      replace R1 := Lib.hid (R1.out.keep hb)
      replace bel := Lib.hid (Bx.then_below bel.out hb)
      clear hb
      go_upto_region 8 with (first | ((with_reducible refine cc_store ?_ ?_ (w.heap.size) i hi ?_ f ?_ r ?_ ?_); (· rfl); (· rfl); (· rfl); (· rfl); (· exact T0.out)))
      replace R1 := Lib.hid (R1.out.apart_at (k' := w.heap.size) (cdl f) (14 + i * 31) (by omega))
      replace bel := Lib.hid (Bx.bel_put_at (k := w.heap.size) (cdl f) (14 + i * 31) (by omega) bel.out)
      replace T0 := Lib.hid ((Bx.Fre.put_at (cdl f) (14 + i * 31) T0.out).of (m := (tdl (putT r i f))) (tdl_upd r i hi f))
      generalize (w2.setCells (w.heap.size) (14 + i * 31) (cdl f)) = W8 at *
      obtain ⟨u, hu⟩ : ∃ u : Td, u = putT r i f := ⟨_, rfl⟩
      replace T0 := Lib.hid (T0.out.of (m := tdl u) (by rw [hu]))
      rw [← hu] at HE
      clear hu
      have q8 : W8.cell? ⟨w.heap.size, 14 + i * 31 + 9 + 3, none⟩ = some (.int .i64 (u.cs i).t.d) := cord_cell (x := u) T0.out.blk i 12 hi (by omega) rfl
      rw [show rot3 u i = putT u i { u.cs i with rcn := max (u.cs i).t.d 1 } from rfl] at HE
      have q9 : W8.cell? ⟨w.heap.size, 14 + i * 31 + 26, none⟩ = some (.int .i64 (u.cs i).rcn) := cord_cell (x := u) T0.out.blk i 26 hi (by omega) rfl
      have f9 := T0.out.2.2 (14 + i * 31 + 26)
      replace R1 := Lib.hid (R1.out.other (k' := w.heap.size) (o := 14 + i * 31 + 26) (x := .int .i64 (max (u.cs i).t.d 1)) (by omega))
      replace bel := Lib.hid (Bx.bel_set (k := w.heap.size) (o := 14 + i * 31 + 26) (x := .int .i64 (max (u.cs i).t.d 1)) (by omega) bel.out)
      replace T0 := Lib.hid ((T0.out.set (14 + i * 31 + 26) (.int .i64 (max (u.cs i).t.d 1))).of (m := (tdl (putT u i { u.cs i with rcn := max (u.cs i).t.d 1 }))) (tdl_set u i 26 hi (by omega) _ { u.cs i with rcn := max (u.cs i).t.d 1 } rfl))
      go_upto_region 9 with fail
      clear q8 q9 f9
      generalize (W8.setCell ⟨w.heap.size, 14 + i * 31 + 26, none⟩ (.int .i64 (max (u.cs i).t.d 1))) = W9 at *
      obtain ⟨v, hv⟩ : ∃ v : Td, v = putT u i { u.cs i with rcn := max (u.cs i).t.d 1 } := ⟨_, rfl⟩
      replace T0 := Lib.hid (T0.out.of (m := tdl v) (by rw [hv]))
      rw [← hv] at HE
      clear hv
      go_wp2_with (first | ((with_reducible refine td_store ?_ ?_ (w.heap.size + 1) v ?_ ?_ (tdl Td.zero) ?_ ?_ ?_); (· rfl); (· rfl); (· rfl); (· rfl); (· exact tdl_len _); (· exact R1.out.own)) | ((with_reducible refine td_load ?_ ?_ (w.heap.size) ?_ v ?_ ?_); (· rfl); (· rfl); (· rfl); (· exact T0.out.blk)) | ((with_reducible refine cs_load ?_ ?_ (w.heap.size) ?_ v ?_ ?_); (· rfl); (· rfl); (· rfl); (· exact T0.out.blk)))
      replace T0 := Lib.hid (T0.out.apart_at (k' := w.heap.size + 1) (tdl v) 0 (by omega))
      replace bel := Lib.hid (Bx.bel_put_at (k := w.heap.size + 1) (tdl v) 0 (by omega) bel.out)
      replace R1 := Lib.hid (R1.out.full (m := (tdl v)) (by rw [tdl_len, tdl_len]))
      exact bodyPost_ret (v := tdv v) (td_result Try.results23 rfl R1.out.blk) rfl ⟨by rw [HE.out], bel.out⟩

set_option maxRecDepth 40000 in
set_option maxHeartbeats 8000000 in
theorem step_any (x : Td) (i : Nat) (hi : i < 8) (w : World) : Calls Try.prog 13 #[tdv x, .int .i64 (i : Int)] w fun e w' => e = .returned (tdv (stepN x i)) ∧ Below w.heap.size w w' := by
  have hi0 : (0 : Int) ≤ i := by omega
  have hi8 : (i : Int) < 8 := by omega
  have e0 : decide ((i : Int) < 0) = false := by simp
  have e8 : decide ((8 : Int) ≤ i) = false := by simp; omega
  have HR := Lib.hid (root_step x i hi)
  have HD := Lib.hid (des_step (x.cs i))
  have HA := Lib.hid (alt_any (x.cs i))
  have HE : Hid (stepN x i = if (x.cs i).up = false then x else if (x.cs i).role = 2 then rotT x i else if (x.cs i).role = 3 then putT x i (desS (x.cs i)) else if (x.cs i).role = 1 then putT x i (altC (x.cs i)) else x) := Lib.hid rfl
  have hal := zero_at
  have T0 : Hid (Bx.Fre (w.alloc (tdo x)) w.heap.size (tdl x)) := Lib.hid (Bx.Fre.new w (tdl x) 31)
  have bel := Lib.hid (Bx.box_below w (tdo x))
  replace T0 := Lib.hid (T0.out.more (tdo Td.zero))
  have R1 : Hid (Bx.Fre ((w.alloc (tdo x)).alloc (tdo Td.zero)) (w.heap.size + 1) (tdl Td.zero)) := Lib.hid (Bx.Fre.new_at (W := (w.alloc (tdo x))) (k := w.heap.size + 1) (tdl Td.zero) 31 (by simp))
  replace bel := Lib.hid (Bx.bel_box bel.out (tdo Td.zero))
  go_enter Try.func13, Try.ntmps13
  go_upto_region 1 with fail
  clear hal
  generalize ((w.alloc (tdo x)).alloc (tdo Td.zero)) = W0 at *
  have q0 : W0.cell? ⟨w.heap.size, 14 + i * 31, none⟩ = some (.bool (x.cs i).up) := cord_cell (x := x) T0.out.blk i 0 hi (by omega) rfl
  have q13 : W0.cell? ⟨w.heap.size, 14 + i * 31 + 13, none⟩ = some (.int .i64 (x.cs i).role) := cord_cell (x := x) T0.out.blk i 13 hi (by omega) rfl
  rcases Bool.eq_false_or_eq_true (x.cs i).up with h | h
  · replace HE := Lib.hid (HE.out.trans (if_neg (by rw [h]; decide)))
    rw [h] at q0
    clear h
    by_cases h2 : (x.cs i).role = 2
    · replace HE := Lib.hid (HE.out.trans (if_pos h2))
      have g2 : ((x.cs i).role == 2) = true := by simp [h2]
      clear h2 HD HA
      generalize rotT x i = y at *
      go_upto_region 5 with fail
      clear q0 q13 g2
      go_wp2_with (first | ((with_reducible refine td_load ?_ ?_ (w.heap.size) ?_ x ?_ ?_); (· rfl); (· rfl); (· rfl); (· exact T0.out.blk)) | ((with_reducible refine cs_load ?_ ?_ (w.heap.size) ?_ x ?_ ?_); (· rfl); (· rfl); (· rfl); (· exact T0.out.blk)))
      refine (HR.out _).mono ?_; rintro e w1 ⟨rfl, hb⟩
      replace T0 := Lib.hid (T0.out.keep hb)
      replace R1 := Lib.hid (R1.out.keep hb)
      replace bel := Lib.hid (Bx.then_below bel.out hb)
      clear hb
      go_wp2_with (first | ((with_reducible refine td_store ?_ ?_ (w.heap.size + 1) y ?_ ?_ (tdl Td.zero) ?_ ?_ ?_); (· rfl); (· rfl); (· rfl); (· rfl); (· exact tdl_len _); (· exact R1.out.own)) | ((with_reducible refine td_load ?_ ?_ (w.heap.size) ?_ x ?_ ?_); (· rfl); (· rfl); (· rfl); (· exact T0.out.blk)) | ((with_reducible refine cs_load ?_ ?_ (w.heap.size) ?_ x ?_ ?_); (· rfl); (· rfl); (· rfl); (· exact T0.out.blk)))
      replace T0 := Lib.hid (T0.out.apart_at (k' := w.heap.size + 1) (tdl y) 0 (by omega))
      replace bel := Lib.hid (Bx.bel_put_at (k := w.heap.size + 1) (tdl y) 0 (by omega) bel.out)
      replace R1 := Lib.hid (R1.out.full (m := (tdl y)) (by rw [tdl_len, tdl_len]))
      exact bodyPost_ret (v := tdv y) (td_result Try.results13 rfl R1.out.blk) rfl ⟨by rw [HE.out], bel.out⟩
    · replace HE := Lib.hid (HE.out.trans (if_neg h2))
      have g2 : ((x.cs i).role == 2) = false := by simp [h2]
      clear h2 HR
      by_cases h3 : (x.cs i).role = 3
      · replace HE := Lib.hid (HE.out.trans (if_pos h3))
        have g3 : ((x.cs i).role == 3) = true := by simp [h3]
        clear h3 HA
        generalize desS (x.cs i) = d at *
        go_upto_region 7 with fail
        clear q0 q13 g2 g3
        go_wp2_with (first | ((with_reducible refine cc_load ?_ ?_ (w.heap.size) i hi ?_ x ?_ ?_); (· rfl); (· rfl); (· rfl); (· exact T0.out.blk)) | ((with_reducible refine td_load ?_ ?_ (w.heap.size) ?_ x ?_ ?_); (· rfl); (· rfl); (· rfl); (· exact T0.out.blk)) | ((with_reducible refine cs_load ?_ ?_ (w.heap.size) ?_ x ?_ ?_); (· rfl); (· rfl); (· rfl); (· exact T0.out.blk)) | ((with_reducible refine td_load ?_ ?_ (w.heap.size + 1) ?_ Td.zero ?_ ?_); (· rfl); (· rfl); (· rfl); (· exact R1.out.blk)) | ((with_reducible refine cs_load ?_ ?_ (w.heap.size + 1) ?_ Td.zero ?_ ?_); (· rfl); (· rfl); (· rfl); (· exact R1.out.blk)))
        refine (HD.out _).mono ?_; rintro e w1 ⟨rfl, hb⟩
        replace T0 := Lib.hid (T0.out.keep hb)
        replace R1 := Lib.hid (R1.out.keep hb)
        replace bel := Lib.hid (Bx.then_below bel.out hb)
        clear hb
        go_upto_region 10 with (first | ((with_reducible refine cc_store ?_ ?_ (w.heap.size) i hi ?_ d ?_ x ?_ ?_); (· rfl); (· rfl); (· rfl); (· rfl); (· exact T0.out)))
        replace R1 := Lib.hid (R1.out.apart_at (k' := w.heap.size) (cdl d) (14 + i * 31) (by omega))
        replace bel := Lib.hid (Bx.bel_put_at (k := w.heap.size) (cdl d) (14 + i * 31) (by omega) bel.out)
        replace T0 := Lib.hid ((Bx.Fre.put_at (cdl d) (14 + i * 31) T0.out).of (m := (tdl (putT x i d))) (tdl_upd x i hi d))
        generalize (w1.setCells (w.heap.size) (14 + i * 31) (cdl d)) = W10 at *
        obtain ⟨v, hv⟩ : ∃ v : Td, v = putT x i d := ⟨_, rfl⟩
        replace T0 := Lib.hid (T0.out.of (m := tdl v) (by rw [hv]))
        rw [← hv] at HE
        clear hv
        go_wp2_with (first | ((with_reducible refine td_store ?_ ?_ (w.heap.size + 1) v ?_ ?_ (tdl Td.zero) ?_ ?_ ?_); (· rfl); (· rfl); (· rfl); (· rfl); (· exact tdl_len _); (· exact R1.out.own)) | ((with_reducible refine td_load ?_ ?_ (w.heap.size) ?_ v ?_ ?_); (· rfl); (· rfl); (· rfl); (· exact T0.out.blk)) | ((with_reducible refine cs_load ?_ ?_ (w.heap.size) ?_ v ?_ ?_); (· rfl); (· rfl); (· rfl); (· exact T0.out.blk)))
        replace T0 := Lib.hid (T0.out.apart_at (k' := w.heap.size + 1) (tdl v) 0 (by omega))
        replace bel := Lib.hid (Bx.bel_put_at (k := w.heap.size + 1) (tdl v) 0 (by omega) bel.out)
        replace R1 := Lib.hid (R1.out.full (m := (tdl v)) (by rw [tdl_len, tdl_len]))
        exact bodyPost_ret (v := tdv v) (td_result Try.results13 rfl R1.out.blk) rfl ⟨by rw [HE.out], bel.out⟩
      · replace HE := Lib.hid (HE.out.trans (if_neg h3))
        have g3 : ((x.cs i).role == 3) = false := by simp [h3]
        clear h3 HD
        by_cases h1 : (x.cs i).role = 1
        · replace HE := Lib.hid (HE.out.trans (if_pos h1))
          have g1 : ((x.cs i).role == 1) = true := by simp [h1]
          clear h1
          generalize altC (x.cs i) = d at *
          go_upto_region 9 with fail
          clear q0 q13 g2 g3 g1
          go_wp2_with (first | ((with_reducible refine cc_load ?_ ?_ (w.heap.size) i hi ?_ x ?_ ?_); (· rfl); (· rfl); (· rfl); (· exact T0.out.blk)) | ((with_reducible refine td_load ?_ ?_ (w.heap.size) ?_ x ?_ ?_); (· rfl); (· rfl); (· rfl); (· exact T0.out.blk)) | ((with_reducible refine cs_load ?_ ?_ (w.heap.size) ?_ x ?_ ?_); (· rfl); (· rfl); (· rfl); (· exact T0.out.blk)) | ((with_reducible refine td_load ?_ ?_ (w.heap.size + 1) ?_ Td.zero ?_ ?_); (· rfl); (· rfl); (· rfl); (· exact R1.out.blk)) | ((with_reducible refine cs_load ?_ ?_ (w.heap.size + 1) ?_ Td.zero ?_ ?_); (· rfl); (· rfl); (· rfl); (· exact R1.out.blk)))
          refine (HA.out _).mono ?_; rintro e w1 ⟨rfl, hb⟩
          replace T0 := Lib.hid (T0.out.keep hb)
          replace R1 := Lib.hid (R1.out.keep hb)
          replace bel := Lib.hid (Bx.then_below bel.out hb)
          clear hb
          go_upto_region 10 with (first | ((with_reducible refine cc_store ?_ ?_ (w.heap.size) i hi ?_ d ?_ x ?_ ?_); (· rfl); (· rfl); (· rfl); (· rfl); (· exact T0.out)))
          replace R1 := Lib.hid (R1.out.apart_at (k' := w.heap.size) (cdl d) (14 + i * 31) (by omega))
          replace bel := Lib.hid (Bx.bel_put_at (k := w.heap.size) (cdl d) (14 + i * 31) (by omega) bel.out)
          replace T0 := Lib.hid ((Bx.Fre.put_at (cdl d) (14 + i * 31) T0.out).of (m := (tdl (putT x i d))) (tdl_upd x i hi d))
          generalize (w1.setCells (w.heap.size) (14 + i * 31) (cdl d)) = W10 at *
          obtain ⟨v, hv⟩ : ∃ v : Td, v = putT x i d := ⟨_, rfl⟩
          replace T0 := Lib.hid (T0.out.of (m := tdl v) (by rw [hv]))
          rw [← hv] at HE
          clear hv
          go_wp2_with (first | ((with_reducible refine td_store ?_ ?_ (w.heap.size + 1) v ?_ ?_ (tdl Td.zero) ?_ ?_ ?_); (· rfl); (· rfl); (· rfl); (· rfl); (· exact tdl_len _); (· exact R1.out.own)) | ((with_reducible refine td_load ?_ ?_ (w.heap.size) ?_ v ?_ ?_); (· rfl); (· rfl); (· rfl); (· exact T0.out.blk)) | ((with_reducible refine cs_load ?_ ?_ (w.heap.size) ?_ v ?_ ?_); (· rfl); (· rfl); (· rfl); (· exact T0.out.blk)))
          replace T0 := Lib.hid (T0.out.apart_at (k' := w.heap.size + 1) (tdl v) 0 (by omega))
          replace bel := Lib.hid (Bx.bel_put_at (k := w.heap.size + 1) (tdl v) 0 (by omega) bel.out)
          replace R1 := Lib.hid (R1.out.full (m := (tdl v)) (by rw [tdl_len, tdl_len]))
          exact bodyPost_ret (v := tdv v) (td_result Try.results13 rfl R1.out.blk) rfl ⟨by rw [HE.out], bel.out⟩
        · replace HE := Lib.hid (HE.out.trans (if_neg h1))
          have g1 : ((x.cs i).role == 1) = false := by simp [h1]
          clear h1 HA
          go_wp2_with (first | ((with_reducible refine td_store ?_ ?_ (w.heap.size + 1) x ?_ ?_ (tdl Td.zero) ?_ ?_ ?_); (· rfl); (· rfl); (· rfl); (· rfl); (· exact tdl_len _); (· exact R1.out.own)) | ((with_reducible refine td_load ?_ ?_ (w.heap.size) ?_ x ?_ ?_); (· rfl); (· rfl); (· rfl); (· exact T0.out.blk)) | ((with_reducible refine cs_load ?_ ?_ (w.heap.size) ?_ x ?_ ?_); (· rfl); (· rfl); (· rfl); (· exact T0.out.blk)))
          replace T0 := Lib.hid (T0.out.apart_at (k' := w.heap.size + 1) (tdl x) 0 (by omega))
          replace bel := Lib.hid (Bx.bel_put_at (k := w.heap.size + 1) (tdl x) 0 (by omega) bel.out)
          replace R1 := Lib.hid (R1.out.full (m := (tdl x)) (by rw [tdl_len, tdl_len]))
          exact bodyPost_ret (v := tdv x) (td_result Try.results13 rfl R1.out.blk) rfl ⟨by rw [HE.out], bel.out⟩
  · replace HE := Lib.hid (HE.out.trans (if_pos h))
    rw [h] at q0
    clear h HR HD HA
    go_wp2_with (first | ((with_reducible refine td_store ?_ ?_ (w.heap.size + 1) x ?_ ?_ (tdl Td.zero) ?_ ?_ ?_); (· rfl); (· rfl); (· rfl); (· rfl); (· exact tdl_len _); (· exact R1.out.own)) | ((with_reducible refine td_load ?_ ?_ (w.heap.size) ?_ x ?_ ?_); (· rfl); (· rfl); (· rfl); (· exact T0.out.blk)) | ((with_reducible refine cs_load ?_ ?_ (w.heap.size) ?_ x ?_ ?_); (· rfl); (· rfl); (· rfl); (· exact T0.out.blk)))
    replace T0 := Lib.hid (T0.out.apart_at (k' := w.heap.size + 1) (tdl x) 0 (by omega))
    replace bel := Lib.hid (Bx.bel_put_at (k := w.heap.size + 1) (tdl x) 0 (by omega) bel.out)
    replace R1 := Lib.hid (R1.out.full (m := (tdl x)) (by rw [tdl_len, tdl_len]))
    exact bodyPost_ret (v := tdv x) (td_result Try.results13 rfl R1.out.blk) rfl ⟨by rw [HE.out], bel.out⟩

set_option maxRecDepth 40000 in
set_option maxHeartbeats 8000000 in
theorem step_out (x : Td) (i : Int) (w : World) (h : i < 0 ∨ 8 ≤ i) : Calls Try.prog 13 #[tdv x, .int .i64 i] w fun e w' => e = .returned (tdv x) ∧ Below w.heap.size w w' := by
  have hal := zero_at
  have T0 : Hid (Bx.Fre (w.alloc (tdo x)) w.heap.size (tdl x)) := Lib.hid (Bx.Fre.new w (tdl x) 31)
  have bel := Lib.hid (Bx.box_below w (tdo x))
  replace T0 := Lib.hid (T0.out.more (tdo Td.zero))
  have R1 : Hid (Bx.Fre ((w.alloc (tdo x)).alloc (tdo Td.zero)) (w.heap.size + 1) (tdl Td.zero)) := Lib.hid (Bx.Fre.new_at (W := (w.alloc (tdo x))) (k := w.heap.size + 1) (tdl Td.zero) 31 (by simp))
  replace bel := Lib.hid (Bx.bel_box bel.out (tdo Td.zero))
  go_enter Try.func13, Try.ntmps13
  go_upto_region 1 with fail
  clear hal
  generalize ((w.alloc (tdo x)).alloc (tdo Td.zero)) = W0 at *
  by_cases h0 : i < 0
  · have e0 : decide (i < 0) = true := by simp [h0]
    go_wp2_with (first | ((with_reducible refine td_store ?_ ?_ (w.heap.size + 1) x ?_ ?_ (tdl Td.zero) ?_ ?_ ?_); (· rfl); (· rfl); (· rfl); (· rfl); (· exact tdl_len _); (· exact R1.out.own)) | ((with_reducible refine td_load ?_ ?_ (w.heap.size) ?_ x ?_ ?_); (· rfl); (· rfl); (· rfl); (· exact T0.out.blk)) | ((with_reducible refine cs_load ?_ ?_ (w.heap.size) ?_ x ?_ ?_); (· rfl); (· rfl); (· rfl); (· exact T0.out.blk)))
    replace T0 := Lib.hid (T0.out.apart_at (k' := w.heap.size + 1) (tdl x) 0 (by omega))
    replace bel := Lib.hid (Bx.bel_put_at (k := w.heap.size + 1) (tdl x) 0 (by omega) bel.out)
    replace R1 := Lib.hid (R1.out.full (m := (tdl x)) (by rw [tdl_len, tdl_len]))
    exact bodyPost_ret (v := tdv x) (td_result Try.results13 rfl R1.out.blk) rfl ⟨rfl, bel.out⟩
  · have h8 : 8 ≤ i := by omega
    have e0 : decide (i < 0) = false := by simp; omega
    have e8 : decide (8 ≤ i) = true := by simp [h8]
    go_wp2_with (first | ((with_reducible refine td_store ?_ ?_ (w.heap.size + 1) x ?_ ?_ (tdl Td.zero) ?_ ?_ ?_); (· rfl); (· rfl); (· rfl); (· rfl); (· exact tdl_len _); (· exact R1.out.own)) | ((with_reducible refine td_load ?_ ?_ (w.heap.size) ?_ x ?_ ?_); (· rfl); (· rfl); (· rfl); (· exact T0.out.blk)) | ((with_reducible refine cs_load ?_ ?_ (w.heap.size) ?_ x ?_ ?_); (· rfl); (· rfl); (· rfl); (· exact T0.out.blk)))
    replace T0 := Lib.hid (T0.out.apart_at (k' := w.heap.size + 1) (tdl x) 0 (by omega))
    replace bel := Lib.hid (Bx.bel_put_at (k := w.heap.size + 1) (tdl x) 0 (by omega) bel.out)
    replace R1 := Lib.hid (R1.out.full (m := (tdl x)) (by rw [tdl_len, tdl_len]))
    exact bodyPost_ret (v := tdv x) (td_result Try.results13 rfl R1.out.blk) rfl ⟨rfl, bel.out⟩

end Rip
end Go.Proofs.Ytihfganogemgkaa
