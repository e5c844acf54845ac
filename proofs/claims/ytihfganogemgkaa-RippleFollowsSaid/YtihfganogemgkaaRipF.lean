/-
  What Settle answers.
-/
import Derived.Test.YtihfganogemgkaaRipD
import Derived.Test.YtihfganogemgkaaRipE
import Derived.Deep.LoopGhost
import Derived.Deep.CutBlock
import Derived.WalkMore
import Derived.ScopeJumps
namespace Go.Proofs.Ytihfganogemgkaa
open Go.RowKit
namespace Rip
open Pre Crd Tre Elt

/-- How many rounds may come yet. -/
def intLeft : Value → Nat
  | .int _ n => (4 - n).toNat
  | _ => 0

set_option maxRecDepth 40000 in
set_option maxHeartbeats 8000000 in
theorem settle_any (x : Td) (w : World) : Calls Try.prog 5 #[tdv x] w fun e w' => e = .returned (tdv (setT x)) ∧ Below w.heap.size w w' := by
  obtain ⟨R, hR⟩ : ∃ R, R = setT x := ⟨_, rfl⟩
  have HR0 : Hid (Eq8 (setN x 4) R) := Lib.hid (by rw [hR]; exact Eq8.refl _)
  rw [← hR]
  clear hR
  have HZ := Lib.hid (@zero_at)
  have hal := zero_at
  have T0 : Hid (Bx.Fre (w.alloc (tdo x)) w.heap.size (tdl x)) := Lib.hid (Bx.Fre.new w (tdl x) 31)
  have bel := Lib.hid (Bx.box_below w (tdo x))
  replace T0 := Lib.hid (T0.out.more (tdo Td.zero))
  have R1 : Hid (Bx.Fre ((w.alloc (tdo x)).alloc (tdo Td.zero)) (w.heap.size + 1) (tdl Td.zero)) := Lib.hid (Bx.Fre.new_at (W := (w.alloc (tdo x))) (k := w.heap.size + 1) (tdl Td.zero) 31 (by simp))
  replace bel := Lib.hid (Bx.bel_box bel.out (tdo Td.zero))
  go_enter Try.func5, Try.ntmps5
  go_wp2_with fail
  clear hal
  generalize ((w.alloc (tdo x)).alloc (tdo Td.zero)) = W0 at *
  refine wp_scope_jumps 0 (fun a' w' => Hid (Below w.heap.size w w') ∧ ∃ (n m : Nat) (y : Td) (u4 u5 u6 u7 u8 u9 u10 u11 u12 u13 u14 u15 u16 u17 u18 u19 u20 u21 u22 u23 : Value), a' = { tmps := #[tdv x, .pointer (some ⟨w.heap.size, 0, none⟩), .pointer (some ⟨w.heap.size + 1, 0, none⟩), .int .i64 (n : Int), u4, u5, u6, u7, u8, u9, u10, u11, u12, u13, u14, u15, u16, u17, u18, u19, u20, u21, u22, u23], defers := [] } ∧ n + (m + 1) = 4 ∧ Hid (Bx.Fre w' w.heap.size (tdl y)) ∧ Hid (Bx.Fre w' (w.heap.size + 1) (tdl Td.zero)) ∧ Hid (Eq8 (setN y (m + 1)) R)) (fun a' _ => intLeft (a'.tmps.getD 3 undef)) rfl ?_ ?_
  · go_wp2_with fail
    go_step3
    obtain ⟨n, hn⟩ : ∃ n : Nat, n = 0 := ⟨_, rfl⟩
    obtain ⟨m, hm⟩ : ∃ m : Nat, m = 3 := ⟨_, rfl⟩
    have hnm : n + (m + 1) = 4 := by omega
    have HR : Hid (Eq8 (setN x (m + 1)) R) := by rw [hm]; exact HR0
    rw [show (0 : Int) = (n : Int) by omega]
    clear hn hm HR0
    have TT := T0
    have hal := HZ.out
    have h41 : w.heap.size + 1 < W0.heap.size := R1.out.2.1
    replace T0 := Lib.hid (T0.out.more (tdo x))
    replace R1 := Lib.hid (R1.out.more (tdo x))
    have B4 : Hid (Bx.Fre (W0.alloc (tdo x)) W0.heap.size (tdl x)) := Lib.hid (Bx.Fre.new W0 (tdl x) 31)
    replace bel := Lib.hid (Bx.bel_box bel.out (tdo x))
    go_upto_region 3 with (first | ((with_reducible refine td_load ?_ ?_ (w.heap.size) ?_ x ?_ ?_); (· rfl); (· rfl); (· rfl); (· exact TT.out.blk)) | ((with_reducible refine td_fresh ?_ ?_ (W0.heap.size) x ?_ ?_ W0 (tdl Td.zero) ?_ ?_ ?_ ?_); (· rfl); (· rfl); (· rfl); (· rfl); (· exact tdl_len _); (· rfl); (· first | rfl | (simp; done))))
    clear hal TT
    obtain ⟨k4, hk4⟩ : ∃ k, k = W0.heap.size := ⟨_, rfl⟩
    rw [← hk4] at B4 h41 ⊢
    generalize (W0.alloc (tdo x)) = W4 at *
    clear hk4
    go_wp2_with (first | ((with_reducible refine td_load ?_ ?_ (w.heap.size) ?_ x ?_ ?_); (· rfl); (· rfl); (· rfl); (· exact T0.out.blk)) | ((with_reducible refine cs_load ?_ ?_ (w.heap.size) ?_ x ?_ ?_); (· rfl); (· rfl); (· rfl); (· exact T0.out.blk)) | ((with_reducible refine td_load ?_ ?_ (w.heap.size + 1) ?_ Td.zero ?_ ?_); (· rfl); (· rfl); (· rfl); (· exact R1.out.blk)) | ((with_reducible refine cs_load ?_ ?_ (w.heap.size + 1) ?_ Td.zero ?_ ?_); (· rfl); (· rfl); (· rfl); (· exact R1.out.blk)) | ((with_reducible refine td_load ?_ ?_ (k4) ?_ x ?_ ?_); (· rfl); (· rfl); (· rfl); (· exact B4.out.blk)) | ((with_reducible refine cs_load ?_ ?_ (k4) ?_ x ?_ ?_); (· rfl); (· rfl); (· rfl); (· exact B4.out.blk)))
    go_loopg [7] 8 (fun g s7 wr => ∃ k : Nat, k + g = 8 ∧ s7 = .int .i64 k ∧ Aside (Bx.Fre wr w.heap.size (tdl (rndN x k))) ∧ Aside (Bx.Fre wr (w.heap.size + 1) (tdl Td.zero)) ∧ Aside (Bx.Fre wr k4 (tdl x)) ∧ Aside (Below w.heap.size w wr))
    case atStart => exact ⟨0, by omega, rfl, T0.out, R1.out, B4.out, bel.out⟩
    case round =>
      clear T0 R1 B4 bel W4
      obtain ⟨k, hkg, rfl, T0, R1, B4, bel⟩ := hrel
      cases gk with
      | succ g =>
        have hkz : (k : Int) < 8 := by omega
        have hk0 : (0 : Int) ≤ k := by omega
        have hk : k < 8 := by omega
        have HT := Lib.hid (fun w => step_any (rndN x k) k hk w)
        have hz : stepN (rndN x k) k = rndN x (k + 1) := rfl
        rw [hz] at HT; clear hz
        obtain ⟨z, hz2⟩ : ∃ z, rndN x (k + 1) = z := ⟨_, rfl⟩
        rw [hz2] at HT; replace hz2 := Lib.hid hz2; obtain ⟨v, hv⟩ : ∃ v, v = rndN x k := ⟨_, rfl⟩; rw [← hv] at HT T0; clear hv
        go_wp2_with (first | ((with_reducible refine td_load ?_ ?_ (w.heap.size) ?_ v ?_ ?_); (· rfl); (· rfl); (· rfl); (· exact T0.out.blk)) | ((with_reducible refine cs_load ?_ ?_ (w.heap.size) ?_ v ?_ ?_); (· rfl); (· rfl); (· rfl); (· exact T0.out.blk)))
        refine (HT.out _).mono ?_; rintro e w1 ⟨rfl, hb⟩
        replace T0 := Lib.hid (T0.out.keep hb)
        replace R1 := Lib.hid (R1.out.keep hb)
        replace B4 := Lib.hid (B4.out.keep hb)
        replace bel := Lib.hid (Bx.then_below bel.out hb)
        clear hb
        have O0 := T0
        replace R1 := Lib.hid (R1.out.apart_at (k' := w.heap.size) (tdl z) 0 (by omega))
        replace B4 := Lib.hid (B4.out.apart_at (k' := w.heap.size) (tdl z) 0 (by omega))
        replace bel := Lib.hid (Bx.bel_put_at (k := w.heap.size) (tdl z) 0 (by omega) bel.out)
        replace T0 := Lib.hid (T0.out.full (m := (tdl z)) (by rw [tdl_len, tdl_len]))
        go_wp2_with (first | ((with_reducible refine td_store ?_ ?_ (w.heap.size) z ?_ ?_ (tdl v) ?_ ?_ ?_); (· rfl); (· rfl); (· rfl); (· rfl); (· exact tdl_len _); (· exact O0.out.own)))
        clear O0
        go_roundg g
        case measure => omega
        case rel => exact ⟨k + 1, by omega, by go_num, by rw [hz2.out]; exact T0.out, R1.out, B4.out, bel.out⟩
      | zero =>
        have hkz : ¬ ((k : Int) < 8) := by omega
        obtain rfl : k = 8 := by omega
        have hw : IntKind.i64.wrap ((n : Int) + 1) = (n : Int) + 1 := by rw [IntKind.wrap_i64]; omega
        have HV := Lib.hid (tneq_any (rndN x 8) x)
        have HG := Lib.hid (fun op a b w => Tre.tguard_at op a b (rndN x 8) x w)
        have HS := Lib.hid (@sam_eq (rndN x 8) x)
        have HE1 : Hid (Eq8 (setN (rndN x 8) m) R) := HR
        obtain ⟨z, hz⟩ : ∃ z, z = rndN x 8 := ⟨_, rfl⟩
        have HQ := Lib.hid hz
        rw [← hz] at HV HG HS HE1 T0
        clear hz
        have hv := HV.out
        have hvg := HG.out
        clear HV HG
        obtain ⟨b, hb⟩ : ∃ b, b = samT z x := ⟨_, rfl⟩
        rw [← hb] at hv HS
        clear hb
        cases b with
        | true =>
          have HY : Eq8 z R := by
            have a := HS.out rfl
            have c : Eq8 (rndT z) z := by have h := a.rnd; rw [show rndT x = z from HQ.out.symm] at h; exact h
            exact (setN_still z c m).symm.trans HE1.out
          have HX : Hid (tdv z = tdv R) := Lib.hid (congrArg (fun l => Value.agg (List.toArray l)) HY.tdl)
          go_upto_region 10 with (first | ((with_reducible refine td_load ?_ ?_ (w.heap.size) ?_ z ?_ ?_); (· rfl); (· rfl); (· rfl); (· exact T0.out.blk)) | ((with_reducible refine cs_load ?_ ?_ (w.heap.size) ?_ z ?_ ?_); (· rfl); (· rfl); (· rfl); (· exact T0.out.blk)) | ((with_reducible refine td_load ?_ ?_ (k4) ?_ x ?_ ?_); (· rfl); (· rfl); (· rfl); (· exact B4.out.blk)) | ((with_reducible refine cs_load ?_ ?_ (k4) ?_ x ?_ ?_); (· rfl); (· rfl); (· rfl); (· exact B4.out.blk)))
          clear hv hvg
          go_wp2_with (first | ((with_reducible refine td_store ?_ ?_ (w.heap.size + 1) z ?_ ?_ (tdl Td.zero) ?_ ?_ ?_); (· rfl); (· rfl); (· rfl); (· rfl); (· exact tdl_len _); (· exact R1.out.own)) | ((with_reducible refine td_load ?_ ?_ (w.heap.size) ?_ z ?_ ?_); (· rfl); (· rfl); (· rfl); (· exact T0.out.blk)) | ((with_reducible refine cs_load ?_ ?_ (w.heap.size) ?_ z ?_ ?_); (· rfl); (· rfl); (· rfl); (· exact T0.out.blk)))
          replace T0 := Lib.hid (T0.out.apart_at (k' := w.heap.size + 1) (tdl z) 0 (by omega))
          replace B4 := Lib.hid (B4.out.apart_at (k' := w.heap.size + 1) (tdl z) 0 (by omega))
          replace bel := Lib.hid (Bx.bel_put_at (k := w.heap.size + 1) (tdl z) 0 (by omega) bel.out)
          replace R1 := Lib.hid (R1.out.full (m := (tdl z)) (by rw [tdl_len, tdl_len]))
          simp only [Exit.jump]
          exact bodyPost_ret (v := tdv z) (td_result Try.results5 rfl R1.out.blk) rfl ⟨by rw [HX.out], bel.out⟩
        | false =>
          cases m with
          | zero =>
            have h3 : n = 3 := by omega
            subst h3
            have HY : Eq8 z R := HE1.out
            have HX : Hid (tdv z = tdv R) := Lib.hid (congrArg (fun l => Value.agg (List.toArray l)) HY.tdl)
            go_upto_region 10 with (first | ((with_reducible refine td_load ?_ ?_ (w.heap.size) ?_ z ?_ ?_); (· rfl); (· rfl); (· rfl); (· exact T0.out.blk)) | ((with_reducible refine cs_load ?_ ?_ (w.heap.size) ?_ z ?_ ?_); (· rfl); (· rfl); (· rfl); (· exact T0.out.blk)) | ((with_reducible refine td_load ?_ ?_ (k4) ?_ x ?_ ?_); (· rfl); (· rfl); (· rfl); (· exact B4.out.blk)) | ((with_reducible refine cs_load ?_ ?_ (k4) ?_ x ?_ ?_); (· rfl); (· rfl); (· rfl); (· exact B4.out.blk)))
            clear hv hvg
            go_wp2_with (first | ((with_reducible refine td_store ?_ ?_ (w.heap.size + 1) z ?_ ?_ (tdl Td.zero) ?_ ?_ ?_); (· rfl); (· rfl); (· rfl); (· rfl); (· exact tdl_len _); (· exact R1.out.own)) | ((with_reducible refine td_load ?_ ?_ (w.heap.size) ?_ z ?_ ?_); (· rfl); (· rfl); (· rfl); (· exact T0.out.blk)) | ((with_reducible refine cs_load ?_ ?_ (w.heap.size) ?_ z ?_ ?_); (· rfl); (· rfl); (· rfl); (· exact T0.out.blk)))
            replace T0 := Lib.hid (T0.out.apart_at (k' := w.heap.size + 1) (tdl z) 0 (by omega))
            replace B4 := Lib.hid (B4.out.apart_at (k' := w.heap.size + 1) (tdl z) 0 (by omega))
            replace bel := Lib.hid (Bx.bel_put_at (k := w.heap.size + 1) (tdl z) 0 (by omega) bel.out)
            replace R1 := Lib.hid (R1.out.full (m := (tdl z)) (by rw [tdl_len, tdl_len]))
            simp only [Exit.jump]
            exact bodyPost_ret (v := tdv z) (td_result Try.results5 rfl R1.out.blk) rfl ⟨by rw [HX.out], bel.out⟩
          | succ j =>
            have h3 : (n : Int) + 1 < 4 := by omega
            go_wp2_with (first | ((with_reducible refine td_load ?_ ?_ (w.heap.size) ?_ z ?_ ?_); (· rfl); (· rfl); (· rfl); (· exact T0.out.blk)) | ((with_reducible refine cs_load ?_ ?_ (w.heap.size) ?_ z ?_ ?_); (· rfl); (· rfl); (· rfl); (· exact T0.out.blk)) | ((with_reducible refine td_load ?_ ?_ (k4) ?_ x ?_ ?_); (· rfl); (· rfl); (· rfl); (· exact B4.out.blk)) | ((with_reducible refine cs_load ?_ ?_ (k4) ?_ x ?_ ?_); (· rfl); (· rfl); (· rfl); (· exact B4.out.blk)))
            go_step3
            exact ⟨rfl, bel, n + 1, j, z, _, _, _, _, _, _, _, _, _, _, _, _, _, _, _, _, _, _, _, _, by go_num, by omega, T0, R1, HE1⟩
  · clear HR0 T0 R1 bel
    rintro a' w1 ⟨bel, n, m, y, u4, u5, u6, u7, u8, u9, u10, u11, u12, u13, u14, u15, u16, u17, u18, u19, u20, u21, u22, u23, rfl, hnm, T0, R1, HR⟩
    have TT := T0
    have hal := HZ.out
    have h41 : w.heap.size + 1 < w1.heap.size := R1.out.2.1
    replace T0 := Lib.hid (T0.out.more (tdo y))
    replace R1 := Lib.hid (R1.out.more (tdo y))
    have B4 : Hid (Bx.Fre (w1.alloc (tdo y)) w1.heap.size (tdl y)) := Lib.hid (Bx.Fre.new w1 (tdl y) 31)
    replace bel := Lib.hid (Bx.bel_box bel.out (tdo y))
    go_upto_region 3 with (first | ((with_reducible refine td_load ?_ ?_ (w.heap.size) ?_ y ?_ ?_); (· rfl); (· rfl); (· rfl); (· exact TT.out.blk)) | ((with_reducible refine td_fresh ?_ ?_ (w1.heap.size) y ?_ ?_ w1 (tdl Td.zero) ?_ ?_ ?_ ?_); (· rfl); (· rfl); (· rfl); (· rfl); (· exact tdl_len _); (· rfl); (· first | rfl | (simp; done))))
    clear hal TT
    obtain ⟨k4, hk4⟩ : ∃ k, k = w1.heap.size := ⟨_, rfl⟩
    rw [← hk4] at B4 h41 ⊢
    generalize (w1.alloc (tdo y)) = W4 at *
    clear hk4
    go_wp2_with (first | ((with_reducible refine td_load ?_ ?_ (w.heap.size) ?_ y ?_ ?_); (· rfl); (· rfl); (· rfl); (· exact T0.out.blk)) | ((with_reducible refine cs_load ?_ ?_ (w.heap.size) ?_ y ?_ ?_); (· rfl); (· rfl); (· rfl); (· exact T0.out.blk)) | ((with_reducible refine td_load ?_ ?_ (w.heap.size + 1) ?_ Td.zero ?_ ?_); (· rfl); (· rfl); (· rfl); (· exact R1.out.blk)) | ((with_reducible refine cs_load ?_ ?_ (w.heap.size + 1) ?_ Td.zero ?_ ?_); (· rfl); (· rfl); (· rfl); (· exact R1.out.blk)) | ((with_reducible refine td_load ?_ ?_ (k4) ?_ y ?_ ?_); (· rfl); (· rfl); (· rfl); (· exact B4.out.blk)) | ((with_reducible refine cs_load ?_ ?_ (k4) ?_ y ?_ ?_); (· rfl); (· rfl); (· rfl); (· exact B4.out.blk)))
    go_loopg [7] 8 (fun g s7 wr => ∃ k : Nat, k + g = 8 ∧ s7 = .int .i64 k ∧ Aside (Bx.Fre wr w.heap.size (tdl (rndN y k))) ∧ Aside (Bx.Fre wr (w.heap.size + 1) (tdl Td.zero)) ∧ Aside (Bx.Fre wr k4 (tdl y)) ∧ Aside (Below w.heap.size w wr))
    case atStart => exact ⟨0, by omega, rfl, T0.out, R1.out, B4.out, bel.out⟩
    case round =>
      clear T0 R1 B4 bel W4
      obtain ⟨k, hkg, rfl, T0, R1, B4, bel⟩ := hrel
      cases gk with
      | succ g =>
        have hkz : (k : Int) < 8 := by omega
        have hk0 : (0 : Int) ≤ k := by omega
        have hk : k < 8 := by omega
        have HT := Lib.hid (fun w => step_any (rndN y k) k hk w)
        have hz : stepN (rndN y k) k = rndN y (k + 1) := rfl
        rw [hz] at HT; clear hz
        obtain ⟨z, hz2⟩ : ∃ z, rndN y (k + 1) = z := ⟨_, rfl⟩
        rw [hz2] at HT; replace hz2 := Lib.hid hz2; obtain ⟨v, hv⟩ : ∃ v, v = rndN y k := ⟨_, rfl⟩; rw [← hv] at HT T0; clear hv
        go_wp2_with (first | ((with_reducible refine td_load ?_ ?_ (w.heap.size) ?_ v ?_ ?_); (· rfl); (· rfl); (· rfl); (· exact T0.out.blk)) | ((with_reducible refine cs_load ?_ ?_ (w.heap.size) ?_ v ?_ ?_); (· rfl); (· rfl); (· rfl); (· exact T0.out.blk)))
        refine (HT.out _).mono ?_; rintro e w1 ⟨rfl, hb⟩
        replace T0 := Lib.hid (T0.out.keep hb)
        replace R1 := Lib.hid (R1.out.keep hb)
        replace B4 := Lib.hid (B4.out.keep hb)
        replace bel := Lib.hid (Bx.then_below bel.out hb)
        clear hb
        have O0 := T0
        replace R1 := Lib.hid (R1.out.apart_at (k' := w.heap.size) (tdl z) 0 (by omega))
        replace B4 := Lib.hid (B4.out.apart_at (k' := w.heap.size) (tdl z) 0 (by omega))
        replace bel := Lib.hid (Bx.bel_put_at (k := w.heap.size) (tdl z) 0 (by omega) bel.out)
        replace T0 := Lib.hid (T0.out.full (m := (tdl z)) (by rw [tdl_len, tdl_len]))
        go_wp2_with (first | ((with_reducible refine td_store ?_ ?_ (w.heap.size) z ?_ ?_ (tdl v) ?_ ?_ ?_); (· rfl); (· rfl); (· rfl); (· rfl); (· exact tdl_len _); (· exact O0.out.own)))
        clear O0
        go_roundg g
        case measure => omega
        case rel => exact ⟨k + 1, by omega, by go_num, by rw [hz2.out]; exact T0.out, R1.out, B4.out, bel.out⟩
      | zero =>
        have hkz : ¬ ((k : Int) < 8) := by omega
        obtain rfl : k = 8 := by omega
        have hw : IntKind.i64.wrap ((n : Int) + 1) = (n : Int) + 1 := by rw [IntKind.wrap_i64]; omega
        have HV := Lib.hid (tneq_any (rndN y 8) y)
        have HG := Lib.hid (fun op a b w => Tre.tguard_at op a b (rndN y 8) y w)
        have HS := Lib.hid (@sam_eq (rndN y 8) y)
        have HE1 : Hid (Eq8 (setN (rndN y 8) m) R) := HR
        obtain ⟨z, hz⟩ : ∃ z, z = rndN y 8 := ⟨_, rfl⟩
        have HQ := Lib.hid hz
        rw [← hz] at HV HG HS HE1 T0
        clear hz
        have hv := HV.out
        have hvg := HG.out
        clear HV HG
        obtain ⟨b, hb⟩ : ∃ b, b = samT z y := ⟨_, rfl⟩
        rw [← hb] at hv HS
        clear hb
        cases b with
        | true =>
          have HY : Eq8 z R := by
            have a := HS.out rfl
            have c : Eq8 (rndT z) z := by have h := a.rnd; rw [show rndT y = z from HQ.out.symm] at h; exact h
            exact (setN_still z c m).symm.trans HE1.out
          have HX : Hid (tdv z = tdv R) := Lib.hid (congrArg (fun l => Value.agg (List.toArray l)) HY.tdl)
          go_upto_region 10 with (first | ((with_reducible refine td_load ?_ ?_ (w.heap.size) ?_ z ?_ ?_); (· rfl); (· rfl); (· rfl); (· exact T0.out.blk)) | ((with_reducible refine cs_load ?_ ?_ (w.heap.size) ?_ z ?_ ?_); (· rfl); (· rfl); (· rfl); (· exact T0.out.blk)) | ((with_reducible refine td_load ?_ ?_ (k4) ?_ y ?_ ?_); (· rfl); (· rfl); (· rfl); (· exact B4.out.blk)) | ((with_reducible refine cs_load ?_ ?_ (k4) ?_ y ?_ ?_); (· rfl); (· rfl); (· rfl); (· exact B4.out.blk)))
          clear hv hvg
          go_wp2_with (first | ((with_reducible refine td_store ?_ ?_ (w.heap.size + 1) z ?_ ?_ (tdl Td.zero) ?_ ?_ ?_); (· rfl); (· rfl); (· rfl); (· rfl); (· exact tdl_len _); (· exact R1.out.own)) | ((with_reducible refine td_load ?_ ?_ (w.heap.size) ?_ z ?_ ?_); (· rfl); (· rfl); (· rfl); (· exact T0.out.blk)) | ((with_reducible refine cs_load ?_ ?_ (w.heap.size) ?_ z ?_ ?_); (· rfl); (· rfl); (· rfl); (· exact T0.out.blk)))
          replace T0 := Lib.hid (T0.out.apart_at (k' := w.heap.size + 1) (tdl z) 0 (by omega))
          replace B4 := Lib.hid (B4.out.apart_at (k' := w.heap.size + 1) (tdl z) 0 (by omega))
          replace bel := Lib.hid (Bx.bel_put_at (k := w.heap.size + 1) (tdl z) 0 (by omega) bel.out)
          replace R1 := Lib.hid (R1.out.full (m := (tdl z)) (by rw [tdl_len, tdl_len]))
          simp only [Exit.jump]
          exact bodyPost_ret (v := tdv z) (td_result Try.results5 rfl R1.out.blk) rfl ⟨by rw [HX.out], bel.out⟩
        | false =>
          cases m with
          | zero =>
            have h3 : n = 3 := by omega
            subst h3
            have HY : Eq8 z R := HE1.out
            have HX : Hid (tdv z = tdv R) := Lib.hid (congrArg (fun l => Value.agg (List.toArray l)) HY.tdl)
            go_upto_region 10 with (first | ((with_reducible refine td_load ?_ ?_ (w.heap.size) ?_ z ?_ ?_); (· rfl); (· rfl); (· rfl); (· exact T0.out.blk)) | ((with_reducible refine cs_load ?_ ?_ (w.heap.size) ?_ z ?_ ?_); (· rfl); (· rfl); (· rfl); (· exact T0.out.blk)) | ((with_reducible refine td_load ?_ ?_ (k4) ?_ y ?_ ?_); (· rfl); (· rfl); (· rfl); (· exact B4.out.blk)) | ((with_reducible refine cs_load ?_ ?_ (k4) ?_ y ?_ ?_); (· rfl); (· rfl); (· rfl); (· exact B4.out.blk)))
            clear hv hvg
            go_wp2_with (first | ((with_reducible refine td_store ?_ ?_ (w.heap.size + 1) z ?_ ?_ (tdl Td.zero) ?_ ?_ ?_); (· rfl); (· rfl); (· rfl); (· rfl); (· exact tdl_len _); (· exact R1.out.own)) | ((with_reducible refine td_load ?_ ?_ (w.heap.size) ?_ z ?_ ?_); (· rfl); (· rfl); (· rfl); (· exact T0.out.blk)) | ((with_reducible refine cs_load ?_ ?_ (w.heap.size) ?_ z ?_ ?_); (· rfl); (· rfl); (· rfl); (· exact T0.out.blk)))
            replace T0 := Lib.hid (T0.out.apart_at (k' := w.heap.size + 1) (tdl z) 0 (by omega))
            replace B4 := Lib.hid (B4.out.apart_at (k' := w.heap.size + 1) (tdl z) 0 (by omega))
            replace bel := Lib.hid (Bx.bel_put_at (k := w.heap.size + 1) (tdl z) 0 (by omega) bel.out)
            replace R1 := Lib.hid (R1.out.full (m := (tdl z)) (by rw [tdl_len, tdl_len]))
            simp only [Exit.jump]
            exact bodyPost_ret (v := tdv z) (td_result Try.results5 rfl R1.out.blk) rfl ⟨by rw [HX.out], bel.out⟩
          | succ j =>
            have h3 : (n : Int) + 1 < 4 := by omega
            go_wp2_with (first | ((with_reducible refine td_load ?_ ?_ (w.heap.size) ?_ z ?_ ?_); (· rfl); (· rfl); (· rfl); (· exact T0.out.blk)) | ((with_reducible refine cs_load ?_ ?_ (w.heap.size) ?_ z ?_ ?_); (· rfl); (· rfl); (· rfl); (· exact T0.out.blk)) | ((with_reducible refine td_load ?_ ?_ (k4) ?_ y ?_ ?_); (· rfl); (· rfl); (· rfl); (· exact B4.out.blk)) | ((with_reducible refine cs_load ?_ ?_ (k4) ?_ y ?_ ?_); (· rfl); (· rfl); (· rfl); (· exact B4.out.blk)))
            go_step3
            refine ⟨rfl, ⟨bel, n + 1, j, z, _, _, _, _, _, _, _, _, _, _, _, _, _, _, _, _, _, _, _, _, by go_num, by omega, T0, R1, HE1⟩, ?_⟩
            show (4 - ((n : Int) + 1)).toNat < (4 - (n : Int)).toNat
            omega

end Rip
end Go.Proofs.Ytihfganogemgkaa
