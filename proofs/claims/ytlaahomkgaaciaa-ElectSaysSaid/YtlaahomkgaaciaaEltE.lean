/-
  What the document's Roles answers.
-/
import Derived.Test.YtlaahomkgaaciaaEltC
import Derived.Test.YtlaahomkgaaciaaEltD
namespace Go.Proofs.Ytlaahomkgaaciaa
open Go.RowKit
namespace Elt
open Pre Crd Tre

set_option maxRecDepth 40000 in
set_option maxHeartbeats 8000000 in
theorem rroles_any (x : Td) (w : World) : Calls Try.prog 9 #[tdv x] w fun e w' => e = .returned (i8v (roleN x (rootR x))) ∧ Below w.heap.size w w' := by
  have HR : Hid (∀ w, Calls Try.prog 7 #[tdv x] w fun e w' => e = .returned (.tuple #[vv (rootR x).v, tmv (rootR x).t, .int .i64 (rootR x).p]) ∧ Below w.heap.size w w') := Lib.hid (rroot_any x)
  obtain ⟨r, hr⟩ : ∃ r, r = rootR x := ⟨_, rfl⟩
  rw [← hr] at HR ⊢
  clear hr
  have T0 : Hid (Bx.Fre (w.alloc (tdo x)) w.heap.size (tdl x)) := Lib.hid (Bx.Fre.new w (tdl x) 31)
  have bel := Lib.hid (Bx.box_below w (tdo x))
  replace T0 := Lib.hid (T0.out.more (.cells #[.int .i64 0, .int .i64 0, .int .i64 0, .int .i64 0, .int .i64 0, .int .i64 0, .int .i64 0, .int .i64 0] 34))
  have R1 : Hid (Bx.Fre ((w.alloc (tdo x)).alloc (.cells #[.int .i64 0, .int .i64 0, .int .i64 0, .int .i64 0, .int .i64 0, .int .i64 0, .int .i64 0, .int .i64 0] 34)) (w.heap.size + 1) (i8 (fun _ => 0))) := Lib.hid (Bx.Fre.new_at (W := (w.alloc (tdo x))) (k := w.heap.size + 1) (i8 (fun _ => 0)) 34 (by simp))
  replace bel := Lib.hid (Bx.bel_box bel.out (.cells #[.int .i64 0, .int .i64 0, .int .i64 0, .int .i64 0, .int .i64 0, .int .i64 0, .int .i64 0, .int .i64 0] 34))
  go_enter Try.func9, Try.ntmps9
  go_wp2_with (first | ((with_reducible refine td_load ?_ ?_ (w.heap.size) ?_ x ?_ ?_); (· rfl); (· rfl); (· rfl); (· exact T0.out.blk)) | ((with_reducible refine cs_load ?_ ?_ (w.heap.size) ?_ x ?_ ?_); (· rfl); (· rfl); (· rfl); (· exact T0.out.blk)))
  refine (HR.out _).mono ?_; rintro e w1 ⟨rfl, hb⟩
  replace T0 := Lib.hid (T0.out.keep hb)
  replace R1 := Lib.hid (R1.out.keep hb)
  replace bel := Lib.hid (Bx.then_below bel.out hb)
  clear hb
  have h12 : w.heap.size + 1 < w1.heap.size := R1.out.2.1
  replace T0 := Lib.hid (T0.out.more (vo r.v))
  replace R1 := Lib.hid (R1.out.more (vo r.v))
  have V3 : Hid (Bx.Fre (w1.alloc (vo r.v)) w1.heap.size (enc r.v)) := Lib.hid (Bx.Fre.new w1 (enc r.v) 26)
  replace bel := Lib.hid (Bx.bel_box bel.out (vo r.v))
  replace T0 := Lib.hid (T0.out.more (tmo r.t))
  replace R1 := Lib.hid (R1.out.more (tmo r.t))
  replace V3 := Lib.hid (V3.out.more (tmo r.t))
  have M4 : Hid (Bx.Fre ((w1.alloc (vo r.v)).alloc (tmo r.t)) (w1.heap.size + 1) (tenc r.t)) := Lib.hid (Bx.Fre.new_at (W := (w1.alloc (vo r.v))) (k := w1.heap.size + 1) (tenc r.t) 24 (by simp))
  replace bel := Lib.hid (Bx.bel_box bel.out (tmo r.t))
  replace T0 := Lib.hid (T0.out.more (.cells #[.int .i64 0, .int .i64 0, .int .i64 0, .int .i64 0, .int .i64 0, .int .i64 0, .int .i64 0, .int .i64 0] 34))
  replace R1 := Lib.hid (R1.out.more (.cells #[.int .i64 0, .int .i64 0, .int .i64 0, .int .i64 0, .int .i64 0, .int .i64 0, .int .i64 0, .int .i64 0] 34))
  replace V3 := Lib.hid (V3.out.more (.cells #[.int .i64 0, .int .i64 0, .int .i64 0, .int .i64 0, .int .i64 0, .int .i64 0, .int .i64 0, .int .i64 0] 34))
  replace M4 := Lib.hid (M4.out.more (.cells #[.int .i64 0, .int .i64 0, .int .i64 0, .int .i64 0, .int .i64 0, .int .i64 0, .int .i64 0, .int .i64 0] 34))
  have G6 : Hid (Bx.Fre (((w1.alloc (vo r.v)).alloc (tmo r.t)).alloc (.cells #[.int .i64 0, .int .i64 0, .int .i64 0, .int .i64 0, .int .i64 0, .int .i64 0, .int .i64 0, .int .i64 0] 34)) (w1.heap.size + 1 + 1) (i8 (fun _ => 0))) := Lib.hid (Bx.Fre.new_at (W := ((w1.alloc (vo r.v)).alloc (tmo r.t))) (k := w1.heap.size + 1 + 1) (i8 (fun _ => 0)) 34 (by simp))
  replace bel := Lib.hid (Bx.bel_box bel.out (.cells #[.int .i64 0, .int .i64 0, .int .i64 0, .int .i64 0, .int .i64 0, .int .i64 0, .int .i64 0, .int .i64 0] 34))
  go_upto_region 3 with fail
  obtain ⟨k3, hk3⟩ : ∃ k, k = w1.heap.size := ⟨_, rfl⟩
  rw [← hk3] at V3 M4 G6 h12 ⊢
  generalize (((w1.alloc (vo r.v)).alloc (tmo r.t)).alloc (.cells #[.int .i64 0, .int .i64 0, .int .i64 0, .int .i64 0, .int .i64 0, .int .i64 0, .int .i64 0, .int .i64 0] 34)) = W2 at *
  clear hk3
  replace G6 := Lib.hid (G6.out.of (up_none (roleN x r)).symm)
  go_wp2_with (first | ((with_reducible refine td_load ?_ ?_ (w.heap.size) ?_ x ?_ ?_); (· rfl); (· rfl); (· rfl); (· exact T0.out.blk)) | ((with_reducible refine cs_load ?_ ?_ (w.heap.size) ?_ x ?_ ?_); (· rfl); (· rfl); (· rfl); (· exact T0.out.blk)))
  go_loopg [17] 8 (fun g s17 wr => ∃ k : Nat, k + g = 8 ∧ s17 = .int .i64 k ∧ Aside (Bx.Fre wr w.heap.size (tdl x)) ∧ Aside (Bx.Fre wr (w.heap.size + 1) (i8 (fun _ => 0))) ∧ Aside (Bx.Fre wr k3 (enc r.v)) ∧ Aside (Bx.Fre wr (k3 + 1 + 1) (i8 (upI (roleN x r) k))) ∧ Aside (Below w.heap.size w wr))
  case atStart => exact ⟨0, by omega, rfl, T0.out, R1.out, V3.out, G6.out, bel.out⟩
  case round =>
    clear T0 R1 V3 M4 G6 bel W2
    obtain ⟨k, hkg, rfl, T0, R1, V3, G6, bel⟩ := hrel
    cases gk with
    | zero =>
      have hkz : ¬ ((k : Int) < 8) := by omega
      obtain rfl : k = 8 := by omega
      replace G6 := Lib.hid (G6.out.of (up_all (roleN x r)))
      go_wp2_with (first | ((with_reducible refine i8_store ?_ ?_ (w.heap.size + 1) (roleN x r) ?_ ?_ (i8 (fun _ => 0)) ?_ ?_ ?_); (· rfl); (· rfl); (· rfl); (· rfl); (· rfl); (· exact R1.out.own)) | ((with_reducible refine i8_load ?_ ?_ (k3 + 1 + 1) ?_ (roleN x r) ?_ ?_); (· rfl); (· rfl); (· rfl); (· exact G6.out.blk)))
      replace T0 := Lib.hid (T0.out.apart_at (k' := w.heap.size + 1) (i8 (roleN x r)) 0 (by omega))
      replace V3 := Lib.hid (V3.out.apart_at (k' := w.heap.size + 1) (i8 (roleN x r)) 0 (by omega))
      replace G6 := Lib.hid (G6.out.apart_at (k' := w.heap.size + 1) (i8 (roleN x r)) 0 (by omega))
      replace bel := Lib.hid (Bx.bel_put_at (k := w.heap.size + 1) (i8 (roleN x r)) 0 (by omega) bel.out)
      replace R1 := Lib.hid (R1.out.full (m := i8 (roleN x r)) rfl)
      exact bodyPost_ret (v := i8v (roleN x r)) (row_result Try.results9 rfl (i8_var R1.out.blk)) rfl ⟨rfl, bel.out⟩
    | succ g =>
      have hkz : (k : Int) < 8 := by omega
      have hk0 : (0 : Int) ≤ k := by omega
      have hk : k < 8 := by omega
      have hix := index_at x.cs k hk
      have HG := Lib.hid (fun v hv => up_set (roleN x r) k hk v hv)
      have HN := Lib.hid (show roleN x r k = if (x.cs k).up = false then 0 else if (k : Int) = r.p then 2 else if (decide ((x.cs k).info = 2) && !ltV (desV r.v x.id k) (x.cs k).v) = true then 1 else 3 from rfl)
      obtain ⟨c, hc⟩ : ∃ c, c = x.cs k := ⟨_, rfl⟩
      rw [← hc] at hix HN
      clear hc
      have h83 : k3 + 1 + 1 < wr.heap.size := G6.out.2.1
      have h81 : w.heap.size + 1 < wr.heap.size := R1.out.2.1
      replace T0 := Lib.hid (T0.out.more (cdo c))
      replace R1 := Lib.hid (R1.out.more (cdo c))
      replace V3 := Lib.hid (V3.out.more (cdo c))
      replace G6 := Lib.hid (G6.out.more (cdo c))
      have C8 : Hid (Bx.Fre (wr.alloc (cdo c)) wr.heap.size (cdl c)) := Lib.hid (Bx.Fre.new wr (cdl c) 28)
      replace bel := Lib.hid (Bx.bel_box bel.out (cdo c))
      go_upto_region 7 with (first | ((with_reducible refine cd_fresh ?_ ?_ (wr.heap.size) c ?_ ?_ wr (cdl Cd.zero) ?_ ?_ ?_ ?_); (· rfl); (· rfl); (· rfl); (· rfl); (· rfl); (· rfl); (· first | rfl | (simp; done))))
      clear hix
      obtain ⟨k8, hk8⟩ : ∃ k, k = wr.heap.size := ⟨_, rfl⟩
      rw [← hk8] at C8 h83 h81 ⊢
      generalize wr.alloc (cdo c) = w0 at *
      clear hk8 wr
      rcases Bool.eq_false_or_eq_true c.up with hu | hu
      · by_cases hp : (k : Int) = r.p
        · have C8_0 := C8.out.at 0 rfl
          have g6 := G6.out.at k (up_get (roleN x r) k hk)
          have f6 := G6.out.2.2 k
          rw [hu] at C8_0
          have hq : ((k : Int) == r.p) = true := by simpa using hp
          have HX := Lib.hid (HG.out (2) (by rw [HN.out, hu, if_neg (by simp), if_pos hp]))
          replace T0 := Lib.hid (T0.out.other (k' := k3 + 1 + 1) (o := k) (x := .int .i64 (2)) (by omega))
          replace R1 := Lib.hid (R1.out.other (k' := k3 + 1 + 1) (o := k) (x := .int .i64 (2)) (by omega))
          replace V3 := Lib.hid (V3.out.other (k' := k3 + 1 + 1) (o := k) (x := .int .i64 (2)) (by omega))
          replace C8 := Lib.hid (C8.out.other (k' := k3 + 1 + 1) (o := k) (x := .int .i64 (2)) (by omega))
          replace bel := Lib.hid (Bx.bel_set (k := k3 + 1 + 1) (o := k) (x := .int .i64 (2)) (by omega) bel.out)
          replace G6 := Lib.hid ((G6.out.set k (.int .i64 (2))).of (m := (i8 (upI (roleN x r) (k + 1)))) (HX.out))
          clear hu hp
          go_wp2_with (first | ((with_reducible refine td_load ?_ ?_ (w.heap.size) ?_ x ?_ ?_); (· rfl); (· rfl); (· rfl); (· exact T0.out.blk)) | ((with_reducible refine cs_load ?_ ?_ (w.heap.size) ?_ x ?_ ?_); (· rfl); (· rfl); (· rfl); (· exact T0.out.blk)) | ((with_reducible refine i8_load ?_ ?_ (w.heap.size + 1) ?_ (fun _ => 0) ?_ ?_); (· rfl); (· rfl); (· rfl); (· exact R1.out.blk)) | ((with_reducible refine i8_load ?_ ?_ (k3 + 1 + 1) ?_ (upI (roleN x r) (k + 1)) ?_ ?_); (· rfl); (· rfl); (· rfl); (· exact G6.out.blk)) | ((with_reducible refine cd_load ?_ ?_ (k8) ?_ c ?_ ?_); (· rfl); (· rfl); (· rfl); (· exact C8.out.blk)))
          go_roundg g
          case measure => omega
          case rel => exact ⟨k + 1, by omega, by go_num, T0.out, R1.out, V3.out, G6.out, bel.out⟩
        · have hq : ((k : Int) == r.p) = false := by simpa using hp
          rw [hu, if_neg (by simp), if_neg hp] at HN
          have hw1 : IntKind.i64.wrap ((k : Int) + 1) = (k : Int) + 1 := by rw [IntKind.wrap_i64]; omega
          have HO : Hid (∀ w, Calls Try.prog 25 #[vv r.v, .int .u64 x.id, .int .i64 ((k : Int) + 1)] w fun e w' => e = .returned (vv (desV r.v x.id k)) ∧ Below w.heap.size w w') := Lib.hid (fun w => rdes_any r.v x.id ((k : Int) + 1) w)
          have HB := Lib.hid (fun w => rrole_any c (desV r.v x.id k) w)
          rw [← HN.out] at HB
          obtain ⟨q, hq2⟩ : ∃ q, q = roleN x r k := ⟨_, rfl⟩
          rw [← hq2] at HB
          replace hq2 := Lib.hid hq2
          have C8_0 := C8.out.at 0 rfl
          rw [hu] at C8_0
          clear hu hp
          go_wp2_with (first | ((with_reducible refine td_load ?_ ?_ (w.heap.size) ?_ x ?_ ?_); (· rfl); (· rfl); (· rfl); (· exact T0.out.blk)) | ((with_reducible refine cs_load ?_ ?_ (w.heap.size) ?_ x ?_ ?_); (· rfl); (· rfl); (· rfl); (· exact T0.out.blk)) | ((with_reducible refine i8_load ?_ ?_ (w.heap.size + 1) ?_ (fun _ => 0) ?_ ?_); (· rfl); (· rfl); (· rfl); (· exact R1.out.blk)) | ((with_reducible refine i8_load ?_ ?_ (k3 + 1 + 1) ?_ (upI (roleN x r) k) ?_ ?_); (· rfl); (· rfl); (· rfl); (· exact G6.out.blk)) | ((with_reducible refine cd_load ?_ ?_ (k8) ?_ c ?_ ?_); (· rfl); (· rfl); (· rfl); (· exact C8.out.blk)))
          clear C8_0
          refine wp_region_noPanic ?_
          refine wp_region_held_drew (S := fun w' => Bx.Blk w' k8 (cdl c) ∧ w'.cell? ⟨k3, 0, none⟩ = some (.int .u64 r.v.r) ∧ w'.cell? ⟨k3, 1, none⟩ = some (.int .u64 r.v.c) ∧ w'.cell? ⟨k3, 2, none⟩ = some (.int .u64 r.v.b) ∧ w'.cell? ⟨k3, 3, none⟩ = some (.int .i64 r.v.p) ∧ w'.cell? ⟨w.heap.size, 0, none⟩ = some (.int .u64 x.id)) (by kernel_rfl) (by exact ⟨C8.out.blk, V3.out.at 0 rfl, V3.out.at 1 rfl, V3.out.at 2 rfl, V3.out.at 3 rfl, T0.out.at 0 (v := .int .u64 x.id) rfl⟩) (fun hHeld => ?_)
          replace bel := Lib.hid (Bx.bel_drewn bel.out)
          replace T0 := Lib.hid (T0.out.drew)
          replace R1 := Lib.hid (R1.out.drew)
          replace V3 := Lib.hid (V3.out.drew)
          replace G6 := Lib.hid (G6.out.drew)
          replace C8 := Lib.hid (C8.out.drew)
          refine wpAnyH_take (i := 0) (oi := ?oz4x0) (v := ?vz4x0) ?hiz4x0 (by kernel_rfl) (by kernel_rfl) (by kernel_rfl) (fun _ _ _ h => h) ?yz4x0 (by assumption) ?rz4x0
          case hiz4x0 => (simp only [List.getElem?_toArray, List.getElem?_cons_zero]; rfl)
          case yz4x0 => (refine Or.inl ⟨by rfl, ?_⟩; intro w' hSw; (try dsimp only at hSw); go_simp; (try with_reducible rfl))
          try simp only [Act.put, List.setIfInBounds_toArray, List.set_cons_zero, List.set_cons_succ]
          refine wpAnyH_take (i := 1) (oi := ?oz4x1) (v := cdv c) ?hiz4x1 (by kernel_rfl) (by kernel_rfl) (by kernel_rfl) (fun _ _ _ h => h) ?yz4x1 (by assumption) ?rz4x1
          case hiz4x1 => (simp only [List.getElem?_toArray, List.getElem?_cons_succ, List.getElem?_cons_zero]; rfl)
          case yz4x1 => (refine cd_yields rfl rfl (k8) rfl c ?_; intro w' hS; exact hS.1)
          try simp only [Act.put, List.setIfInBounds_toArray, List.set_cons_zero, List.set_cons_succ]
          refine wpAnyH_take (i := 2) (oi := ?oz4x2) (v := ?vz4x2) ?hiz4x2 (by kernel_rfl) (by kernel_rfl) (by kernel_rfl) (fun _ _ _ h => h) ?yz4x2 (by assumption) ?rz4x2
          case hiz4x2 => (simp only [List.getElem?_toArray, List.getElem?_cons_succ, List.getElem?_cons_zero]; rfl)
          case yz4x2 => (refine Or.inl ⟨by rfl, ?_⟩; intro w' hSw; (try dsimp only at hSw); go_simp; (try with_reducible rfl))
          try simp only [Act.put, List.setIfInBounds_toArray, List.set_cons_zero, List.set_cons_succ]
          refine wpAnyH_take (i := 3) (oi := ?oz4x3) (v := ?vz4x3) ?hiz4x3 (by kernel_rfl) (by kernel_rfl) (by kernel_rfl) (fun _ _ _ h => h) ?yz4x3 (by assumption) ?rz4x3
          case hiz4x3 => (simp only [List.getElem?_toArray, List.getElem?_cons_succ, List.getElem?_cons_zero]; rfl)
          case yz4x3 => (refine Or.inl ⟨by rfl, ?_⟩; intro w' hSw; (try dsimp only at hSw); go_simp; (try with_reducible rfl))
          try simp only [Act.put, List.setIfInBounds_toArray, List.set_cons_zero, List.set_cons_succ]
          refine wpAnyH_take (i := 4) (oi := ?oz4x4) (v := ?vz4x4) ?hiz4x4 (by kernel_rfl) (by kernel_rfl) (by kernel_rfl) (fun _ _ _ h => h) ?yz4x4 (by assumption) ?rz4x4
          case hiz4x4 => (simp only [List.getElem?_toArray, List.getElem?_cons_succ, List.getElem?_cons_zero]; rfl)
          case yz4x4 => (refine Or.inl ⟨by rfl, ?_⟩; intro w' hSw; (try dsimp only at hSw); go_simp; (try with_reducible rfl))
          try simp only [Act.put, List.setIfInBounds_toArray, List.set_cons_zero, List.set_cons_succ]
          refine wpAnyH_take (i := 5) (oi := ?oz4x5) (v := ?vz4x5) ?hiz4x5 (by kernel_rfl) (by kernel_rfl) (by kernel_rfl) (fun _ _ _ h => h) ?yz4x5 (by assumption) ?rz4x5
          case hiz4x5 => (simp only [List.getElem?_toArray, List.getElem?_cons_succ, List.getElem?_cons_zero]; rfl)
          case yz4x5 => (refine Or.inl ⟨by rfl, ?_⟩; intro w' hSw; (try dsimp only at hSw); go_simp; (try with_reducible rfl))
          try simp only [Act.put, List.setIfInBounds_toArray, List.set_cons_zero, List.set_cons_succ]
          refine wpAnyH_take (i := 6) (oi := ?oz4x6) (v := ?vz4x6) ?hiz4x6 (by kernel_rfl) (by kernel_rfl) (by kernel_rfl) (fun _ _ _ h => h) ?yz4x6 (by assumption) ?rz4x6
          case hiz4x6 => (simp only [List.getElem?_toArray, List.getElem?_cons_succ, List.getElem?_cons_zero]; rfl)
          case yz4x6 => (refine Or.inl ⟨by rfl, ?_⟩; intro w' hSw; (try dsimp only at hSw); go_simp; (try with_reducible rfl))
          try simp only [Act.put, List.setIfInBounds_toArray, List.set_cons_zero, List.set_cons_succ]
          refine wpAnyH_ready (rs := [7]) (by kernel_rfl) (by simp) ?_
          refine AllReadyH.cons (o := ?oz4x7) ?hiz4x7 ?hstz4x7 AllReadyH.nil
          case hiz4x7 => (simp only [List.getElem?_toArray, List.getElem?_cons_succ, List.getElem?_cons_zero]; rfl)
          intro K hK
          go_simp
          (go_at_call 25; (with_reducible refine (HO.out _).mono ?_); rintro e w1 ⟨rfl, hb1⟩)
          go_wp2_with fail
          refine hK.out _ _ ⟨Bx.Blk.keep hHeld.1 hb1, Bx.keep_cell hb1 hHeld.2.1, Bx.keep_cell hb1 hHeld.2.2.1, Bx.keep_cell hb1 hHeld.2.2.2.1, Bx.keep_cell hb1 hHeld.2.2.2.2.1, Bx.keep_cell hb1 hHeld.2.2.2.2.2⟩ (fun hNew => ?_)
          clear hHeld
          have hHeld := hNew
          clear hNew hK K
          replace bel := Lib.hid (Bx.then_below bel.out hb1)
          replace T0 := Lib.hid (T0.out.keep hb1)
          replace R1 := Lib.hid (R1.out.keep hb1)
          replace V3 := Lib.hid (V3.out.keep hb1)
          replace G6 := Lib.hid (G6.out.keep hb1)
          replace C8 := Lib.hid (C8.out.keep hb1)
          clear hb1
          refine wpAnyH_ready (rs := [8]) (by kernel_rfl) (by simp) ?_
          refine AllReadyH.cons (o := ?oz4x8) ?hiz4x8 ?hstz4x8 AllReadyH.nil
          case hiz4x8 => (simp only [List.getElem?_toArray, List.getElem?_cons_succ, List.getElem?_cons_zero]; rfl)
          intro K hK
          go_simp
          (go_at_call 24; (with_reducible refine (HB.out _).mono ?_); rintro e w2 ⟨rfl, hb2⟩)
          go_wp2_with fail
          refine hK.out _ _ ⟨Bx.Blk.keep hHeld.1 hb2, Bx.keep_cell hb2 hHeld.2.1, Bx.keep_cell hb2 hHeld.2.2.1, Bx.keep_cell hb2 hHeld.2.2.2.1, Bx.keep_cell hb2 hHeld.2.2.2.2.1, Bx.keep_cell hb2 hHeld.2.2.2.2.2⟩ (fun hNew => ?_)
          clear hHeld
          have hHeld := hNew
          clear hNew hK K
          replace bel := Lib.hid (Bx.then_below bel.out hb2)
          replace T0 := Lib.hid (T0.out.keep hb2)
          replace R1 := Lib.hid (R1.out.keep hb2)
          replace V3 := Lib.hid (V3.out.keep hb2)
          replace G6 := Lib.hid (G6.out.keep hb2)
          replace C8 := Lib.hid (C8.out.keep hb2)
          clear hb2
          refine wpAnyH_take (i := 9) (oi := ?oz4x9) (v := ?vz4x9) ?hiz4x9 (by kernel_rfl) (by kernel_rfl) (by kernel_rfl) (fun _ _ _ h => h) ?yz4x9 (by assumption) ?rz4x9
          case hiz4x9 => (simp only [List.getElem?_toArray, List.getElem?_cons_succ, List.getElem?_cons_zero]; rfl)
          case yz4x9 => (refine Or.inl ⟨by rfl, ?_⟩; intro w' hSw; (try dsimp only at hSw); go_simp; (try with_reducible rfl))
          try simp only [Act.put, List.setIfInBounds_toArray, List.set_cons_zero, List.set_cons_succ]
          refine wpAnyH_ready (rs := [10]) (by kernel_rfl) (by simp) ?_
          refine AllReadyH.cons (o := ?oz4x10) ?hiz4x10 ?hstz4x10 AllReadyH.nil
          case hiz4x10 => (simp only [List.getElem?_toArray, List.getElem?_cons_succ, List.getElem?_cons_zero]; rfl)
          intro K hK
          have g6 := G6.out.at k (up_get (roleN x r) k hk); have f6 := G6.out.2.2 k; go_simp
          refine hK.out _ _ ⟨(by first | exact Bx.Blk.other hHeld.1 (by omega) | exact Bx.Blk.other_drew hHeld.1 (by omega)), (by first | exact Bx.cell_other (by omega) hHeld.2.1 | exact Bx.cell_other_drew (by omega) hHeld.2.1), (by first | exact Bx.cell_other (by omega) hHeld.2.2.1 | exact Bx.cell_other_drew (by omega) hHeld.2.2.1), (by first | exact Bx.cell_other (by omega) hHeld.2.2.2.1 | exact Bx.cell_other_drew (by omega) hHeld.2.2.2.1), (by first | exact Bx.cell_other (by omega) hHeld.2.2.2.2.1 | exact Bx.cell_other_drew (by omega) hHeld.2.2.2.2.1), (by first | exact Bx.cell_other (by omega) hHeld.2.2.2.2.2 | exact Bx.cell_other_drew (by omega) hHeld.2.2.2.2.2)⟩ (fun hNew => ?_)
          clear hHeld
          have hHeld := hNew
          clear hNew hK K
          replace bel := Lib.hid (Bx.bel_set (k := (k3 + 1 + 1)) (o := k) (x := .int .i64 q) (by omega) bel.out)
          replace T0 := Lib.hid (T0.out.other (k' := (k3 + 1 + 1)) (o := k) (x := .int .i64 q) (by omega))
          replace R1 := Lib.hid (R1.out.other (k' := (k3 + 1 + 1)) (o := k) (x := .int .i64 q) (by omega))
          replace V3 := Lib.hid (V3.out.other (k' := (k3 + 1 + 1)) (o := k) (x := .int .i64 q) (by omega))
          replace G6 := Lib.hid (G6.out.set k (.int .i64 q))
          replace C8 := Lib.hid (C8.out.other (k' := (k3 + 1 + 1)) (o := k) (x := .int .i64 q) (by omega))
          refine wpAnyH_done (by kernel_rfl) ?_ _
          refine NoPanic.normal ?_
          clear hHeld
          replace G6 := Lib.hid (G6.out.of (HG.out q hq2.out.symm))
          go_wp2_with fail
          go_roundg g
          case measure => omega
          case rel => exact ⟨k + 1, by omega, by go_num, T0.out, R1.out, V3.out, G6.out, bel.out⟩
      · have C8_0 := C8.out.at 0 rfl
        have g6 := G6.out.at k (up_get (roleN x r) k hk)
        have f6 := G6.out.2.2 k
        rw [hu] at C8_0
        have HX := Lib.hid (HG.out (0) (by rw [HN.out, hu, if_pos rfl]))
        replace T0 := Lib.hid (T0.out.other (k' := k3 + 1 + 1) (o := k) (x := .int .i64 (0)) (by omega))
        replace R1 := Lib.hid (R1.out.other (k' := k3 + 1 + 1) (o := k) (x := .int .i64 (0)) (by omega))
        replace V3 := Lib.hid (V3.out.other (k' := k3 + 1 + 1) (o := k) (x := .int .i64 (0)) (by omega))
        replace C8 := Lib.hid (C8.out.other (k' := k3 + 1 + 1) (o := k) (x := .int .i64 (0)) (by omega))
        replace bel := Lib.hid (Bx.bel_set (k := k3 + 1 + 1) (o := k) (x := .int .i64 (0)) (by omega) bel.out)
        replace G6 := Lib.hid ((G6.out.set k (.int .i64 (0))).of (m := (i8 (upI (roleN x r) (k + 1)))) (HX.out))
        clear hu
        go_wp2_with (first | ((with_reducible refine td_load ?_ ?_ (w.heap.size) ?_ x ?_ ?_); (· rfl); (· rfl); (· rfl); (· exact T0.out.blk)) | ((with_reducible refine cs_load ?_ ?_ (w.heap.size) ?_ x ?_ ?_); (· rfl); (· rfl); (· rfl); (· exact T0.out.blk)) | ((with_reducible refine i8_load ?_ ?_ (w.heap.size + 1) ?_ (fun _ => 0) ?_ ?_); (· rfl); (· rfl); (· rfl); (· exact R1.out.blk)) | ((with_reducible refine i8_load ?_ ?_ (k3 + 1 + 1) ?_ (upI (roleN x r) (k + 1)) ?_ ?_); (· rfl); (· rfl); (· rfl); (· exact G6.out.blk)) | ((with_reducible refine cd_load ?_ ?_ (k8) ?_ c ?_ ?_); (· rfl); (· rfl); (· rfl); (· exact C8.out.blk)))
        go_roundg g
        case measure => omega
        case rel => exact ⟨k + 1, by omega, by go_num, T0.out, R1.out, V3.out, G6.out, bel.out⟩

end Elt
end Go.Proofs.Ytlaahomkgaaciaa
