/-
  What Roles answers.
-/
import Derived.Test.YtkjdnmlaehjmgaaEltB
import Derived.Deep.CutBlock
namespace Go.Proofs.Ytkjdnmlaehjmgaa
open Go.RowKit
namespace Elt
open Pre Crd Tre

def upI (g : Nat → Int) (k : Nat) : Nat → Int := fun j => if j < k then g j else 0

theorem up_set (g : Nat → Int) (k : Nat) (hk : k < 8) (v : Int) (hv : g k = v) : (i8 (upI g k)).set k (.int .i64 v) = i8 (upI g (k + 1)) := by
  have h := i8_set (upI g k) (upI g (k + 1)) k hk (fun j _ hne => by
    unfold upI
    by_cases e : j < k
    · rw [if_pos e, if_pos (by omega)]
    · rw [if_neg e, if_neg (by omega)])
  rwa [show upI g (k + 1) k = v by unfold upI; rw [if_pos (by omega), hv]] at h

theorem up_get (g : Nat → Int) (k : Nat) (hk : k < 8) : (i8 (upI g k))[k]? = some (.int .i64 0) := by
  rw [i8_get _ k hk]
  unfold upI
  rw [if_neg (by omega)]

theorem up_all (g : Nat → Int) : i8 (upI g 8) = i8 g := i8_ext _ _ (fun j hj => by unfold upI; rw [if_pos hj])

theorem up_none (g : Nat → Int) : i8 (upI g 0) = i8 (fun _ => 0) := i8_ext _ _ (fun j _ => by unfold upI; rw [if_neg (by omega)])

set_option maxRecDepth 40000 in
set_option maxHeartbeats 8000000 in
theorem roles_any (x : Td) (w : World) : Calls Try.prog 29 #[tdv x] w fun e w' => e = .returned (i8v (roleN x (rootR x))) ∧ Below w.heap.size w w' := by
  have HR : Hid (∀ w, Calls Try.prog 30 #[tdv x] w fun e w' => e = .returned (.tuple #[vv (rootR x).v, tmv (rootR x).t, .int .i64 (rootR x).p]) ∧ Below w.heap.size w w') := Lib.hid (root_any x)
  obtain ⟨r, hr⟩ : ∃ r, r = rootR x := ⟨_, rfl⟩
  rw [← hr] at HR ⊢
  clear hr
  have T0 : Hid (Bx.Fre (w.alloc (tdo x)) w.heap.size (tdl x)) := Lib.hid (Bx.Fre.new w (tdl x) 31)
  have bel := Lib.hid (Bx.box_below w (tdo x))
  replace T0 := Lib.hid (T0.out.more (.cells #[.int .i64 0, .int .i64 0, .int .i64 0, .int .i64 0, .int .i64 0, .int .i64 0, .int .i64 0, .int .i64 0] 57))
  have R1 : Hid (Bx.Fre ((w.alloc (tdo x)).alloc (.cells #[.int .i64 0, .int .i64 0, .int .i64 0, .int .i64 0, .int .i64 0, .int .i64 0, .int .i64 0, .int .i64 0] 57)) (w.heap.size + 1) (i8 (fun _ => 0))) := Lib.hid (Bx.Fre.new_at (W := (w.alloc (tdo x))) (k := w.heap.size + 1) (i8 (fun _ => 0)) 57 (by simp))
  replace bel := Lib.hid (Bx.bel_box bel.out (.cells #[.int .i64 0, .int .i64 0, .int .i64 0, .int .i64 0, .int .i64 0, .int .i64 0, .int .i64 0, .int .i64 0] 57))
  go_enter Try.func29, Try.ntmps29
  go_wp2_with (first | ((with_reducible refine td_load ?_ ?_ (w.heap.size) ?_ x ?_ ?_); (· rfl); (· rfl); (· rfl); (· exact T0.out.blk)) | ((with_reducible refine cs_load ?_ ?_ (w.heap.size) ?_ x ?_ ?_); (· rfl); (· rfl); (· rfl); (· exact T0.out.blk)))
  refine (HR.out _).mono ?_; rintro e w1 ⟨rfl, hb⟩
  replace T0 := Lib.hid (T0.out.keep hb)
  replace R1 := Lib.hid (R1.out.keep hb)
  replace bel := Lib.hid (Bx.then_below bel.out hb)
  clear hb
  have h12 : w.heap.size + 1 < w1.heap.size := R1.out.2.1
  replace T0 := Lib.hid (T0.out.more (vo r.v))
  replace R1 := Lib.hid (R1.out.more (vo r.v))
  have V3 : Hid (Bx.Fre (w1.alloc (vo r.v)) w1.heap.size (enc r.v)) := Lib.hid (Bx.Fre.new w1 (enc r.v) 26)
  replace bel := Lib.hid (Bx.bel_box bel.out (vo r.v))
  replace T0 := Lib.hid (T0.out.more (tmo r.t))
  replace R1 := Lib.hid (R1.out.more (tmo r.t))
  replace V3 := Lib.hid (V3.out.more (tmo r.t))
  have M4 : Hid (Bx.Fre ((w1.alloc (vo r.v)).alloc (tmo r.t)) (w1.heap.size + 1) (tenc r.t)) := Lib.hid (Bx.Fre.new_at (W := (w1.alloc (vo r.v))) (k := w1.heap.size + 1) (tenc r.t) 24 (by simp))
  replace bel := Lib.hid (Bx.bel_box bel.out (tmo r.t))
  replace T0 := Lib.hid (T0.out.more (.cells #[.int .i64 0, .int .i64 0, .int .i64 0, .int .i64 0, .int .i64 0, .int .i64 0, .int .i64 0, .int .i64 0] 57))
  replace R1 := Lib.hid (R1.out.more (.cells #[.int .i64 0, .int .i64 0, .int .i64 0, .int .i64 0, .int .i64 0, .int .i64 0, .int .i64 0, .int .i64 0] 57))
  replace V3 := Lib.hid (V3.out.more (.cells #[.int .i64 0, .int .i64 0, .int .i64 0, .int .i64 0, .int .i64 0, .int .i64 0, .int .i64 0, .int .i64 0] 57))
  replace M4 := Lib.hid (M4.out.more (.cells #[.int .i64 0, .int .i64 0, .int .i64 0, .int .i64 0, .int .i64 0, .int .i64 0, .int .i64 0, .int .i64 0] 57))
  have G6 : Hid (Bx.Fre (((w1.alloc (vo r.v)).alloc (tmo r.t)).alloc (.cells #[.int .i64 0, .int .i64 0, .int .i64 0, .int .i64 0, .int .i64 0, .int .i64 0, .int .i64 0, .int .i64 0] 57)) (w1.heap.size + 1 + 1) (i8 (fun _ => 0))) := Lib.hid (Bx.Fre.new_at (W := ((w1.alloc (vo r.v)).alloc (tmo r.t))) (k := w1.heap.size + 1 + 1) (i8 (fun _ => 0)) 57 (by simp))
  replace bel := Lib.hid (Bx.bel_box bel.out (.cells #[.int .i64 0, .int .i64 0, .int .i64 0, .int .i64 0, .int .i64 0, .int .i64 0, .int .i64 0, .int .i64 0] 57))
  go_upto_region 3 with fail
  obtain ⟨k3, hk3⟩ : ∃ k, k = w1.heap.size := ⟨_, rfl⟩
  rw [← hk3] at V3 M4 G6 h12 ⊢
  generalize (((w1.alloc (vo r.v)).alloc (tmo r.t)).alloc (.cells #[.int .i64 0, .int .i64 0, .int .i64 0, .int .i64 0, .int .i64 0, .int .i64 0, .int .i64 0, .int .i64 0] 57)) = W2 at *
  clear hk3
  replace G6 := Lib.hid (G6.out.of (up_none (roleN x r)).symm)
  go_wp2_with (first | ((with_reducible refine td_load ?_ ?_ (w.heap.size) ?_ x ?_ ?_); (· rfl); (· rfl); (· rfl); (· exact T0.out.blk)) | ((with_reducible refine cs_load ?_ ?_ (w.heap.size) ?_ x ?_ ?_); (· rfl); (· rfl); (· rfl); (· exact T0.out.blk)))
  go_loopg [17] 8 (fun g s17 wr => ∃ k : Nat, k + g = 8 ∧ s17 = .int .i64 k ∧ Aside (Bx.Fre wr w.heap.size (tdl x)) ∧ Aside (Bx.Fre wr (w.heap.size + 1) (i8 (fun _ => 0))) ∧ Aside (Bx.Fre wr k3 (enc r.v)) ∧ Aside (Bx.Fre wr (k3 + 1 + 1) (i8 (upI (roleN x r) k))) ∧ Aside (Below w.heap.size w wr))
  case atStart => exact ⟨0, by omega, rfl, T0.out, R1.out, V3.out, G6.out, bel.out⟩
  case round =>
    clear T0 R1 V3 M4 G6 bel W2
    obtain ⟨k, hkg, rfl, T0, R1, V3, G6, bel⟩ := hrel
    cases gk with
    | zero =>
      have hkz : ¬ ((k : Int) < 8) := by omega
      obtain rfl : k = 8 := by omega
      replace G6 := Lib.hid (G6.out.of (up_all (roleN x r)))
      go_wp2_with (first | ((with_reducible refine i8_store ?_ ?_ (w.heap.size + 1) (roleN x r) ?_ ?_ (i8 (fun _ => 0)) ?_ ?_ ?_); (· rfl); (· rfl); (· rfl); (· rfl); (· rfl); (· exact R1.out.own)) | ((with_reducible refine i8_load ?_ ?_ (k3 + 1 + 1) ?_ (roleN x r) ?_ ?_); (· rfl); (· rfl); (· rfl); (· exact G6.out.blk)))
      replace T0 := Lib.hid (T0.out.apart_at (k' := w.heap.size + 1) (i8 (roleN x r)) 0 (by omega))
      replace V3 := Lib.hid (V3.out.apart_at (k' := w.heap.size + 1) (i8 (roleN x r)) 0 (by omega))
      replace G6 := Lib.hid (G6.out.apart_at (k' := w.heap.size + 1) (i8 (roleN x r)) 0 (by omega))
      replace bel := Lib.hid (Bx.bel_put_at (k := w.heap.size + 1) (i8 (roleN x r)) 0 (by omega) bel.out)
      replace R1 := Lib.hid (R1.out.full (m := i8 (roleN x r)) rfl)
      exact bodyPost_ret (v := i8v (roleN x r)) (row_result Try.results29 rfl (i8_var R1.out.blk)) rfl ⟨rfl, bel.out⟩
    | succ g =>
      have hkz : (k : Int) < 8 := by omega
      have hk0 : (0 : Int) ≤ k := by omega
      have hk : k < 8 := by omega
      have hix := index_at x.cs k hk
      have HG := Lib.hid (fun v hv => up_set (roleN x r) k hk v hv)
      have HN := Lib.hid (show roleN x r k = if (x.cs k).up = false then 0 else if (k : Int) = r.p then 2 else if (decide ((x.cs k).info = 2) && !ltV (desV r.v x.id k) (x.cs k).v) = true then 1 else 3 from rfl)
      obtain ⟨c, hc⟩ : ∃ c, c = x.cs k := ⟨_, rfl⟩
      rw [← hc] at hix HN
      clear hc
      have h83 : k3 + 1 + 1 < wr.heap.size := G6.out.2.1
      have h81 : w.heap.size + 1 < wr.heap.size := R1.out.2.1
      replace T0 := Lib.hid (T0.out.more (cdo c))
      replace R1 := Lib.hid (R1.out.more (cdo c))
      replace V3 := Lib.hid (V3.out.more (cdo c))
      replace G6 := Lib.hid (G6.out.more (cdo c))
      have C8 : Hid (Bx.Fre (wr.alloc (cdo c)) wr.heap.size (cdl c)) := Lib.hid (Bx.Fre.new wr (cdl c) 28)
      replace bel := Lib.hid (Bx.bel_box bel.out (cdo c))
      go_upto_region 7 with (first | ((with_reducible refine cd_fresh ?_ ?_ (wr.heap.size) c ?_ ?_ wr (cdl Cd.zero) ?_ ?_ ?_ ?_); (· rfl); (· rfl); (· rfl); (· rfl); (· rfl); (· rfl); (· first | rfl | (simp; done))))
      clear hix
      obtain ⟨k8, hk8⟩ : ∃ k, k = wr.heap.size := ⟨_, rfl⟩
      rw [← hk8] at C8 h83 h81 ⊢
      generalize wr.alloc (cdo c) = w0 at *
      clear hk8 wr
      rcases Bool.eq_false_or_eq_true c.up with hu | hu
      · by_cases hp : (k : Int) = r.p
        · have C8_0 := C8.out.at 0 rfl
          have g6 := G6.out.at k (up_get (roleN x r) k hk)
          have f6 := G6.out.2.2 k
          rw [hu] at C8_0
          have hq : ((k : Int) == r.p) = true := by simpa using hp
          have HX := Lib.hid (HG.out (2) (by rw [HN.out, hu, if_neg (by simp), if_pos hp]))
          replace T0 := Lib.hid (T0.out.other (k' := k3 + 1 + 1) (o := k) (x := .int .i64 (2)) (by omega))
          replace R1 := Lib.hid (R1.out.other (k' := k3 + 1 + 1) (o := k) (x := .int .i64 (2)) (by omega))
          replace V3 := Lib.hid (V3.out.other (k' := k3 + 1 + 1) (o := k) (x := .int .i64 (2)) (by omega))
          replace C8 := Lib.hid (C8.out.other (k' := k3 + 1 + 1) (o := k) (x := .int .i64 (2)) (by omega))
          replace bel := Lib.hid (Bx.bel_set (k := k3 + 1 + 1) (o := k) (x := .int .i64 (2)) (by omega) bel.out)
          replace G6 := Lib.hid ((G6.out.set k (.int .i64 (2))).of (m := (i8 (upI (roleN x r) (k + 1)))) (HX.out))
          clear hu hp
          go_wp2_with (first | ((with_reducible refine td_load ?_ ?_ (w.heap.size) ?_ x ?_ ?_); (· rfl); (· rfl); (· rfl); (· exact T0.out.blk)) | ((with_reducible refine cs_load ?_ ?_ (w.heap.size) ?_ x ?_ ?_); (· rfl); (· rfl); (· rfl); (· exact T0.out.blk)) | ((with_reducible refine i8_load ?_ ?_ (w.heap.size + 1) ?_ (fun _ => 0) ?_ ?_); (· rfl); (· rfl); (· rfl); (· exact R1.out.blk)) | ((with_reducible refine i8_load ?_ ?_ (k3 + 1 + 1) ?_ (upI (roleN x r) (k + 1)) ?_ ?_); (· rfl); (· rfl); (· rfl); (· exact G6.out.blk)) | ((with_reducible refine cd_load ?_ ?_ (k8) ?_ c ?_ ?_); (· rfl); (· rfl); (· rfl); (· exact C8.out.blk)))
          go_roundg g
          case measure => omega
          case rel => exact ⟨k + 1, by omega, by go_num, T0.out, R1.out, V3.out, G6.out, bel.out⟩
        · have hq : ((k : Int) == r.p) = false := by simpa using hp
          rw [hu, if_neg (by simp), if_neg hp] at HN
          have HO := Lib.hid (fun w => ownv_any r.v x.id k hk w)
          have HB := Lib.hid (fun w => better_any (desV r.v x.id k) c.v w)
          by_cases hi : c.info = 2
          · have hj : (c.info == 2) = true := by simpa using hi
            rw [decide_eq_true hi, Bool.true_and] at HN
            cases hl : ltV (desV r.v x.id k) c.v with
            | true =>
              rw [hl] at HB HN
              clear hi hl hp
              have C8_0 := C8.out.at 0 rfl
              rw [hu] at C8_0
              go_wp2_with (first | ((with_reducible refine td_load ?_ ?_ (w.heap.size) ?_ x ?_ ?_); (· rfl); (· rfl); (· rfl); (· exact T0.out.blk)) | ((with_reducible refine cs_load ?_ ?_ (w.heap.size) ?_ x ?_ ?_); (· rfl); (· rfl); (· rfl); (· exact T0.out.blk)) | ((with_reducible refine i8_load ?_ ?_ (w.heap.size + 1) ?_ (fun _ => 0) ?_ ?_); (· rfl); (· rfl); (· rfl); (· exact R1.out.blk)) | ((with_reducible refine i8_load ?_ ?_ (k3 + 1 + 1) ?_ (upI (roleN x r) k) ?_ ?_); (· rfl); (· rfl); (· rfl); (· exact G6.out.blk)) | ((with_reducible refine cd_load ?_ ?_ (k8) ?_ c ?_ ?_); (· rfl); (· rfl); (· rfl); (· exact C8.out.blk)))
              clear C8_0
              refine wp_region_noPanic ?_
              refine wp_region_held_drew (S := fun w' => w'.cell? ⟨k3, 0, none⟩ = some (.int .u64 r.v.r) ∧ w'.cell? ⟨k3, 1, none⟩ = some (.int .u64 r.v.c) ∧ w'.cell? ⟨k3, 2, none⟩ = some (.int .u64 r.v.b) ∧ w'.cell? ⟨k3, 3, none⟩ = some (.int .i64 r.v.p) ∧ w'.cell? ⟨w.heap.size, 0, none⟩ = some (.int .u64 x.id) ∧ w'.cell? ⟨k8, 4, none⟩ = some (.int .i64 c.info) ∧ w'.cell? ⟨k8, 5, none⟩ = some (.int .u64 c.v.r) ∧ w'.cell? ⟨k8, 6, none⟩ = some (.int .u64 c.v.c) ∧ w'.cell? ⟨k8, 7, none⟩ = some (.int .u64 c.v.b) ∧ w'.cell? ⟨k8, 8, none⟩ = some (.int .i64 c.v.p)) (by kernel_rfl) (by exact ⟨V3.out.at 0 rfl, V3.out.at 1 rfl, V3.out.at 2 rfl, V3.out.at 3 rfl, T0.out.at 0 (v := .int .u64 x.id) rfl, C8.out.at 4 rfl, C8.out.at 5 rfl, C8.out.at 6 rfl, C8.out.at 7 rfl, C8.out.at 8 rfl⟩) (fun hHeld => ?_)
              replace bel := Lib.hid (Bx.bel_drewn bel.out)
              replace T0 := Lib.hid (T0.out.drew)
              replace R1 := Lib.hid (R1.out.drew)
              replace V3 := Lib.hid (V3.out.drew)
              replace G6 := Lib.hid (G6.out.drew)
              replace C8 := Lib.hid (C8.out.drew)
              refine wpAnyH_take (i := 0) (oi := ?oz1x0) (v := ?vz1x0) ?hiz1x0 (by kernel_rfl) (by kernel_rfl) (by kernel_rfl) (fun _ _ _ h => h) ?yz1x0 (by assumption) ?rz1x0
              case hiz1x0 => (simp only [List.getElem?_toArray, List.getElem?_cons_zero]; rfl)
              case yz1x0 => (refine Or.inl ⟨by rfl, ?_⟩; intro w' hSw; (try dsimp only at hSw); go_simp; (try with_reducible rfl))
              try simp only [Act.put, List.setIfInBounds_toArray, List.set_cons_zero, List.set_cons_succ]
              refine wpAnyH_take (i := 1) (oi := ?oz1x1) (v := ?vz1x1) ?hiz1x1 (by kernel_rfl) (by kernel_rfl) (by kernel_rfl) (fun _ _ _ h => h) ?yz1x1 (by assumption) ?rz1x1
              case hiz1x1 => (simp only [List.getElem?_toArray, List.getElem?_cons_succ, List.getElem?_cons_zero]; rfl)
              case yz1x1 => (refine Or.inl ⟨by rfl, ?_⟩; intro w' hSw; (try dsimp only at hSw); go_simp; (try with_reducible rfl))
              try simp only [Act.put, List.setIfInBounds_toArray, List.set_cons_zero, List.set_cons_succ]
              refine wpAnyH_take (i := 2) (oi := ?oz1x2) (v := ?vz1x2) ?hiz1x2 (by kernel_rfl) (by kernel_rfl) (by kernel_rfl) (fun _ _ _ h => h) ?yz1x2 (by assumption) ?rz1x2
              case hiz1x2 => (simp only [List.getElem?_toArray, List.getElem?_cons_succ, List.getElem?_cons_zero]; rfl)
              case yz1x2 => (refine Or.inl ⟨by rfl, ?_⟩; intro w' hSw; (try dsimp only at hSw); go_simp; (try with_reducible rfl))
              try simp only [Act.put, List.setIfInBounds_toArray, List.set_cons_zero, List.set_cons_succ]
              refine wpAnyH_take (i := 3) (oi := ?oz1x3) (v := ?vz1x3) ?hiz1x3 (by kernel_rfl) (by kernel_rfl) (by kernel_rfl) (fun _ _ _ h => h) ?yz1x3 (by assumption) ?rz1x3
              case hiz1x3 => (simp only [List.getElem?_toArray, List.getElem?_cons_succ, List.getElem?_cons_zero]; rfl)
              case yz1x3 => (refine Or.inl ⟨by rfl, ?_⟩; intro w' hSw; (try dsimp only at hSw); go_simp; (try with_reducible rfl))
              try simp only [Act.put, List.setIfInBounds_toArray, List.set_cons_zero, List.set_cons_succ]
              refine wpAnyH_take (i := 4) (oi := ?oz1x4) (v := ?vz1x4) ?hiz1x4 (by kernel_rfl) (by kernel_rfl) (by kernel_rfl) (fun _ _ _ h => h) ?yz1x4 (by assumption) ?rz1x4
              case hiz1x4 => (simp only [List.getElem?_toArray, List.getElem?_cons_succ, List.getElem?_cons_zero]; rfl)
              case yz1x4 => (refine Or.inl ⟨by rfl, ?_⟩; intro w' hSw; (try dsimp only at hSw); go_simp; (try with_reducible rfl))
              try simp only [Act.put, List.setIfInBounds_toArray, List.set_cons_zero, List.set_cons_succ]
              refine wpAnyH_take (i := 5) (oi := ?oz1x5) (v := ?vz1x5) ?hiz1x5 (by kernel_rfl) (by kernel_rfl) (by kernel_rfl) (fun _ _ _ h => h) ?yz1x5 (by assumption) ?rz1x5
              case hiz1x5 => (simp only [List.getElem?_toArray, List.getElem?_cons_succ, List.getElem?_cons_zero]; rfl)
              case yz1x5 => (refine Or.inl ⟨by rfl, ?_⟩; intro w' hSw; (try dsimp only at hSw); go_simp; (try with_reducible rfl))
              try simp only [Act.put, List.setIfInBounds_toArray, List.set_cons_zero, List.set_cons_succ]
              refine wpAnyH_take (i := 6) (oi := ?oz1x6) (v := ?vz1x6) ?hiz1x6 (by kernel_rfl) (by kernel_rfl) (by kernel_rfl) (fun _ _ _ h => h) ?yz1x6 (by assumption) ?rz1x6
              case hiz1x6 => (simp only [List.getElem?_toArray, List.getElem?_cons_succ, List.getElem?_cons_zero]; rfl)
              case yz1x6 => (refine Or.inl ⟨by rfl, ?_⟩; intro w' hSw; (try dsimp only at hSw); go_simp; (try with_reducible rfl))
              try simp only [Act.put, List.setIfInBounds_toArray, List.set_cons_zero, List.set_cons_succ]
              refine wpAnyH_take (i := 7) (oi := ?oz1x7) (v := ?vz1x7) ?hiz1x7 (by kernel_rfl) (by kernel_rfl) (by kernel_rfl) (fun _ _ _ h => h) ?yz1x7 (by assumption) ?rz1x7
              case hiz1x7 => (simp only [List.getElem?_toArray, List.getElem?_cons_succ, List.getElem?_cons_zero]; rfl)
              case yz1x7 => (refine Or.inl ⟨by rfl, ?_⟩; intro w' hSw; (try dsimp only at hSw); go_simp; (try with_reducible rfl))
              try simp only [Act.put, List.setIfInBounds_toArray, List.set_cons_zero, List.set_cons_succ]
              refine wpAnyH_take (i := 9) (oi := ?oz1x9) (v := ?vz1x9) ?hiz1x9 (by kernel_rfl) (by kernel_rfl) (by kernel_rfl) (fun _ _ _ h => h) ?yz1x9 (by assumption) ?rz1x9
              case hiz1x9 => (simp only [List.getElem?_toArray, List.getElem?_cons_succ, List.getElem?_cons_zero]; rfl)
              case yz1x9 => (refine Or.inl ⟨by rfl, ?_⟩; intro w' hSw; (try dsimp only at hSw); go_simp; (try with_reducible rfl))
              try simp only [Act.put, List.setIfInBounds_toArray, List.set_cons_zero, List.set_cons_succ]
              refine wpAnyH_take (i := 10) (oi := ?oz1x10) (v := ?vz1x10) ?hiz1x10 (by kernel_rfl) (by kernel_rfl) (by kernel_rfl) (fun _ _ _ h => h) ?yz1x10 (by assumption) ?rz1x10
              case hiz1x10 => (simp only [List.getElem?_toArray, List.getElem?_cons_succ, List.getElem?_cons_zero]; rfl)
              case yz1x10 => (refine Or.inl ⟨by rfl, ?_⟩; intro w' hSw; (try dsimp only at hSw); go_simp; (try with_reducible rfl))
              try simp only [Act.put, List.setIfInBounds_toArray, List.set_cons_zero, List.set_cons_succ]
              refine wpAnyH_ready (rs := [8]) (by kernel_rfl) (by simp) ?_
              refine AllReadyH.cons (o := ?oz1x8) ?hiz1x8 ?hstz1x8 AllReadyH.nil
              case hiz1x8 => (simp only [List.getElem?_toArray, List.getElem?_cons_succ, List.getElem?_cons_zero]; rfl)
              intro K hK
              go_simp
              (go_at_call 32; (with_reducible refine (HO.out _).mono ?_); rintro e w1 ⟨rfl, hb1⟩)
              go_wp2_with fail
              refine hK.out _ _ ⟨Bx.keep_cell hb1 hHeld.1, Bx.keep_cell hb1 hHeld.2.1, Bx.keep_cell hb1 hHeld.2.2.1, Bx.keep_cell hb1 hHeld.2.2.2.1, Bx.keep_cell hb1 hHeld.2.2.2.2.1, Bx.keep_cell hb1 hHeld.2.2.2.2.2.1, Bx.keep_cell hb1 hHeld.2.2.2.2.2.2.1, Bx.keep_cell hb1 hHeld.2.2.2.2.2.2.2.1, Bx.keep_cell hb1 hHeld.2.2.2.2.2.2.2.2.1, Bx.keep_cell hb1 hHeld.2.2.2.2.2.2.2.2.2⟩ (fun hNew => ?_)
              clear hHeld
              have hHeld := hNew
              clear hNew hK K
              replace bel := Lib.hid (Bx.then_below bel.out hb1)
              replace T0 := Lib.hid (T0.out.keep hb1)
              replace R1 := Lib.hid (R1.out.keep hb1)
              replace V3 := Lib.hid (V3.out.keep hb1)
              replace G6 := Lib.hid (G6.out.keep hb1)
              replace C8 := Lib.hid (C8.out.keep hb1)
              clear hb1
              refine wpAnyH_ready (rs := [11]) (by kernel_rfl) (by simp) ?_
              refine AllReadyH.cons (o := ?oz1x11) ?hiz1x11 ?hstz1x11 AllReadyH.nil
              case hiz1x11 => (simp only [List.getElem?_toArray, List.getElem?_cons_succ, List.getElem?_cons_zero]; rfl)
              intro K hK
              go_simp
              (go_at_call 33; (with_reducible refine (HB.out _).mono ?_); rintro e w2 ⟨rfl, hb2⟩)
              go_wp2_with fail
              refine hK.out _ _ ⟨Bx.keep_cell hb2 hHeld.1, Bx.keep_cell hb2 hHeld.2.1, Bx.keep_cell hb2 hHeld.2.2.1, Bx.keep_cell hb2 hHeld.2.2.2.1, Bx.keep_cell hb2 hHeld.2.2.2.2.1, Bx.keep_cell hb2 hHeld.2.2.2.2.2.1, Bx.keep_cell hb2 hHeld.2.2.2.2.2.2.1, Bx.keep_cell hb2 hHeld.2.2.2.2.2.2.2.1, Bx.keep_cell hb2 hHeld.2.2.2.2.2.2.2.2.1, Bx.keep_cell hb2 hHeld.2.2.2.2.2.2.2.2.2⟩ (fun hNew => ?_)
              clear hHeld
              have hHeld := hNew
              clear hNew hK K
              replace bel := Lib.hid (Bx.then_below bel.out hb2)
              replace T0 := Lib.hid (T0.out.keep hb2)
              replace R1 := Lib.hid (R1.out.keep hb2)
              replace V3 := Lib.hid (V3.out.keep hb2)
              replace G6 := Lib.hid (G6.out.keep hb2)
              replace C8 := Lib.hid (C8.out.keep hb2)
              clear hb2
              refine wpAnyH_take (i := 12) (oi := ?oz1x12) (v := ?vz1x12) ?hiz1x12 (by kernel_rfl) (by kernel_rfl) (by kernel_rfl) (fun _ _ _ h => h) ?yz1x12 (by assumption) ?rz1x12
              case hiz1x12 => (simp only [List.getElem?_toArray, List.getElem?_cons_succ, List.getElem?_cons_zero]; rfl)
              case yz1x12 => (refine Or.inl ⟨by rfl, ?_⟩; intro w' hSw; (try dsimp only at hSw); go_simp; (try with_reducible rfl))
              try simp only [Act.put, List.setIfInBounds_toArray, List.set_cons_zero, List.set_cons_succ]
              refine wpAnyH_take (i := 13) (oi := ?oz1x13) (v := ?vz1x13) ?hiz1x13 (by kernel_rfl) (by kernel_rfl) (by kernel_rfl) (fun _ _ _ h => h) ?yz1x13 (by assumption) ?rz1x13
              case hiz1x13 => (simp only [List.getElem?_toArray, List.getElem?_cons_succ, List.getElem?_cons_zero]; rfl)
              case yz1x13 => (refine Or.inl ⟨by rfl, ?_⟩; intro w' hSw; (try dsimp only at hSw); go_simp; (try with_reducible rfl))
              try simp only [Act.put, List.setIfInBounds_toArray, List.set_cons_zero, List.set_cons_succ]
              refine wpAnyH_take (i := 14) (oi := ?oz1x14) (v := ?vz1x14) ?hiz1x14 (by kernel_rfl) (by kernel_rfl) (by kernel_rfl) (fun _ _ _ h => h) ?yz1x14 (by assumption) ?rz1x14
              case hiz1x14 => (simp only [List.getElem?_toArray, List.getElem?_cons_succ, List.getElem?_cons_zero]; rfl)
              case yz1x14 => (refine Or.inl ⟨by rfl, ?_⟩; intro w' hSw; (try dsimp only at hSw); go_simp; (try with_reducible rfl))
              try simp only [Act.put, List.setIfInBounds_toArray, List.set_cons_zero, List.set_cons_succ]
              refine wpAnyH_done (by kernel_rfl) ?_ _
              refine NoPanic.normal ?_
              clear hHeld
              have g6 := G6.out.at k (up_get (roleN x r) k hk)
              have f6 := G6.out.2.2 k
              have HX := Lib.hid (HG.out (3) (by rw [HN.out]; rfl))
              replace T0 := Lib.hid (T0.out.other (k' := k3 + 1 + 1) (o := k) (x := .int .i64 (3)) (by omega))
              replace R1 := Lib.hid (R1.out.other (k' := k3 + 1 + 1) (o := k) (x := .int .i64 (3)) (by omega))
              replace V3 := Lib.hid (V3.out.other (k' := k3 + 1 + 1) (o := k) (x := .int .i64 (3)) (by omega))
              replace C8 := Lib.hid (C8.out.other (k' := k3 + 1 + 1) (o := k) (x := .int .i64 (3)) (by omega))
              replace bel := Lib.hid (Bx.bel_set (k := k3 + 1 + 1) (o := k) (x := .int .i64 (3)) (by omega) bel.out)
              replace G6 := Lib.hid ((G6.out.set k (.int .i64 (3))).of (m := (i8 (upI (roleN x r) (k + 1)))) (HX.out))
              go_wp2_with (first | ((with_reducible refine td_load ?_ ?_ (w.heap.size) ?_ x ?_ ?_); (· rfl); (· rfl); (· rfl); (· exact T0.out.blk)) | ((with_reducible refine cs_load ?_ ?_ (w.heap.size) ?_ x ?_ ?_); (· rfl); (· rfl); (· rfl); (· exact T0.out.blk)) | ((with_reducible refine i8_load ?_ ?_ (w.heap.size + 1) ?_ (fun _ => 0) ?_ ?_); (· rfl); (· rfl); (· rfl); (· exact R1.out.blk)) | ((with_reducible refine i8_load ?_ ?_ (k3 + 1 + 1) ?_ (upI (roleN x r) (k + 1)) ?_ ?_); (· rfl); (· rfl); (· rfl); (· exact G6.out.blk)) | ((with_reducible refine cd_load ?_ ?_ (k8) ?_ c ?_ ?_); (· rfl); (· rfl); (· rfl); (· exact C8.out.blk)))
              go_roundg g
              case measure => omega
              case rel => exact ⟨k + 1, by omega, by go_num, T0.out, R1.out, V3.out, G6.out, bel.out⟩
            | false =>
              rw [hl] at HB HN
              clear hi hl hp
              have C8_0 := C8.out.at 0 rfl
              rw [hu] at C8_0
              go_wp2_with (first | ((with_reducible refine td_load ?_ ?_ (w.heap.size) ?_ x ?_ ?_); (· rfl); (· rfl); (· rfl); (· exact T0.out.blk)) | ((with_reducible refine cs_load ?_ ?_ (w.heap.size) ?_ x ?_ ?_); (· rfl); (· rfl); (· rfl); (· exact T0.out.blk)) | ((with_reducible refine i8_load ?_ ?_ (w.heap.size + 1) ?_ (fun _ => 0) ?_ ?_); (· rfl); (· rfl); (· rfl); (· exact R1.out.blk)) | ((with_reducible refine i8_load ?_ ?_ (k3 + 1 + 1) ?_ (upI (roleN x r) k) ?_ ?_); (· rfl); (· rfl); (· rfl); (· exact G6.out.blk)) | ((with_reducible refine cd_load ?_ ?_ (k8) ?_ c ?_ ?_); (· rfl); (· rfl); (· rfl); (· exact C8.out.blk)))
              clear C8_0
              refine wp_region_noPanic ?_
              refine wp_region_held_drew (S := fun w' => w'.cell? ⟨k3, 0, none⟩ = some (.int .u64 r.v.r) ∧ w'.cell? ⟨k3, 1, none⟩ = some (.int .u64 r.v.c) ∧ w'.cell? ⟨k3, 2, none⟩ = some (.int .u64 r.v.b) ∧ w'.cell? ⟨k3, 3, none⟩ = some (.int .i64 r.v.p) ∧ w'.cell? ⟨w.heap.size, 0, none⟩ = some (.int .u64 x.id) ∧ w'.cell? ⟨k8, 4, none⟩ = some (.int .i64 c.info) ∧ w'.cell? ⟨k8, 5, none⟩ = some (.int .u64 c.v.r) ∧ w'.cell? ⟨k8, 6, none⟩ = some (.int .u64 c.v.c) ∧ w'.cell? ⟨k8, 7, none⟩ = some (.int .u64 c.v.b) ∧ w'.cell? ⟨k8, 8, none⟩ = some (.int .i64 c.v.p)) (by kernel_rfl) (by exact ⟨V3.out.at 0 rfl, V3.out.at 1 rfl, V3.out.at 2 rfl, V3.out.at 3 rfl, T0.out.at 0 (v := .int .u64 x.id) rfl, C8.out.at 4 rfl, C8.out.at 5 rfl, C8.out.at 6 rfl, C8.out.at 7 rfl, C8.out.at 8 rfl⟩) (fun hHeld => ?_)
              replace bel := Lib.hid (Bx.bel_drewn bel.out)
              replace T0 := Lib.hid (T0.out.drew)
              replace R1 := Lib.hid (R1.out.drew)
              replace V3 := Lib.hid (V3.out.drew)
              replace G6 := Lib.hid (G6.out.drew)
              replace C8 := Lib.hid (C8.out.drew)
              refine wpAnyH_take (i := 0) (oi := ?oz2x0) (v := ?vz2x0) ?hiz2x0 (by kernel_rfl) (by kernel_rfl) (by kernel_rfl) (fun _ _ _ h => h) ?yz2x0 (by assumption) ?rz2x0
              case hiz2x0 => (simp only [List.getElem?_toArray, List.getElem?_cons_zero]; rfl)
              case yz2x0 => (refine Or.inl ⟨by rfl, ?_⟩; intro w' hSw; (try dsimp only at hSw); go_simp; (try with_reducible rfl))
              try simp only [Act.put, List.setIfInBounds_toArray, List.set_cons_zero, List.set_cons_succ]
              refine wpAnyH_take (i := 1) (oi := ?oz2x1) (v := ?vz2x1) ?hiz2x1 (by kernel_rfl) (by kernel_rfl) (by kernel_rfl) (fun _ _ _ h => h) ?yz2x1 (by assumption) ?rz2x1
              case hiz2x1 => (simp only [List.getElem?_toArray, List.getElem?_cons_succ, List.getElem?_cons_zero]; rfl)
              case yz2x1 => (refine Or.inl ⟨by rfl, ?_⟩; intro w' hSw; (try dsimp only at hSw); go_simp; (try with_reducible rfl))
              try simp only [Act.put, List.setIfInBounds_toArray, List.set_cons_zero, List.set_cons_succ]
              refine wpAnyH_take (i := 2) (oi := ?oz2x2) (v := ?vz2x2) ?hiz2x2 (by kernel_rfl) (by kernel_rfl) (by kernel_rfl) (fun _ _ _ h => h) ?yz2x2 (by assumption) ?rz2x2
              case hiz2x2 => (simp only [List.getElem?_toArray, List.getElem?_cons_succ, List.getElem?_cons_zero]; rfl)
              case yz2x2 => (refine Or.inl ⟨by rfl, ?_⟩; intro w' hSw; (try dsimp only at hSw); go_simp; (try with_reducible rfl))
              try simp only [Act.put, List.setIfInBounds_toArray, List.set_cons_zero, List.set_cons_succ]
              refine wpAnyH_take (i := 3) (oi := ?oz2x3) (v := ?vz2x3) ?hiz2x3 (by kernel_rfl) (by kernel_rfl) (by kernel_rfl) (fun _ _ _ h => h) ?yz2x3 (by assumption) ?rz2x3
              case hiz2x3 => (simp only [List.getElem?_toArray, List.getElem?_cons_succ, List.getElem?_cons_zero]; rfl)
              case yz2x3 => (refine Or.inl ⟨by rfl, ?_⟩; intro w' hSw; (try dsimp only at hSw); go_simp; (try with_reducible rfl))
              try simp only [Act.put, List.setIfInBounds_toArray, List.set_cons_zero, List.set_cons_succ]
              refine wpAnyH_take (i := 4) (oi := ?oz2x4) (v := ?vz2x4) ?hiz2x4 (by kernel_rfl) (by kernel_rfl) (by kernel_rfl) (fun _ _ _ h => h) ?yz2x4 (by assumption) ?rz2x4
              case hiz2x4 => (simp only [List.getElem?_toArray, List.getElem?_cons_succ, List.getElem?_cons_zero]; rfl)
              case yz2x4 => (refine Or.inl ⟨by rfl, ?_⟩; intro w' hSw; (try dsimp only at hSw); go_simp; (try with_reducible rfl))
              try simp only [Act.put, List.setIfInBounds_toArray, List.set_cons_zero, List.set_cons_succ]
              refine wpAnyH_take (i := 5) (oi := ?oz2x5) (v := ?vz2x5) ?hiz2x5 (by kernel_rfl) (by kernel_rfl) (by kernel_rfl) (fun _ _ _ h => h) ?yz2x5 (by assumption) ?rz2x5
              case hiz2x5 => (simp only [List.getElem?_toArray, List.getElem?_cons_succ, List.getElem?_cons_zero]; rfl)
              case yz2x5 => (refine Or.inl ⟨by rfl, ?_⟩; intro w' hSw; (try dsimp only at hSw); go_simp; (try with_reducible rfl))
              try simp only [Act.put, List.setIfInBounds_toArray, List.set_cons_zero, List.set_cons_succ]
              refine wpAnyH_take (i := 6) (oi := ?oz2x6) (v := ?vz2x6) ?hiz2x6 (by kernel_rfl) (by kernel_rfl) (by kernel_rfl) (fun _ _ _ h => h) ?yz2x6 (by assumption) ?rz2x6
              case hiz2x6 => (simp only [List.getElem?_toArray, List.getElem?_cons_succ, List.getElem?_cons_zero]; rfl)
              case yz2x6 => (refine Or.inl ⟨by rfl, ?_⟩; intro w' hSw; (try dsimp only at hSw); go_simp; (try with_reducible rfl))
              try simp only [Act.put, List.setIfInBounds_toArray, List.set_cons_zero, List.set_cons_succ]
              refine wpAnyH_take (i := 7) (oi := ?oz2x7) (v := ?vz2x7) ?hiz2x7 (by kernel_rfl) (by kernel_rfl) (by kernel_rfl) (fun _ _ _ h => h) ?yz2x7 (by assumption) ?rz2x7
              case hiz2x7 => (simp only [List.getElem?_toArray, List.getElem?_cons_succ, List.getElem?_cons_zero]; rfl)
              case yz2x7 => (refine Or.inl ⟨by rfl, ?_⟩; intro w' hSw; (try dsimp only at hSw); go_simp; (try with_reducible rfl))
              try simp only [Act.put, List.setIfInBounds_toArray, List.set_cons_zero, List.set_cons_succ]
              refine wpAnyH_take (i := 9) (oi := ?oz2x9) (v := ?vz2x9) ?hiz2x9 (by kernel_rfl) (by kernel_rfl) (by kernel_rfl) (fun _ _ _ h => h) ?yz2x9 (by assumption) ?rz2x9
              case hiz2x9 => (simp only [List.getElem?_toArray, List.getElem?_cons_succ, List.getElem?_cons_zero]; rfl)
              case yz2x9 => (refine Or.inl ⟨by rfl, ?_⟩; intro w' hSw; (try dsimp only at hSw); go_simp; (try with_reducible rfl))
              try simp only [Act.put, List.setIfInBounds_toArray, List.set_cons_zero, List.set_cons_succ]
              refine wpAnyH_take (i := 10) (oi := ?oz2x10) (v := ?vz2x10) ?hiz2x10 (by kernel_rfl) (by kernel_rfl) (by kernel_rfl) (fun _ _ _ h => h) ?yz2x10 (by assumption) ?rz2x10
              case hiz2x10 => (simp only [List.getElem?_toArray, List.getElem?_cons_succ, List.getElem?_cons_zero]; rfl)
              case yz2x10 => (refine Or.inl ⟨by rfl, ?_⟩; intro w' hSw; (try dsimp only at hSw); go_simp; (try with_reducible rfl))
              try simp only [Act.put, List.setIfInBounds_toArray, List.set_cons_zero, List.set_cons_succ]
              refine wpAnyH_ready (rs := [8]) (by kernel_rfl) (by simp) ?_
              refine AllReadyH.cons (o := ?oz2x8) ?hiz2x8 ?hstz2x8 AllReadyH.nil
              case hiz2x8 => (simp only [List.getElem?_toArray, List.getElem?_cons_succ, List.getElem?_cons_zero]; rfl)
              intro K hK
              go_simp
              (go_at_call 32; (with_reducible refine (HO.out _).mono ?_); rintro e w1 ⟨rfl, hb1⟩)
              go_wp2_with fail
              refine hK.out _ _ ⟨Bx.keep_cell hb1 hHeld.1, Bx.keep_cell hb1 hHeld.2.1, Bx.keep_cell hb1 hHeld.2.2.1, Bx.keep_cell hb1 hHeld.2.2.2.1, Bx.keep_cell hb1 hHeld.2.2.2.2.1, Bx.keep_cell hb1 hHeld.2.2.2.2.2.1, Bx.keep_cell hb1 hHeld.2.2.2.2.2.2.1, Bx.keep_cell hb1 hHeld.2.2.2.2.2.2.2.1, Bx.keep_cell hb1 hHeld.2.2.2.2.2.2.2.2.1, Bx.keep_cell hb1 hHeld.2.2.2.2.2.2.2.2.2⟩ (fun hNew => ?_)
              clear hHeld
              have hHeld := hNew
              clear hNew hK K
              replace bel := Lib.hid (Bx.then_below bel.out hb1)
              replace T0 := Lib.hid (T0.out.keep hb1)
              replace R1 := Lib.hid (R1.out.keep hb1)
              replace V3 := Lib.hid (V3.out.keep hb1)
              replace G6 := Lib.hid (G6.out.keep hb1)
              replace C8 := Lib.hid (C8.out.keep hb1)
              clear hb1
              refine wpAnyH_ready (rs := [11]) (by kernel_rfl) (by simp) ?_
              refine AllReadyH.cons (o := ?oz2x11) ?hiz2x11 ?hstz2x11 AllReadyH.nil
              case hiz2x11 => (simp only [List.getElem?_toArray, List.getElem?_cons_succ, List.getElem?_cons_zero]; rfl)
              intro K hK
              go_simp
              (go_at_call 33; (with_reducible refine (HB.out _).mono ?_); rintro e w2 ⟨rfl, hb2⟩)
              go_wp2_with fail
              refine hK.out _ _ ⟨Bx.keep_cell hb2 hHeld.1, Bx.keep_cell hb2 hHeld.2.1, Bx.keep_cell hb2 hHeld.2.2.1, Bx.keep_cell hb2 hHeld.2.2.2.1, Bx.keep_cell hb2 hHeld.2.2.2.2.1, Bx.keep_cell hb2 hHeld.2.2.2.2.2.1, Bx.keep_cell hb2 hHeld.2.2.2.2.2.2.1, Bx.keep_cell hb2 hHeld.2.2.2.2.2.2.2.1, Bx.keep_cell hb2 hHeld.2.2.2.2.2.2.2.2.1, Bx.keep_cell hb2 hHeld.2.2.2.2.2.2.2.2.2⟩ (fun hNew => ?_)
              clear hHeld
              have hHeld := hNew
              clear hNew hK K
              replace bel := Lib.hid (Bx.then_below bel.out hb2)
              replace T0 := Lib.hid (T0.out.keep hb2)
              replace R1 := Lib.hid (R1.out.keep hb2)
              replace V3 := Lib.hid (V3.out.keep hb2)
              replace G6 := Lib.hid (G6.out.keep hb2)
              replace C8 := Lib.hid (C8.out.keep hb2)
              clear hb2
              refine wpAnyH_take (i := 12) (oi := ?oz2x12) (v := ?vz2x12) ?hiz2x12 (by kernel_rfl) (by kernel_rfl) (by kernel_rfl) (fun _ _ _ h => h) ?yz2x12 (by assumption) ?rz2x12
              case hiz2x12 => (simp only [List.getElem?_toArray, List.getElem?_cons_succ, List.getElem?_cons_zero]; rfl)
              case yz2x12 => (refine Or.inl ⟨by rfl, ?_⟩; intro w' hSw; (try dsimp only at hSw); go_simp; (try with_reducible rfl))
              try simp only [Act.put, List.setIfInBounds_toArray, List.set_cons_zero, List.set_cons_succ]
              refine wpAnyH_take (i := 13) (oi := ?oz2x13) (v := ?vz2x13) ?hiz2x13 (by kernel_rfl) (by kernel_rfl) (by kernel_rfl) (fun _ _ _ h => h) ?yz2x13 (by assumption) ?rz2x13
              case hiz2x13 => (simp only [List.getElem?_toArray, List.getElem?_cons_succ, List.getElem?_cons_zero]; rfl)
              case yz2x13 => (refine Or.inl ⟨by rfl, ?_⟩; intro w' hSw; (try dsimp only at hSw); go_simp; (try with_reducible rfl))
              try simp only [Act.put, List.setIfInBounds_toArray, List.set_cons_zero, List.set_cons_succ]
              refine wpAnyH_take (i := 14) (oi := ?oz2x14) (v := ?vz2x14) ?hiz2x14 (by kernel_rfl) (by kernel_rfl) (by kernel_rfl) (fun _ _ _ h => h) ?yz2x14 (by assumption) ?rz2x14
              case hiz2x14 => (simp only [List.getElem?_toArray, List.getElem?_cons_succ, List.getElem?_cons_zero]; rfl)
              case yz2x14 => (refine Or.inl ⟨by rfl, ?_⟩; intro w' hSw; (try dsimp only at hSw); go_simp; (try with_reducible rfl))
              try simp only [Act.put, List.setIfInBounds_toArray, List.set_cons_zero, List.set_cons_succ]
              refine wpAnyH_done (by kernel_rfl) ?_ _
              refine NoPanic.normal ?_
              clear hHeld
              have g6 := G6.out.at k (up_get (roleN x r) k hk)
              have f6 := G6.out.2.2 k
              have HX := Lib.hid (HG.out (1) (by rw [HN.out]; rfl))
              replace T0 := Lib.hid (T0.out.other (k' := k3 + 1 + 1) (o := k) (x := .int .i64 (1)) (by omega))
              replace R1 := Lib.hid (R1.out.other (k' := k3 + 1 + 1) (o := k) (x := .int .i64 (1)) (by omega))
              replace V3 := Lib.hid (V3.out.other (k' := k3 + 1 + 1) (o := k) (x := .int .i64 (1)) (by omega))
              replace C8 := Lib.hid (C8.out.other (k' := k3 + 1 + 1) (o := k) (x := .int .i64 (1)) (by omega))
              replace bel := Lib.hid (Bx.bel_set (k := k3 + 1 + 1) (o := k) (x := .int .i64 (1)) (by omega) bel.out)
              replace G6 := Lib.hid ((G6.out.set k (.int .i64 (1))).of (m := (i8 (upI (roleN x r) (k + 1)))) (HX.out))
              go_wp2_with (first | ((with_reducible refine td_load ?_ ?_ (w.heap.size) ?_ x ?_ ?_); (· rfl); (· rfl); (· rfl); (· exact T0.out.blk)) | ((with_reducible refine cs_load ?_ ?_ (w.heap.size) ?_ x ?_ ?_); (· rfl); (· rfl); (· rfl); (· exact T0.out.blk)) | ((with_reducible refine i8_load ?_ ?_ (w.heap.size + 1) ?_ (fun _ => 0) ?_ ?_); (· rfl); (· rfl); (· rfl); (· exact R1.out.blk)) | ((with_reducible refine i8_load ?_ ?_ (k3 + 1 + 1) ?_ (upI (roleN x r) (k + 1)) ?_ ?_); (· rfl); (· rfl); (· rfl); (· exact G6.out.blk)) | ((with_reducible refine cd_load ?_ ?_ (k8) ?_ c ?_ ?_); (· rfl); (· rfl); (· rfl); (· exact C8.out.blk)))
              go_roundg g
              case measure => omega
              case rel => exact ⟨k + 1, by omega, by go_num, T0.out, R1.out, V3.out, G6.out, bel.out⟩
          · have hj : (c.info == 2) = false := by simpa using hi
            rw [decide_eq_false hi, Bool.false_and] at HN
            clear hi hp
            have C8_0 := C8.out.at 0 rfl
            rw [hu] at C8_0
            go_wp2_with (first | ((with_reducible refine td_load ?_ ?_ (w.heap.size) ?_ x ?_ ?_); (· rfl); (· rfl); (· rfl); (· exact T0.out.blk)) | ((with_reducible refine cs_load ?_ ?_ (w.heap.size) ?_ x ?_ ?_); (· rfl); (· rfl); (· rfl); (· exact T0.out.blk)) | ((with_reducible refine i8_load ?_ ?_ (w.heap.size + 1) ?_ (fun _ => 0) ?_ ?_); (· rfl); (· rfl); (· rfl); (· exact R1.out.blk)) | ((with_reducible refine i8_load ?_ ?_ (k3 + 1 + 1) ?_ (upI (roleN x r) k) ?_ ?_); (· rfl); (· rfl); (· rfl); (· exact G6.out.blk)) | ((with_reducible refine cd_load ?_ ?_ (k8) ?_ c ?_ ?_); (· rfl); (· rfl); (· rfl); (· exact C8.out.blk)))
            clear C8_0
            refine wp_region_noPanic ?_
            refine wp_region_held_drew (S := fun w' => w'.cell? ⟨k3, 0, none⟩ = some (.int .u64 r.v.r) ∧ w'.cell? ⟨k3, 1, none⟩ = some (.int .u64 r.v.c) ∧ w'.cell? ⟨k3, 2, none⟩ = some (.int .u64 r.v.b) ∧ w'.cell? ⟨k3, 3, none⟩ = some (.int .i64 r.v.p) ∧ w'.cell? ⟨w.heap.size, 0, none⟩ = some (.int .u64 x.id) ∧ w'.cell? ⟨k8, 4, none⟩ = some (.int .i64 c.info) ∧ w'.cell? ⟨k8, 5, none⟩ = some (.int .u64 c.v.r) ∧ w'.cell? ⟨k8, 6, none⟩ = some (.int .u64 c.v.c) ∧ w'.cell? ⟨k8, 7, none⟩ = some (.int .u64 c.v.b) ∧ w'.cell? ⟨k8, 8, none⟩ = some (.int .i64 c.v.p)) (by kernel_rfl) (by exact ⟨V3.out.at 0 rfl, V3.out.at 1 rfl, V3.out.at 2 rfl, V3.out.at 3 rfl, T0.out.at 0 (v := .int .u64 x.id) rfl, C8.out.at 4 rfl, C8.out.at 5 rfl, C8.out.at 6 rfl, C8.out.at 7 rfl, C8.out.at 8 rfl⟩) (fun hHeld => ?_)
            replace bel := Lib.hid (Bx.bel_drewn bel.out)
            replace T0 := Lib.hid (T0.out.drew)
            replace R1 := Lib.hid (R1.out.drew)
            replace V3 := Lib.hid (V3.out.drew)
            replace G6 := Lib.hid (G6.out.drew)
            replace C8 := Lib.hid (C8.out.drew)
            refine wpAnyH_take (i := 0) (oi := ?oz3x0) (v := ?vz3x0) ?hiz3x0 (by kernel_rfl) (by kernel_rfl) (by kernel_rfl) (fun _ _ _ h => h) ?yz3x0 (by assumption) ?rz3x0
            case hiz3x0 => (simp only [List.getElem?_toArray, List.getElem?_cons_zero]; rfl)
            case yz3x0 => (refine Or.inl ⟨by rfl, ?_⟩; intro w' hSw; (try dsimp only at hSw); go_simp; (try with_reducible rfl))
            try simp only [Act.put, List.setIfInBounds_toArray, List.set_cons_zero, List.set_cons_succ]
            refine wpAnyH_take (i := 1) (oi := ?oz3x1) (v := ?vz3x1) ?hiz3x1 (by kernel_rfl) (by kernel_rfl) (by kernel_rfl) (fun _ _ _ h => h) ?yz3x1 (by assumption) ?rz3x1
            case hiz3x1 => (simp only [List.getElem?_toArray, List.getElem?_cons_succ, List.getElem?_cons_zero]; rfl)
            case yz3x1 => (refine Or.inl ⟨by rfl, ?_⟩; intro w' hSw; (try dsimp only at hSw); go_simp; (try with_reducible rfl))
            try simp only [Act.put, List.setIfInBounds_toArray, List.set_cons_zero, List.set_cons_succ]
            refine wpAnyH_take (i := 2) (oi := ?oz3x2) (v := ?vz3x2) ?hiz3x2 (by kernel_rfl) (by kernel_rfl) (by kernel_rfl) (fun _ _ _ h => h) ?yz3x2 (by assumption) ?rz3x2
            case hiz3x2 => (simp only [List.getElem?_toArray, List.getElem?_cons_succ, List.getElem?_cons_zero]; rfl)
            case yz3x2 => (refine Or.inl ⟨by rfl, ?_⟩; intro w' hSw; (try dsimp only at hSw); go_simp; (try with_reducible rfl))
            try simp only [Act.put, List.setIfInBounds_toArray, List.set_cons_zero, List.set_cons_succ]
            refine wpAnyH_take (i := 3) (oi := ?oz3x3) (v := ?vz3x3) ?hiz3x3 (by kernel_rfl) (by kernel_rfl) (by kernel_rfl) (fun _ _ _ h => h) ?yz3x3 (by assumption) ?rz3x3
            case hiz3x3 => (simp only [List.getElem?_toArray, List.getElem?_cons_succ, List.getElem?_cons_zero]; rfl)
            case yz3x3 => (refine Or.inl ⟨by rfl, ?_⟩; intro w' hSw; (try dsimp only at hSw); go_simp; (try with_reducible rfl))
            try simp only [Act.put, List.setIfInBounds_toArray, List.set_cons_zero, List.set_cons_succ]
            refine wpAnyH_take (i := 4) (oi := ?oz3x4) (v := undef) ?hiz3x4 (by kernel_rfl) (by kernel_rfl) (by kernel_rfl) (fun _ _ _ h => h) ?yz3x4 (by assumption) ?rz3x4
            case hiz3x4 => (simp only [List.getElem?_toArray, List.getElem?_cons_succ, List.getElem?_cons_zero]; rfl)
            case yz3x4 => exact Or.inr ⟨by rfl, rfl⟩
            try simp only [Act.put, List.setIfInBounds_toArray, List.set_cons_zero, List.set_cons_succ]
            refine wpAnyH_take (i := 5) (oi := ?oz3x5) (v := undef) ?hiz3x5 (by kernel_rfl) (by kernel_rfl) (by kernel_rfl) (fun _ _ _ h => h) ?yz3x5 (by assumption) ?rz3x5
            case hiz3x5 => (simp only [List.getElem?_toArray, List.getElem?_cons_succ, List.getElem?_cons_zero]; rfl)
            case yz3x5 => exact Or.inr ⟨by rfl, rfl⟩
            try simp only [Act.put, List.setIfInBounds_toArray, List.set_cons_zero, List.set_cons_succ]
            refine wpAnyH_take (i := 6) (oi := ?oz3x6) (v := undef) ?hiz3x6 (by kernel_rfl) (by kernel_rfl) (by kernel_rfl) (fun _ _ _ h => h) ?yz3x6 (by assumption) ?rz3x6
            case hiz3x6 => (simp only [List.getElem?_toArray, List.getElem?_cons_succ, List.getElem?_cons_zero]; rfl)
            case yz3x6 => exact Or.inr ⟨by rfl, rfl⟩
            try simp only [Act.put, List.setIfInBounds_toArray, List.set_cons_zero, List.set_cons_succ]
            refine wpAnyH_take (i := 7) (oi := ?oz3x7) (v := undef) ?hiz3x7 (by kernel_rfl) (by kernel_rfl) (by kernel_rfl) (fun _ _ _ h => h) ?yz3x7 (by assumption) ?rz3x7
            case hiz3x7 => (simp only [List.getElem?_toArray, List.getElem?_cons_succ, List.getElem?_cons_zero]; rfl)
            case yz3x7 => exact Or.inr ⟨by rfl, rfl⟩
            try simp only [Act.put, List.setIfInBounds_toArray, List.set_cons_zero, List.set_cons_succ]
            refine wpAnyH_take (i := 8) (oi := ?oz3x8) (v := undef) ?hiz3x8 (by kernel_rfl) (by kernel_rfl) (by kernel_rfl) (fun _ _ _ h => h) ?yz3x8 (by assumption) ?rz3x8
            case hiz3x8 => (simp only [List.getElem?_toArray, List.getElem?_cons_succ, List.getElem?_cons_zero]; rfl)
            case yz3x8 => exact Or.inr ⟨by rfl, rfl⟩
            try simp only [Act.put, List.setIfInBounds_toArray, List.set_cons_zero, List.set_cons_succ]
            refine wpAnyH_take (i := 9) (oi := ?oz3x9) (v := undef) ?hiz3x9 (by kernel_rfl) (by kernel_rfl) (by kernel_rfl) (fun _ _ _ h => h) ?yz3x9 (by assumption) ?rz3x9
            case hiz3x9 => (simp only [List.getElem?_toArray, List.getElem?_cons_succ, List.getElem?_cons_zero]; rfl)
            case yz3x9 => exact Or.inr ⟨by rfl, rfl⟩
            try simp only [Act.put, List.setIfInBounds_toArray, List.set_cons_zero, List.set_cons_succ]
            refine wpAnyH_take (i := 10) (oi := ?oz3x10) (v := undef) ?hiz3x10 (by kernel_rfl) (by kernel_rfl) (by kernel_rfl) (fun _ _ _ h => h) ?yz3x10 (by assumption) ?rz3x10
            case hiz3x10 => (simp only [List.getElem?_toArray, List.getElem?_cons_succ, List.getElem?_cons_zero]; rfl)
            case yz3x10 => exact Or.inr ⟨by rfl, rfl⟩
            try simp only [Act.put, List.setIfInBounds_toArray, List.set_cons_zero, List.set_cons_succ]
            refine wpAnyH_take (i := 11) (oi := ?oz3x11) (v := undef) ?hiz3x11 (by kernel_rfl) (by kernel_rfl) (by kernel_rfl) (fun _ _ _ h => h) ?yz3x11 (by assumption) ?rz3x11
            case hiz3x11 => (simp only [List.getElem?_toArray, List.getElem?_cons_succ, List.getElem?_cons_zero]; rfl)
            case yz3x11 => exact Or.inr ⟨by rfl, rfl⟩
            try simp only [Act.put, List.setIfInBounds_toArray, List.set_cons_zero, List.set_cons_succ]
            refine wpAnyH_take (i := 12) (oi := ?oz3x12) (v := undef) ?hiz3x12 (by kernel_rfl) (by kernel_rfl) (by kernel_rfl) (fun _ _ _ h => h) ?yz3x12 (by assumption) ?rz3x12
            case hiz3x12 => (simp only [List.getElem?_toArray, List.getElem?_cons_succ, List.getElem?_cons_zero]; rfl)
            case yz3x12 => exact Or.inr ⟨by rfl, rfl⟩
            try simp only [Act.put, List.setIfInBounds_toArray, List.set_cons_zero, List.set_cons_succ]
            refine wpAnyH_take (i := 13) (oi := ?oz3x13) (v := ?vz3x13) ?hiz3x13 (by kernel_rfl) (by kernel_rfl) (by kernel_rfl) (fun _ _ _ h => h) ?yz3x13 (by assumption) ?rz3x13
            case hiz3x13 => (simp only [List.getElem?_toArray, List.getElem?_cons_succ, List.getElem?_cons_zero]; rfl)
            case yz3x13 => (refine Or.inl ⟨by rfl, ?_⟩; intro w' hSw; (try dsimp only at hSw); go_simp; (try with_reducible rfl))
            try simp only [Act.put, List.setIfInBounds_toArray, List.set_cons_zero, List.set_cons_succ]
            refine wpAnyH_take (i := 14) (oi := ?oz3x14) (v := ?vz3x14) ?hiz3x14 (by kernel_rfl) (by kernel_rfl) (by kernel_rfl) (fun _ _ _ h => h) ?yz3x14 (by assumption) ?rz3x14
            case hiz3x14 => (simp only [List.getElem?_toArray, List.getElem?_cons_succ, List.getElem?_cons_zero]; rfl)
            case yz3x14 => (refine Or.inl ⟨by rfl, ?_⟩; intro w' hSw; (try dsimp only at hSw); go_simp; (try with_reducible rfl))
            try simp only [Act.put, List.setIfInBounds_toArray, List.set_cons_zero, List.set_cons_succ]
            refine wpAnyH_done (by kernel_rfl) ?_ _
            refine NoPanic.normal ?_
            clear hHeld
            generalize w0.drew = w9 at *
            have g6 := G6.out.at k (up_get (roleN x r) k hk)
            have f6 := G6.out.2.2 k
            have HX := Lib.hid (HG.out (3) (by rw [HN.out]; rfl))
            replace T0 := Lib.hid (T0.out.other (k' := k3 + 1 + 1) (o := k) (x := .int .i64 (3)) (by omega))
            replace R1 := Lib.hid (R1.out.other (k' := k3 + 1 + 1) (o := k) (x := .int .i64 (3)) (by omega))
            replace V3 := Lib.hid (V3.out.other (k' := k3 + 1 + 1) (o := k) (x := .int .i64 (3)) (by omega))
            replace C8 := Lib.hid (C8.out.other (k' := k3 + 1 + 1) (o := k) (x := .int .i64 (3)) (by omega))
            replace bel := Lib.hid (Bx.bel_set (k := k3 + 1 + 1) (o := k) (x := .int .i64 (3)) (by omega) bel.out)
            replace G6 := Lib.hid ((G6.out.set k (.int .i64 (3))).of (m := (i8 (upI (roleN x r) (k + 1)))) (HX.out))
            go_wp2_with (first | ((with_reducible refine td_load ?_ ?_ (w.heap.size) ?_ x ?_ ?_); (· rfl); (· rfl); (· rfl); (· exact T0.out.blk)) | ((with_reducible refine cs_load ?_ ?_ (w.heap.size) ?_ x ?_ ?_); (· rfl); (· rfl); (· rfl); (· exact T0.out.blk)) | ((with_reducible refine i8_load ?_ ?_ (w.heap.size + 1) ?_ (fun _ => 0) ?_ ?_); (· rfl); (· rfl); (· rfl); (· exact R1.out.blk)) | ((with_reducible refine i8_load ?_ ?_ (k3 + 1 + 1) ?_ (upI (roleN x r) (k + 1)) ?_ ?_); (· rfl); (· rfl); (· rfl); (· exact G6.out.blk)) | ((with_reducible refine cd_load ?_ ?_ (k8) ?_ c ?_ ?_); (· rfl); (· rfl); (· rfl); (· exact C8.out.blk)))
            go_roundg g
            case measure => omega
            case rel => exact ⟨k + 1, by omega, by go_num, T0.out, R1.out, V3.out, G6.out, bel.out⟩
      · have C8_0 := C8.out.at 0 rfl
        have g6 := G6.out.at k (up_get (roleN x r) k hk)
        have f6 := G6.out.2.2 k
        rw [hu] at C8_0
        have HX := Lib.hid (HG.out (0) (by rw [HN.out, hu, if_pos rfl]))
        replace T0 := Lib.hid (T0.out.other (k' := k3 + 1 + 1) (o := k) (x := .int .i64 (0)) (by omega))
        replace R1 := Lib.hid (R1.out.other (k' := k3 + 1 + 1) (o := k) (x := .int .i64 (0)) (by omega))
        replace V3 := Lib.hid (V3.out.other (k' := k3 + 1 + 1) (o := k) (x := .int .i64 (0)) (by omega))
        replace C8 := Lib.hid (C8.out.other (k' := k3 + 1 + 1) (o := k) (x := .int .i64 (0)) (by omega))
        replace bel := Lib.hid (Bx.bel_set (k := k3 + 1 + 1) (o := k) (x := .int .i64 (0)) (by omega) bel.out)
        replace G6 := Lib.hid ((G6.out.set k (.int .i64 (0))).of (m := (i8 (upI (roleN x r) (k + 1)))) (HX.out))
        clear hu
        go_wp2_with (first | ((with_reducible refine td_load ?_ ?_ (w.heap.size) ?_ x ?_ ?_); (· rfl); (· rfl); (· rfl); (· exact T0.out.blk)) | ((with_reducible refine cs_load ?_ ?_ (w.heap.size) ?_ x ?_ ?_); (· rfl); (· rfl); (· rfl); (· exact T0.out.blk)) | ((with_reducible refine i8_load ?_ ?_ (w.heap.size + 1) ?_ (fun _ => 0) ?_ ?_); (· rfl); (· rfl); (· rfl); (· exact R1.out.blk)) | ((with_reducible refine i8_load ?_ ?_ (k3 + 1 + 1) ?_ (upI (roleN x r) (k + 1)) ?_ ?_); (· rfl); (· rfl); (· rfl); (· exact G6.out.blk)) | ((with_reducible refine cd_load ?_ ?_ (k8) ?_ c ?_ ?_); (· rfl); (· rfl); (· rfl); (· exact C8.out.blk)))
        go_roundg g
        case measure => omega
        case rel => exact ⟨k + 1, by omega, by go_num, T0.out, R1.out, V3.out, G6.out, bel.out⟩

end Elt
end Go.Proofs.Ytkjdnmlaehjmgaa
