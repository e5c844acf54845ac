/-
  The statement ElectAlone: for every bridge the law ElectAlone returns true, and its argument reads afterwards as it read before.
-/
import Derived.Test.YtlaahomkgaaciaaEltFacts
import Derived.Test.YtlaahomkgaaciaaEltJ
import Derived.Test.YtlaahomkgaaciaaTreOpen
import Derived.Test.YtlaahomkgaaciaaFrame
import Derived.Test.YtlaahomkgaaciaaRows
import Derived.Deep.CutBlock
namespace Go.Proofs.Ytlaahomkgaaciaa
open Go.RowKit
namespace Elt
open Pre Crd Tre

set_option maxRecDepth 40000 in
set_option maxHeartbeats 8000000 in
theorem walk_alone (w : World) (x : Td) : Calls Try.prog 5 #[tdv x] w fun e w' => e = .returned (.bool true) ∧ Below w.heap.size w w' := by
  have HR := deaf_root x
  have HE : Hid (∀ w, Calls Try.prog 10 #[tdv (deaf x)] w fun e w' => e = .returned (tdv (Td.mk x.id x.own (rootR (deaf x)).v (rootR (deaf x)).t (rootR (deaf x)).p (eleC (deaf x) (rootR (deaf x))))) ∧ Below w.heap.size w w') := Lib.hid (elect_any (deaf x))
  have HA : Hid (∀ w, Calls Try.prog 12 #[tdv (Td.mk x.id x.own (rootR (deaf x)).v (rootR (deaf x)).t (rootR (deaf x)).p (eleC (deaf x) (rootR (deaf x))))] w fun e w' => e = .returned (.int .i64 (bitI x 8)) ∧ Below w.heap.size w w') := Lib.hid (fun w => by have h := active_any (eleT (deaf x)) w; rw [deaf_active x 8] at h; exact h)
  have HU : Hid (∀ i, (eleC (deaf x) (rootR (deaf x)) i).up = (x.cs i).up) := Lib.hid (fun i => ele_up (deaf x) (rootR (deaf x)) i)
  have HO := Lib.hid (fun i => (ele_role (deaf x) (rootR (deaf x)) i).trans (deaf_role x i))
  obtain ⟨z, hz⟩ : ∃ z, z = eleC (deaf x) (rootR (deaf x)) := ⟨_, rfl⟩
  rw [← hz] at HE HA HU HO
  rw [HR] at HE HA
  clear hz HR
  replace HE : Hid (∀ w, Calls Try.prog 10 #[tdv (deaf x)] w fun e w' => e = .returned (tdv (Td.mk x.id x.own (ownV x.id) x.own (-1) z)) ∧ Below w.heap.size w w') := HE
  replace HA : Hid (∀ w, Calls Try.prog 12 #[tdv (Td.mk x.id x.own (ownV x.id) x.own (-1) z)] w fun e w' => e = .returned (.int .i64 (bitI x 8)) ∧ Below w.heap.size w w') := HA
  have HW := Lib.hid awake_any
  have HQ : Hid (∀ w, Calls Try.prog 16 #[.int .u64 x.id] w fun e w' => e = .returned (vv (ownV x.id)) ∧ Below w.heap.size w w') := Lib.hid (own_any x.id)
  have HS : Hid (∀ k : Nat, bitI x (k + 1) = if (x.cs k).up = true then Por.withI (bitI x k) k else bitI x k) := Lib.hid (fun k => rfl)
  have hal := Lib.hid (@zero_at)
  have T0 : Hid (Bx.Fre (w.alloc (tdo x)) w.heap.size (tdl x)) := Lib.hid (Bx.Fre.new w (tdl x) 31)
  have bel := Lib.hid (Bx.box_below w (tdo x))
  go_enter Try.func5, Try.ntmps5
  go_wp2_with (first | ((with_reducible refine td_load ?_ ?_ (w.heap.size) ?_ x ?_ ?_); (· rfl); (· rfl); (· rfl); (· exact T0.out.blk)) | ((with_reducible refine cs_load ?_ ?_ (w.heap.size) ?_ x ?_ ?_); (· rfl); (· rfl); (· rfl); (· exact T0.out.blk)))
  generalize (w.alloc (tdo x)) = W0 at *
  replace T0 := Lib.hid (T0.out.of (m := tdl (Td.mk x.id x.own x.root x.times x.port (mixN (fun i => { x.cs i with info := 0 }) x.cs 0))) (by rw [mix_none]))
  go_loopg [8] 8 (fun g s8 wr => ∃ k : Nat, k + g = 8 ∧ s8 = .int .i64 k ∧ Aside (Bx.Fre wr w.heap.size (tdl (Td.mk x.id x.own x.root x.times x.port (mixN (fun i => { x.cs i with info := 0 }) x.cs k)))) ∧ Aside (Below w.heap.size w wr))
  case atStart => exact ⟨0, by omega, rfl, T0.out, bel.out⟩
  case round =>
    clear T0 bel W0
    obtain ⟨k, hkg, rfl, T0, bel⟩ := hrel
    cases gk with
    | succ g =>
      have hkz : (k : Int) < 8 := by omega
      have hk0 : (0 : Int) ≤ k := by omega
      have hk : k < 8 := by omega
      have hc : (mixN (fun i => { x.cs i with info := 0 }) x.cs k) k = x.cs k := by unfold mixN; rw [if_neg (by omega)]
      have q4 := cord_cell (x := (Td.mk x.id x.own x.root x.times x.port (mixN (fun i => { x.cs i with info := 0 }) x.cs k))) T0.out.blk k 4 hk (by omega) (v := .int .i64 (x.cs k).info) (by rw [show (Td.mk x.id x.own x.root x.times x.port (mixN (fun i => { x.cs i with info := 0 }) x.cs k)).cs k = x.cs k from hc]; rfl)
      have p4 := T0.out.2.2 (14 + k * 31 + 4)
      replace bel := Lib.hid (Bx.bel_set (k := w.heap.size) (o := 14 + k * 31 + 4) (x := .int .i64 0) (Nat.le_refl _) bel.out)
      replace T0 := Lib.hid ((T0.out.set (14 + k * 31 + 4) (.int .i64 0)).of (m := tdl (Td.mk x.id x.own x.root x.times x.port (mixN (fun i => { x.cs i with info := 0 }) x.cs (k + 1)))) (by rw [tdl_set (Td.mk x.id x.own x.root x.times x.port (mixN (fun i => { x.cs i with info := 0 }) x.cs k)) k 4 hk (by omega) (.int .i64 0) { x.cs k with info := 0 } (by show (cdl ((mixN (fun i => { x.cs i with info := 0 }) x.cs k) k)).set 4 (.int .i64 0) = _; rw [hc]; rfl)]; show tdl (Td.mk x.id x.own x.root x.times x.port (upd (mixN (fun i => { x.cs i with info := 0 }) x.cs k) k { x.cs k with info := 0 })) = _; rw [mix_upd (fun i => { x.cs i with info := 0 }) x.cs k _ rfl]))
      clear hc
      go_wp2_with fail
      go_roundg g
      case measure => omega
      case rel => exact ⟨k + 1, by omega, by go_num, T0.out, bel.out⟩
    | zero =>
      have hkz : ¬ ((k : Int) < 8) := by omega
      obtain rfl : k = 8 := by omega
      replace T0 : Hid (Bx.Fre wr w.heap.size (tdl (deaf x))) := Lib.hid (T0.out.of (mix_all (deaf x) (fun i => { x.cs i with info := 0 }) x.cs))
      have hal2 := hal.out
      go_wp2_with (first | ((with_reducible refine td_load ?_ ?_ (w.heap.size) ?_ (deaf x) ?_ ?_); (· rfl); (· rfl); (· rfl); (· exact T0.out.blk)) | ((with_reducible refine cs_load ?_ ?_ (w.heap.size) ?_ (deaf x) ?_ ?_); (· rfl); (· rfl); (· rfl); (· exact T0.out.blk)))
      refine (HE.out _).mono ?_; rintro e w1 ⟨rfl, hb⟩
      replace T0 := Lib.hid (T0.out.keep hb)
      replace bel := Lib.hid (Bx.then_below bel.out hb)
      clear hb
      have h4 : w.heap.size < w1.heap.size := T0.out.2.1
      replace T0 := Lib.hid (T0.out.more (tdo (Td.mk x.id x.own (ownV x.id) x.own (-1) z)))
      have U4 : Hid (Bx.Fre (w1.alloc (tdo (Td.mk x.id x.own (ownV x.id) x.own (-1) z))) w1.heap.size (tdl (Td.mk x.id x.own (ownV x.id) x.own (-1) z))) := Lib.hid (Bx.Fre.new w1 (tdl (Td.mk x.id x.own (ownV x.id) x.own (-1) z)) 31)
      replace bel := Lib.hid (Bx.bel_box bel.out (tdo (Td.mk x.id x.own (ownV x.id) x.own (-1) z)))
      go_upto_region 7 with (first | ((with_reducible refine td_fresh ?_ ?_ (w1.heap.size) (Td.mk x.id x.own (ownV x.id) x.own (-1) z) ?_ ?_ w1 (tdl Td.zero) ?_ ?_ ?_ ?_); (· rfl); (· rfl); (· rfl); (· rfl); (· exact tdl_len _); (· rfl); (· first | rfl | (simp; done))))
      obtain ⟨k4, hk4⟩ : ∃ k, k = w1.heap.size := ⟨_, rfl⟩
      rw [← hk4] at U4 h4 ⊢
      generalize (w1.alloc (tdo (Td.mk x.id x.own (ownV x.id) x.own (-1) z))) = W4 at *
      clear hk4 hal2
      have hvn : ∀ w, (binOp .neq 26 (vv (ownV x.id)) (vv (ownV x.id))).run Try.prog w = .ok (.bool false) w := fun w => by rw [vneq_at, decide_eq_true rfl]; rfl
      have hvg := fun op a b w => vguard_at op a b (ownV x.id) (ownV x.id) w
      have htn : ∀ w, (binOp .neq 24 (tmv x.own) (tmv x.own)).run Try.prog w = .ok (.bool false) w := fun w => by rw [tneq_at, decide_eq_true rfl]; rfl
      have htg := fun op a b w => Crd.tguard_at op a b x.own x.own w
      refine wp_region_noPanic ?_
      refine wp_region_held_drew (S := fun w' => w'.cell? ⟨k4, 13, none⟩ = some (.int .i64 (-1)) ∧ w'.cell? ⟨k4, 5, none⟩ = some (.int .u64 (ownV x.id).r) ∧ w'.cell? ⟨k4, 6, none⟩ = some (.int .u64 (ownV x.id).c) ∧ w'.cell? ⟨k4, 7, none⟩ = some (.int .u64 (ownV x.id).b) ∧ w'.cell? ⟨k4, 8, none⟩ = some (.int .i64 (ownV x.id).p) ∧ w'.cell? ⟨k4, 9, none⟩ = some (.int .i64 x.own.a) ∧ w'.cell? ⟨k4, 10, none⟩ = some (.int .i64 x.own.m) ∧ w'.cell? ⟨k4, 11, none⟩ = some (.int .i64 x.own.h) ∧ w'.cell? ⟨k4, 12, none⟩ = some (.int .i64 x.own.d) ∧ w'.cell? ⟨w.heap.size, 0, none⟩ = some (.int .u64 x.id) ∧ w'.cell? ⟨w.heap.size, 1, none⟩ = some (.int .i64 x.own.a) ∧ w'.cell? ⟨w.heap.size, 2, none⟩ = some (.int .i64 x.own.m) ∧ w'.cell? ⟨w.heap.size, 3, none⟩ = some (.int .i64 x.own.h) ∧ w'.cell? ⟨w.heap.size, 4, none⟩ = some (.int .i64 x.own.d)) (by kernel_rfl) (by exact ⟨U4.out.at 13 (v := .int .i64 (-1)) rfl, U4.out.at 5 (v := .int .u64 (ownV x.id).r) rfl, U4.out.at 6 (v := .int .u64 (ownV x.id).c) rfl, U4.out.at 7 (v := .int .u64 (ownV x.id).b) rfl, U4.out.at 8 (v := .int .i64 (ownV x.id).p) rfl, U4.out.at 9 (v := .int .i64 x.own.a) rfl, U4.out.at 10 (v := .int .i64 x.own.m) rfl, U4.out.at 11 (v := .int .i64 x.own.h) rfl, U4.out.at 12 (v := .int .i64 x.own.d) rfl, T0.out.at 0 (v := .int .u64 x.id) rfl, T0.out.at 1 (v := .int .i64 x.own.a) rfl, T0.out.at 2 (v := .int .i64 x.own.m) rfl, T0.out.at 3 (v := .int .i64 x.own.h) rfl, T0.out.at 4 (v := .int .i64 x.own.d) rfl⟩) (fun hHeld => ?_)
      replace bel := Lib.hid (Bx.bel_drewn bel.out)
      replace T0 := Lib.hid (T0.out.drew)
      replace U4 := Lib.hid (U4.out.drew)
      refine wpAnyH_take (i := 0) (oi := ?oz12x0) (v := ?vz12x0) ?hiz12x0 (by kernel_rfl) (by kernel_rfl) (by kernel_rfl) (fun _ _ _ h => h) ?yz12x0 (by assumption) ?rz12x0
      case hiz12x0 => (simp only [List.getElem?_toArray, List.getElem?_cons_zero]; rfl)
      case yz12x0 => (refine Or.inl ⟨by rfl, ?_⟩; intro w' hSw; (try dsimp only at hSw); go_simp; (try with_reducible rfl))
      try simp only [Act.put, List.setIfInBounds_toArray, List.set_cons_zero, List.set_cons_succ]
      refine wpAnyH_take (i := 1) (oi := ?oz12x1) (v := ?vz12x1) ?hiz12x1 (by kernel_rfl) (by kernel_rfl) (by kernel_rfl) (fun _ _ _ h => h) ?yz12x1 (by assumption) ?rz12x1
      case hiz12x1 => (simp only [List.getElem?_toArray, List.getElem?_cons_succ, List.getElem?_cons_zero]; rfl)
      case yz12x1 => (refine Or.inl ⟨by rfl, ?_⟩; intro w' hSw; (try dsimp only at hSw); go_simp; (try with_reducible rfl))
      try simp only [Act.put, List.setIfInBounds_toArray, List.set_cons_zero, List.set_cons_succ]
      refine wpAnyH_take (i := 2) (oi := ?oz12x2) (v := ?vz12x2) ?hiz12x2 (by kernel_rfl) (by kernel_rfl) (by kernel_rfl) (fun _ _ _ h => h) ?yz12x2 (by assumption) ?rz12x2
      case hiz12x2 => (simp only [List.getElem?_toArray, List.getElem?_cons_succ, List.getElem?_cons_zero]; rfl)
      case yz12x2 => (refine Or.inl ⟨by rfl, ?_⟩; intro w' hSw; (try dsimp only at hSw); go_simp; (try with_reducible rfl))
      try simp only [Act.put, List.setIfInBounds_toArray, List.set_cons_zero, List.set_cons_succ]
      refine wpAnyH_take (i := 3) (oi := ?oz12x3) (v := ?vz12x3) ?hiz12x3 (by kernel_rfl) (by kernel_rfl) (by kernel_rfl) (fun _ _ _ h => h) ?yz12x3 (by assumption) ?rz12x3
      case hiz12x3 => (simp only [List.getElem?_toArray, List.getElem?_cons_succ, List.getElem?_cons_zero]; rfl)
      case yz12x3 => (refine Or.inl ⟨by rfl, ?_⟩; intro w' hSw; (try dsimp only at hSw); go_simp; (try with_reducible rfl))
      try simp only [Act.put, List.setIfInBounds_toArray, List.set_cons_zero, List.set_cons_succ]
      refine wpAnyH_take (i := 4) (oi := ?oz12x4) (v := ?vz12x4) ?hiz12x4 (by kernel_rfl) (by kernel_rfl) (by kernel_rfl) (fun _ _ _ h => h) ?yz12x4 (by assumption) ?rz12x4
      case hiz12x4 => (simp only [List.getElem?_toArray, List.getElem?_cons_succ, List.getElem?_cons_zero]; rfl)
      case yz12x4 => (refine Or.inl ⟨by rfl, ?_⟩; intro w' hSw; (try dsimp only at hSw); go_simp; (try with_reducible rfl))
      try simp only [Act.put, List.setIfInBounds_toArray, List.set_cons_zero, List.set_cons_succ]
      refine wpAnyH_take (i := 5) (oi := ?oz12x5) (v := ?vz12x5) ?hiz12x5 (by kernel_rfl) (by kernel_rfl) (by kernel_rfl) (fun _ _ _ h => h) ?yz12x5 (by assumption) ?rz12x5
      case hiz12x5 => (simp only [List.getElem?_toArray, List.getElem?_cons_succ, List.getElem?_cons_zero]; rfl)
      case yz12x5 => (refine Or.inl ⟨by rfl, ?_⟩; intro w' hSw; (try dsimp only at hSw); go_simp; (try with_reducible rfl))
      try simp only [Act.put, List.setIfInBounds_toArray, List.set_cons_zero, List.set_cons_succ]
      refine wpAnyH_take (i := 6) (oi := ?oz12x6) (v := ?vz12x6) ?hiz12x6 (by kernel_rfl) (by kernel_rfl) (by kernel_rfl) (fun _ _ _ h => h) ?yz12x6 (by assumption) ?rz12x6
      case hiz12x6 => (simp only [List.getElem?_toArray, List.getElem?_cons_succ, List.getElem?_cons_zero]; rfl)
      case yz12x6 => (refine Or.inl ⟨by rfl, ?_⟩; intro w' hSw; (try dsimp only at hSw); go_simp; (try with_reducible rfl))
      try simp only [Act.put, List.setIfInBounds_toArray, List.set_cons_zero, List.set_cons_succ]
      refine wpAnyH_take (i := 7) (oi := ?oz12x7) (v := ?vz12x7) ?hiz12x7 (by kernel_rfl) (by kernel_rfl) (by kernel_rfl) (fun _ _ _ h => h) ?yz12x7 (by assumption) ?rz12x7
      case hiz12x7 => (simp only [List.getElem?_toArray, List.getElem?_cons_succ, List.getElem?_cons_zero]; rfl)
      case yz12x7 => (refine Or.inl ⟨by rfl, ?_⟩; intro w' hSw; (try dsimp only at hSw); go_simp; (try with_reducible rfl))
      try simp only [Act.put, List.setIfInBounds_toArray, List.set_cons_zero, List.set_cons_succ]
      refine wpAnyH_ready (rs := [8]) (by kernel_rfl) (by simp) ?_
      refine AllReadyH.cons (o := ?oz12x8) ?hiz12x8 ?hstz12x8 AllReadyH.nil
      case hiz12x8 => (simp only [List.getElem?_toArray, List.getElem?_cons_succ, List.getElem?_cons_zero]; rfl)
      intro K hK
      go_simp
      (go_at_call 16; (with_reducible refine (HQ.out _).mono ?_); rintro e w1 ⟨rfl, hb1⟩)
      go_wp2_with fail
      refine hK.out _ _ ⟨Bx.keep_cell hb1 hHeld.1, Bx.keep_cell hb1 hHeld.2.1, Bx.keep_cell hb1 hHeld.2.2.1, Bx.keep_cell hb1 hHeld.2.2.2.1, Bx.keep_cell hb1 hHeld.2.2.2.2.1, Bx.keep_cell hb1 hHeld.2.2.2.2.2.1, Bx.keep_cell hb1 hHeld.2.2.2.2.2.2.1, Bx.keep_cell hb1 hHeld.2.2.2.2.2.2.2.1, Bx.keep_cell hb1 hHeld.2.2.2.2.2.2.2.2.1, Bx.keep_cell hb1 hHeld.2.2.2.2.2.2.2.2.2.1, Bx.keep_cell hb1 hHeld.2.2.2.2.2.2.2.2.2.2.1, Bx.keep_cell hb1 hHeld.2.2.2.2.2.2.2.2.2.2.2.1, Bx.keep_cell hb1 hHeld.2.2.2.2.2.2.2.2.2.2.2.2.1, Bx.keep_cell hb1 hHeld.2.2.2.2.2.2.2.2.2.2.2.2.2⟩ (fun hNew => ?_)
      clear hHeld
      have hHeld := hNew
      clear hNew hK K
      replace bel := Lib.hid (Bx.then_below bel.out hb1)
      replace T0 := Lib.hid (T0.out.keep hb1)
      replace U4 := Lib.hid (U4.out.keep hb1)
      clear hb1
      refine wpAnyH_take (i := 9) (oi := ?oz12x9) (v := ?vz12x9) ?hiz12x9 (by kernel_rfl) (by kernel_rfl) (by kernel_rfl) (fun _ _ _ h => h) ?yz12x9 (by assumption) ?rz12x9
      case hiz12x9 => (simp only [List.getElem?_toArray, List.getElem?_cons_succ, List.getElem?_cons_zero]; rfl)
      case yz12x9 => (refine Or.inl ⟨by rfl, ?_⟩; intro w' hSw; (try dsimp only at hSw); go_simp; (try with_reducible rfl))
      try simp only [Act.put, List.setIfInBounds_toArray, List.set_cons_zero, List.set_cons_succ]
      refine wpAnyH_take (i := 10) (oi := ?oz12x10) (v := ?vz12x10) ?hiz12x10 (by kernel_rfl) (by kernel_rfl) (by kernel_rfl) (fun _ _ _ h => h) ?yz12x10 (by assumption) ?rz12x10
      case hiz12x10 => (simp only [List.getElem?_toArray, List.getElem?_cons_succ, List.getElem?_cons_zero]; rfl)
      case yz12x10 => (refine Or.inl ⟨by rfl, ?_⟩; intro w' hSw; (try dsimp only at hSw); go_simp; (try with_reducible rfl))
      try simp only [Act.put, List.setIfInBounds_toArray, List.set_cons_zero, List.set_cons_succ]
      refine wpAnyH_take (i := 11) (oi := ?oz12x11) (v := ?vz12x11) ?hiz12x11 (by kernel_rfl) (by kernel_rfl) (by kernel_rfl) (fun _ _ _ h => h) ?yz12x11 (by assumption) ?rz12x11
      case hiz12x11 => (simp only [List.getElem?_toArray, List.getElem?_cons_succ, List.getElem?_cons_zero]; rfl)
      case yz12x11 => (refine Or.inl ⟨by rfl, ?_⟩; intro w' hSw; (try dsimp only at hSw); go_simp; (try with_reducible rfl))
      try simp only [Act.put, List.setIfInBounds_toArray, List.set_cons_zero, List.set_cons_succ]
      refine wpAnyH_take (i := 12) (oi := ?oz12x12) (v := ?vz12x12) ?hiz12x12 (by kernel_rfl) (by kernel_rfl) (by kernel_rfl) (fun _ _ _ h => h) ?yz12x12 (by assumption) ?rz12x12
      case hiz12x12 => (simp only [List.getElem?_toArray, List.getElem?_cons_succ, List.getElem?_cons_zero]; rfl)
      case yz12x12 => (refine Or.inl ⟨by rfl, ?_⟩; intro w' hSw; (try dsimp only at hSw); go_simp; (try with_reducible rfl))
      try simp only [Act.put, List.setIfInBounds_toArray, List.set_cons_zero, List.set_cons_succ]
      refine wpAnyH_take (i := 13) (oi := ?oz12x13) (v := ?vz12x13) ?hiz12x13 (by kernel_rfl) (by kernel_rfl) (by kernel_rfl) (fun _ _ _ h => h) ?yz12x13 (by assumption) ?rz12x13
      case hiz12x13 => (simp only [List.getElem?_toArray, List.getElem?_cons_succ, List.getElem?_cons_zero]; rfl)
      case yz12x13 => (refine Or.inl ⟨by rfl, ?_⟩; intro w' hSw; (try dsimp only at hSw); go_simp; (try with_reducible rfl))
      try simp only [Act.put, List.setIfInBounds_toArray, List.set_cons_zero, List.set_cons_succ]
      refine wpAnyH_take (i := 14) (oi := ?oz12x14) (v := ?vz12x14) ?hiz12x14 (by kernel_rfl) (by kernel_rfl) (by kernel_rfl) (fun _ _ _ h => h) ?yz12x14 (by assumption) ?rz12x14
      case hiz12x14 => (simp only [List.getElem?_toArray, List.getElem?_cons_succ, List.getElem?_cons_zero]; rfl)
      case yz12x14 => (refine Or.inl ⟨by rfl, ?_⟩; intro w' hSw; (try dsimp only at hSw); go_simp; (try with_reducible rfl))
      try simp only [Act.put, List.setIfInBounds_toArray, List.set_cons_zero, List.set_cons_succ]
      refine wpAnyH_take (i := 15) (oi := ?oz12x15) (v := ?vz12x15) ?hiz12x15 (by kernel_rfl) (by kernel_rfl) (by kernel_rfl) (fun _ _ _ h => h) ?yz12x15 (by assumption) ?rz12x15
      case hiz12x15 => (simp only [List.getElem?_toArray, List.getElem?_cons_succ, List.getElem?_cons_zero]; rfl)
      case yz12x15 => (refine Or.inl ⟨by rfl, ?_⟩; intro w' hSw; (try dsimp only at hSw); go_simp; (try with_reducible rfl))
      try simp only [Act.put, List.setIfInBounds_toArray, List.set_cons_zero, List.set_cons_succ]
      refine wpAnyH_take (i := 16) (oi := ?oz12x16) (v := ?vz12x16) ?hiz12x16 (by kernel_rfl) (by kernel_rfl) (by kernel_rfl) (fun _ _ _ h => h) ?yz12x16 (by assumption) ?rz12x16
      case hiz12x16 => (simp only [List.getElem?_toArray, List.getElem?_cons_succ, List.getElem?_cons_zero]; rfl)
      case yz12x16 => (refine Or.inl ⟨by rfl, ?_⟩; intro w' hSw; (try dsimp only at hSw); go_simp; (try with_reducible rfl))
      try simp only [Act.put, List.setIfInBounds_toArray, List.set_cons_zero, List.set_cons_succ]
      refine wpAnyH_take (i := 17) (oi := ?oz12x17) (v := ?vz12x17) ?hiz12x17 (by kernel_rfl) (by kernel_rfl) (by kernel_rfl) (fun _ _ _ h => h) ?yz12x17 (by assumption) ?rz12x17
      case hiz12x17 => (simp only [List.getElem?_toArray, List.getElem?_cons_succ, List.getElem?_cons_zero]; rfl)
      case yz12x17 => (refine Or.inl ⟨by rfl, ?_⟩; intro w' hSw; (try dsimp only at hSw); go_simp; (try with_reducible rfl))
      try simp only [Act.put, List.setIfInBounds_toArray, List.set_cons_zero, List.set_cons_succ]
      refine wpAnyH_done (by kernel_rfl) ?_ _
      refine NoPanic.normal ?_
      clear hHeld
      clear hvn hvg htn htg
      go_wp2_with (first | ((with_reducible refine td_load ?_ ?_ (k4) ?_ (Td.mk x.id x.own (ownV x.id) x.own (-1) z) ?_ ?_); (· rfl); (· rfl); (· rfl); (· exact U4.out.blk)) | ((with_reducible refine cs_load ?_ ?_ (k4) ?_ (Td.mk x.id x.own (ownV x.id) x.own (-1) z) ?_ ?_); (· rfl); (· rfl); (· rfl); (· exact U4.out.blk)))
      go_loopg [5, 38] 8 (fun g s5 s38 wr => ∃ k : Nat, k + g = 8 ∧ s38 = .int .i64 k ∧ s5 = .int .i64 (bitI x k) ∧ Aside (Bx.Fre wr w.heap.size (tdl (deaf x))) ∧ Aside (Bx.Fre wr k4 (tdl (Td.mk x.id x.own (ownV x.id) x.own (-1) z))) ∧ Aside (Below w.heap.size w wr))
      case atStart => exact ⟨0, by omega, rfl, rfl, T0.out, U4.out, bel.out⟩
      case round =>
        clear T0 U4 bel
        obtain ⟨k, hkg, rfl, rfl, T0, U4, bel⟩ := hrel
        cases gk with
        | zero =>
          have hkz : ¬ ((k : Int) < 8) := by omega
          obtain rfl : k = 8 := by omega
          generalize bitI x 8 = n at *
          have hn : (n == n) = true := by simp
          go_wp2_with (first | ((with_reducible refine td_load ?_ ?_ (k4) ?_ (Td.mk x.id x.own (ownV x.id) x.own (-1) z) ?_ ?_); (· rfl); (· rfl); (· rfl); (· exact U4.out.blk)) | ((with_reducible refine cs_load ?_ ?_ (k4) ?_ (Td.mk x.id x.own (ownV x.id) x.own (-1) z) ?_ ?_); (· rfl); (· rfl); (· rfl); (· exact U4.out.blk)))
          refine (HA.out _).mono ?_; rintro e w1 ⟨rfl, hb⟩
          replace T0 := Lib.hid (T0.out.keep hb)
          replace U4 := Lib.hid (U4.out.keep hb)
          replace bel := Lib.hid (Bx.then_below bel.out hb)
          clear hb
          go_wp2_with (first | ((with_reducible refine td_load ?_ ?_ (w.heap.size) ?_ (deaf x) ?_ ?_); (· rfl); (· rfl); (· rfl); (· exact T0.out.blk)) | ((with_reducible refine cs_load ?_ ?_ (w.heap.size) ?_ (deaf x) ?_ ?_); (· rfl); (· rfl); (· rfl); (· exact T0.out.blk)) | ((with_reducible refine td_load ?_ ?_ (k4) ?_ (Td.mk x.id x.own (ownV x.id) x.own (-1) z) ?_ ?_); (· rfl); (· rfl); (· rfl); (· exact U4.out.blk)) | ((with_reducible refine cs_load ?_ ?_ (k4) ?_ (Td.mk x.id x.own (ownV x.id) x.own (-1) z) ?_ ?_); (· rfl); (· rfl); (· rfl); (· exact U4.out.blk)))
          refine (HW.out _).mono ?_; rintro e w2 ⟨rfl, hb⟩
          replace T0 := Lib.hid (T0.out.keep hb)
          replace U4 := Lib.hid (U4.out.keep hb)
          replace bel := Lib.hid (Bx.then_below bel.out hb)
          clear hb
          go_wp2_with fail
          go_ret
          exact ⟨rfl, bel.out⟩
        | succ g =>
          have hkz : (k : Int) < 8 := by omega
          have hk0 : (0 : Int) ≤ k := by omega
          have hk : k < 8 := by omega
          have hix := index_at z k hk
          have hu := Lib.hid (HU.out k)
          have hr := Lib.hid (HO.out k)
          have hs := Lib.hid (HS.out k)
          have qd := cord_cell (x := deaf x) T0.out.blk k 0 hk (by omega) (v := .bool (x.cs k).up) rfl
          generalize bitI x k = n at *
          obtain ⟨c, hc⟩ : ∃ c, c = z k := ⟨_, rfl⟩
          rw [← hc] at hix hu hr
          clear hc
          obtain ⟨b, hb⟩ : ∃ b, b = (x.cs k).up := ⟨_, rfl⟩
          rw [← hb] at hu hr hs qd
          clear hb
          replace qd := Lib.hid qd
          have h74 : k4 < wr.heap.size := U4.out.2.1
          have h70 : w.heap.size < wr.heap.size := T0.out.2.1
          replace qd := Lib.hid (Bx.kept_new (o := (cdo c)) qd.out)
          replace T0 := Lib.hid (T0.out.more (cdo c))
          replace U4 := Lib.hid (U4.out.more (cdo c))
          have C7 : Hid (Bx.Fre (wr.alloc (cdo c)) wr.heap.size (cdl c)) := Lib.hid (Bx.Fre.new wr (cdl c) 28)
          replace bel := Lib.hid (Bx.bel_box bel.out (cdo c))
          go_upto_region 13 with (first | ((with_reducible refine cd_fresh ?_ ?_ (wr.heap.size) c ?_ ?_ wr (cdl Cd.zero) ?_ ?_ ?_ ?_); (· rfl); (· rfl); (· rfl); (· rfl); (· rfl); (· rfl); (· first | rfl | (simp; done))))
          clear hix
          obtain ⟨k7, hk7⟩ : ∃ k, k = wr.heap.size := ⟨_, rfl⟩
          rw [← hk7] at C7 h74 h70 ⊢
          generalize wr.alloc (cdo c) = w0 at *
          clear hk7 wr
          cases b with
          | false =>
            have c0 := C7.out.at 0 rfl
            rw [hu.out] at c0
            have c13 := C7.out.at 13 rfl
            rw [hr.out] at c13
            replace hs := Lib.hid (hs.out)
            have qe := qd.out
            replace c13 : w0.cell? ⟨k7, 13, none⟩ = some (.int .i64 0) := c13
            refine wp_region_noPanic ?_
            refine wp_region_held_drew (S := fun w' => w'.cell? ⟨k7, 0, none⟩ = some (.bool false) ∧ w'.cell? ⟨w.heap.size, 14 + k * 31, none⟩ = some (.bool false) ∧ w'.cell? ⟨k7, 13, none⟩ = some (.int .i64 0)) (by kernel_rfl) (by exact ⟨c0, qe, c13⟩) (fun hHeld => ?_)
            replace bel := Lib.hid (Bx.bel_drewn bel.out)
            replace T0 := Lib.hid (T0.out.drew)
            replace U4 := Lib.hid (U4.out.drew)
            replace C7 := Lib.hid (C7.out.drew)
            refine wpAnyH_take (i := 0) (oi := ?oz13x0) (v := ?vz13x0) ?hiz13x0 (by kernel_rfl) (by kernel_rfl) (by kernel_rfl) (fun _ _ _ h => h) ?yz13x0 (by assumption) ?rz13x0
            case hiz13x0 => (simp only [List.getElem?_toArray, List.getElem?_cons_zero]; rfl)
            case yz13x0 => (refine Or.inl ⟨by rfl, ?_⟩; intro w' hSw; (try dsimp only at hSw); go_simp; (try with_reducible rfl))
            try simp only [Act.put, List.setIfInBounds_toArray, List.set_cons_zero, List.set_cons_succ]
            refine wpAnyH_take (i := 1) (oi := ?oz13x1) (v := ?vz13x1) ?hiz13x1 (by kernel_rfl) (by kernel_rfl) (by kernel_rfl) (fun _ _ _ h => h) ?yz13x1 (by assumption) ?rz13x1
            case hiz13x1 => (simp only [List.getElem?_toArray, List.getElem?_cons_succ, List.getElem?_cons_zero]; rfl)
            case yz13x1 => (refine Or.inl ⟨by rfl, ?_⟩; intro w' hSw; (try dsimp only at hSw); go_simp; (try with_reducible rfl))
            try simp only [Act.put, List.setIfInBounds_toArray, List.set_cons_zero, List.set_cons_succ]
            refine wpAnyH_take (i := 2) (oi := ?oz13x2) (v := ?vz13x2) ?hiz13x2 (by kernel_rfl) (by kernel_rfl) (by kernel_rfl) (fun _ _ _ h => h) ?yz13x2 (by assumption) ?rz13x2
            case hiz13x2 => (simp only [List.getElem?_toArray, List.getElem?_cons_succ, List.getElem?_cons_zero]; rfl)
            case yz13x2 => (refine Or.inl ⟨by rfl, ?_⟩; intro w' hSw; (try dsimp only at hSw); go_simp; (try with_reducible rfl))
            try simp only [Act.put, List.setIfInBounds_toArray, List.set_cons_zero, List.set_cons_succ]
            refine wpAnyH_take (i := 3) (oi := ?oz13x3) (v := ?vz13x3) ?hiz13x3 (by kernel_rfl) (by kernel_rfl) (by kernel_rfl) (fun _ _ _ h => h) ?yz13x3 (by assumption) ?rz13x3
            case hiz13x3 => (simp only [List.getElem?_toArray, List.getElem?_cons_succ, List.getElem?_cons_zero]; rfl)
            case yz13x3 => (refine Or.inl ⟨by rfl, ?_⟩; intro w' hSw; (try dsimp only at hSw); go_simp; (try with_reducible rfl))
            try simp only [Act.put, List.setIfInBounds_toArray, List.set_cons_zero, List.set_cons_succ]
            refine wpAnyH_take (i := 4) (oi := ?oz13x4) (v := ?vz13x4) ?hiz13x4 (by kernel_rfl) (by kernel_rfl) (by kernel_rfl) (fun _ _ _ h => h) ?yz13x4 (by assumption) ?rz13x4
            case hiz13x4 => (simp only [List.getElem?_toArray, List.getElem?_cons_succ, List.getElem?_cons_zero]; rfl)
            case yz13x4 => (refine Or.inl ⟨by rfl, ?_⟩; intro w' hSw; (try dsimp only at hSw); go_simp; (try with_reducible rfl))
            try simp only [Act.put, List.setIfInBounds_toArray, List.set_cons_zero, List.set_cons_succ]
            refine wpAnyH_take (i := 5) (oi := ?oz13x5) (v := ?vz13x5) ?hiz13x5 (by kernel_rfl) (by kernel_rfl) (by kernel_rfl) (fun _ _ _ h => h) ?yz13x5 (by assumption) ?rz13x5
            case hiz13x5 => (simp only [List.getElem?_toArray, List.getElem?_cons_succ, List.getElem?_cons_zero]; rfl)
            case yz13x5 => (refine Or.inl ⟨by rfl, ?_⟩; intro w' hSw; (try dsimp only at hSw); go_simp; (try with_reducible rfl))
            try simp only [Act.put, List.setIfInBounds_toArray, List.set_cons_zero, List.set_cons_succ]
            refine wpAnyH_take (i := 6) (oi := ?oz13x6) (v := ?vz13x6) ?hiz13x6 (by kernel_rfl) (by kernel_rfl) (by kernel_rfl) (fun _ _ _ h => h) ?yz13x6 (by assumption) ?rz13x6
            case hiz13x6 => (simp only [List.getElem?_toArray, List.getElem?_cons_succ, List.getElem?_cons_zero]; rfl)
            case yz13x6 => (refine Or.inl ⟨by rfl, ?_⟩; intro w' hSw; (try dsimp only at hSw); go_simp; (try with_reducible rfl))
            try simp only [Act.put, List.setIfInBounds_toArray, List.set_cons_zero, List.set_cons_succ]
            refine wpAnyH_take (i := 7) (oi := ?oz13x7) (v := ?vz13x7) ?hiz13x7 (by kernel_rfl) (by kernel_rfl) (by kernel_rfl) (fun _ _ _ h => h) ?yz13x7 (by assumption) ?rz13x7
            case hiz13x7 => (simp only [List.getElem?_toArray, List.getElem?_cons_succ, List.getElem?_cons_zero]; rfl)
            case yz13x7 => (refine Or.inl ⟨by rfl, ?_⟩; intro w' hSw; (try dsimp only at hSw); go_simp; (try with_reducible rfl))
            try simp only [Act.put, List.setIfInBounds_toArray, List.set_cons_zero, List.set_cons_succ]
            refine wpAnyH_take (i := 8) (oi := ?oz13x8) (v := ?vz13x8) ?hiz13x8 (by kernel_rfl) (by kernel_rfl) (by kernel_rfl) (fun _ _ _ h => h) ?yz13x8 (by assumption) ?rz13x8
            case hiz13x8 => (simp only [List.getElem?_toArray, List.getElem?_cons_succ, List.getElem?_cons_zero]; rfl)
            case yz13x8 => (refine Or.inl ⟨by rfl, ?_⟩; intro w' hSw; (try dsimp only at hSw); go_simp; (try with_reducible rfl))
            try simp only [Act.put, List.setIfInBounds_toArray, List.set_cons_zero, List.set_cons_succ]
            refine wpAnyH_take (i := 9) (oi := ?oz13x9) (v := ?vz13x9) ?hiz13x9 (by kernel_rfl) (by kernel_rfl) (by kernel_rfl) (fun _ _ _ h => h) ?yz13x9 (by assumption) ?rz13x9
            case hiz13x9 => (simp only [List.getElem?_toArray, List.getElem?_cons_succ, List.getElem?_cons_zero]; rfl)
            case yz13x9 => (refine Or.inl ⟨by rfl, ?_⟩; intro w' hSw; (try dsimp only at hSw); go_simp; (try with_reducible rfl))
            try simp only [Act.put, List.setIfInBounds_toArray, List.set_cons_zero, List.set_cons_succ]
            refine wpAnyH_take (i := 10) (oi := ?oz13x10) (v := ?vz13x10) ?hiz13x10 (by kernel_rfl) (by kernel_rfl) (by kernel_rfl) (fun _ _ _ h => h) ?yz13x10 (by assumption) ?rz13x10
            case hiz13x10 => (simp only [List.getElem?_toArray, List.getElem?_cons_succ, List.getElem?_cons_zero]; rfl)
            case yz13x10 => (refine Or.inl ⟨by rfl, ?_⟩; intro w' hSw; (try dsimp only at hSw); go_simp; (try with_reducible rfl))
            try simp only [Act.put, List.setIfInBounds_toArray, List.set_cons_zero, List.set_cons_succ]
            refine wpAnyH_take (i := 11) (oi := ?oz13x11) (v := ?vz13x11) ?hiz13x11 (by kernel_rfl) (by kernel_rfl) (by kernel_rfl) (fun _ _ _ h => h) ?yz13x11 (by assumption) ?rz13x11
            case hiz13x11 => (simp only [List.getElem?_toArray, List.getElem?_cons_succ, List.getElem?_cons_zero]; rfl)
            case yz13x11 => (refine Or.inl ⟨by rfl, ?_⟩; intro w' hSw; (try dsimp only at hSw); go_simp; (try with_reducible rfl))
            try simp only [Act.put, List.setIfInBounds_toArray, List.set_cons_zero, List.set_cons_succ]
            refine wpAnyH_take (i := 12) (oi := ?oz13x12) (v := undef) ?hiz13x12 (by kernel_rfl) (by kernel_rfl) (by kernel_rfl) (fun _ _ _ h => h) ?yz13x12 (by assumption) ?rz13x12
            case hiz13x12 => (simp only [List.getElem?_toArray, List.getElem?_cons_succ, List.getElem?_cons_zero]; rfl)
            case yz13x12 => exact Or.inr ⟨by rfl, rfl⟩
            try simp only [Act.put, List.setIfInBounds_toArray, List.set_cons_zero, List.set_cons_succ]
            refine wpAnyH_take (i := 13) (oi := ?oz13x13) (v := undef) ?hiz13x13 (by kernel_rfl) (by kernel_rfl) (by kernel_rfl) (fun _ _ _ h => h) ?yz13x13 (by assumption) ?rz13x13
            case hiz13x13 => (simp only [List.getElem?_toArray, List.getElem?_cons_succ, List.getElem?_cons_zero]; rfl)
            case yz13x13 => exact Or.inr ⟨by rfl, rfl⟩
            try simp only [Act.put, List.setIfInBounds_toArray, List.set_cons_zero, List.set_cons_succ]
            refine wpAnyH_take (i := 14) (oi := ?oz13x14) (v := undef) ?hiz13x14 (by kernel_rfl) (by kernel_rfl) (by kernel_rfl) (fun _ _ _ h => h) ?yz13x14 (by assumption) ?rz13x14
            case hiz13x14 => (simp only [List.getElem?_toArray, List.getElem?_cons_succ, List.getElem?_cons_zero]; rfl)
            case yz13x14 => exact Or.inr ⟨by rfl, rfl⟩
            try simp only [Act.put, List.setIfInBounds_toArray, List.set_cons_zero, List.set_cons_succ]
            refine wpAnyH_take (i := 15) (oi := ?oz13x15) (v := ?vz13x15) ?hiz13x15 (by kernel_rfl) (by kernel_rfl) (by kernel_rfl) (fun _ _ _ h => h) ?yz13x15 (by assumption) ?rz13x15
            case hiz13x15 => (simp only [List.getElem?_toArray, List.getElem?_cons_succ, List.getElem?_cons_zero]; rfl)
            case yz13x15 => (refine Or.inl ⟨by rfl, ?_⟩; intro w' hSw; (try dsimp only at hSw); go_simp; (try with_reducible rfl))
            try simp only [Act.put, List.setIfInBounds_toArray, List.set_cons_zero, List.set_cons_succ]
            refine wpAnyH_take (i := 16) (oi := ?oz13x16) (v := ?vz13x16) ?hiz13x16 (by kernel_rfl) (by kernel_rfl) (by kernel_rfl) (fun _ _ _ h => h) ?yz13x16 (by assumption) ?rz13x16
            case hiz13x16 => (simp only [List.getElem?_toArray, List.getElem?_cons_succ, List.getElem?_cons_zero]; rfl)
            case yz13x16 => (refine Or.inl ⟨by rfl, ?_⟩; intro w' hSw; (try dsimp only at hSw); go_simp; (try with_reducible rfl))
            try simp only [Act.put, List.setIfInBounds_toArray, List.set_cons_zero, List.set_cons_succ]
            refine wpAnyH_done (by kernel_rfl) ?_ _
            refine NoPanic.normal ?_
            clear hHeld
            go_wp2_with fail
            go_roundg g
            case measure => omega
            case rel => exact ⟨k + 1, by omega, by go_num, by rw [hs.out]; rfl, T0.out, U4.out, bel.out⟩
          | true =>
            have c0 := C7.out.at 0 rfl
            rw [hu.out] at c0
            have c13 := C7.out.at 13 rfl
            rw [hr.out] at c13
            replace hs := Lib.hid (hs.out)
            have qe := qd.out
            replace c13 : w0.cell? ⟨k7, 13, none⟩ = some (.int .i64 3) := c13
            refine wp_region_noPanic ?_
            refine wp_region_held_drew (S := fun w' => w'.cell? ⟨k7, 0, none⟩ = some (.bool true) ∧ w'.cell? ⟨w.heap.size, 14 + k * 31, none⟩ = some (.bool true) ∧ w'.cell? ⟨k7, 13, none⟩ = some (.int .i64 3)) (by kernel_rfl) (by exact ⟨c0, qe, c13⟩) (fun hHeld => ?_)
            replace bel := Lib.hid (Bx.bel_drewn bel.out)
            replace T0 := Lib.hid (T0.out.drew)
            replace U4 := Lib.hid (U4.out.drew)
            replace C7 := Lib.hid (C7.out.drew)
            refine wpAnyH_take (i := 0) (oi := ?oz14x0) (v := ?vz14x0) ?hiz14x0 (by kernel_rfl) (by kernel_rfl) (by kernel_rfl) (fun _ _ _ h => h) ?yz14x0 (by assumption) ?rz14x0
            case hiz14x0 => (simp only [List.getElem?_toArray, List.getElem?_cons_zero]; rfl)
            case yz14x0 => (refine Or.inl ⟨by rfl, ?_⟩; intro w' hSw; (try dsimp only at hSw); go_simp; (try with_reducible rfl))
            try simp only [Act.put, List.setIfInBounds_toArray, List.set_cons_zero, List.set_cons_succ]
            refine wpAnyH_take (i := 1) (oi := ?oz14x1) (v := ?vz14x1) ?hiz14x1 (by kernel_rfl) (by kernel_rfl) (by kernel_rfl) (fun _ _ _ h => h) ?yz14x1 (by assumption) ?rz14x1
            case hiz14x1 => (simp only [List.getElem?_toArray, List.getElem?_cons_succ, List.getElem?_cons_zero]; rfl)
            case yz14x1 => (refine Or.inl ⟨by rfl, ?_⟩; intro w' hSw; (try dsimp only at hSw); go_simp; (try with_reducible rfl))
            try simp only [Act.put, List.setIfInBounds_toArray, List.set_cons_zero, List.set_cons_succ]
            refine wpAnyH_take (i := 2) (oi := ?oz14x2) (v := ?vz14x2) ?hiz14x2 (by kernel_rfl) (by kernel_rfl) (by kernel_rfl) (fun _ _ _ h => h) ?yz14x2 (by assumption) ?rz14x2
            case hiz14x2 => (simp only [List.getElem?_toArray, List.getElem?_cons_succ, List.getElem?_cons_zero]; rfl)
            case yz14x2 => (refine Or.inl ⟨by rfl, ?_⟩; intro w' hSw; (try dsimp only at hSw); go_simp; (try with_reducible rfl))
            try simp only [Act.put, List.setIfInBounds_toArray, List.set_cons_zero, List.set_cons_succ]
            refine wpAnyH_take (i := 3) (oi := ?oz14x3) (v := ?vz14x3) ?hiz14x3 (by kernel_rfl) (by kernel_rfl) (by kernel_rfl) (fun _ _ _ h => h) ?yz14x3 (by assumption) ?rz14x3
            case hiz14x3 => (simp only [List.getElem?_toArray, List.getElem?_cons_succ, List.getElem?_cons_zero]; rfl)
            case yz14x3 => (refine Or.inl ⟨by rfl, ?_⟩; intro w' hSw; (try dsimp only at hSw); go_simp; (try with_reducible rfl))
            try simp only [Act.put, List.setIfInBounds_toArray, List.set_cons_zero, List.set_cons_succ]
            refine wpAnyH_take (i := 4) (oi := ?oz14x4) (v := ?vz14x4) ?hiz14x4 (by kernel_rfl) (by kernel_rfl) (by kernel_rfl) (fun _ _ _ h => h) ?yz14x4 (by assumption) ?rz14x4
            case hiz14x4 => (simp only [List.getElem?_toArray, List.getElem?_cons_succ, List.getElem?_cons_zero]; rfl)
            case yz14x4 => (refine Or.inl ⟨by rfl, ?_⟩; intro w' hSw; (try dsimp only at hSw); go_simp; (try with_reducible rfl))
            try simp only [Act.put, List.setIfInBounds_toArray, List.set_cons_zero, List.set_cons_succ]
            refine wpAnyH_take (i := 5) (oi := ?oz14x5) (v := ?vz14x5) ?hiz14x5 (by kernel_rfl) (by kernel_rfl) (by kernel_rfl) (fun _ _ _ h => h) ?yz14x5 (by assumption) ?rz14x5
            case hiz14x5 => (simp only [List.getElem?_toArray, List.getElem?_cons_succ, List.getElem?_cons_zero]; rfl)
            case yz14x5 => (refine Or.inl ⟨by rfl, ?_⟩; intro w' hSw; (try dsimp only at hSw); go_simp; (try with_reducible rfl))
            try simp only [Act.put, List.setIfInBounds_toArray, List.set_cons_zero, List.set_cons_succ]
            refine wpAnyH_take (i := 6) (oi := ?oz14x6) (v := ?vz14x6) ?hiz14x6 (by kernel_rfl) (by kernel_rfl) (by kernel_rfl) (fun _ _ _ h => h) ?yz14x6 (by assumption) ?rz14x6
            case hiz14x6 => (simp only [List.getElem?_toArray, List.getElem?_cons_succ, List.getElem?_cons_zero]; rfl)
            case yz14x6 => (refine Or.inl ⟨by rfl, ?_⟩; intro w' hSw; (try dsimp only at hSw); go_simp; (try with_reducible rfl))
            try simp only [Act.put, List.setIfInBounds_toArray, List.set_cons_zero, List.set_cons_succ]
            refine wpAnyH_take (i := 7) (oi := ?oz14x7) (v := ?vz14x7) ?hiz14x7 (by kernel_rfl) (by kernel_rfl) (by kernel_rfl) (fun _ _ _ h => h) ?yz14x7 (by assumption) ?rz14x7
            case hiz14x7 => (simp only [List.getElem?_toArray, List.getElem?_cons_succ, List.getElem?_cons_zero]; rfl)
            case yz14x7 => (refine Or.inl ⟨by rfl, ?_⟩; intro w' hSw; (try dsimp only at hSw); go_simp; (try with_reducible rfl))
            try simp only [Act.put, List.setIfInBounds_toArray, List.set_cons_zero, List.set_cons_succ]
            refine wpAnyH_take (i := 8) (oi := ?oz14x8) (v := ?vz14x8) ?hiz14x8 (by kernel_rfl) (by kernel_rfl) (by kernel_rfl) (fun _ _ _ h => h) ?yz14x8 (by assumption) ?rz14x8
            case hiz14x8 => (simp only [List.getElem?_toArray, List.getElem?_cons_succ, List.getElem?_cons_zero]; rfl)
            case yz14x8 => (refine Or.inl ⟨by rfl, ?_⟩; intro w' hSw; (try dsimp only at hSw); go_simp; (try with_reducible rfl))
            try simp only [Act.put, List.setIfInBounds_toArray, List.set_cons_zero, List.set_cons_succ]
            refine wpAnyH_take (i := 9) (oi := ?oz14x9) (v := ?vz14x9) ?hiz14x9 (by kernel_rfl) (by kernel_rfl) (by kernel_rfl) (fun _ _ _ h => h) ?yz14x9 (by assumption) ?rz14x9
            case hiz14x9 => (simp only [List.getElem?_toArray, List.getElem?_cons_succ, List.getElem?_cons_zero]; rfl)
            case yz14x9 => (refine Or.inl ⟨by rfl, ?_⟩; intro w' hSw; (try dsimp only at hSw); go_simp; (try with_reducible rfl))
            try simp only [Act.put, List.setIfInBounds_toArray, List.set_cons_zero, List.set_cons_succ]
            refine wpAnyH_take (i := 10) (oi := ?oz14x10) (v := ?vz14x10) ?hiz14x10 (by kernel_rfl) (by kernel_rfl) (by kernel_rfl) (fun _ _ _ h => h) ?yz14x10 (by assumption) ?rz14x10
            case hiz14x10 => (simp only [List.getElem?_toArray, List.getElem?_cons_succ, List.getElem?_cons_zero]; rfl)
            case yz14x10 => (refine Or.inl ⟨by rfl, ?_⟩; intro w' hSw; (try dsimp only at hSw); go_simp; (try with_reducible rfl))
            try simp only [Act.put, List.setIfInBounds_toArray, List.set_cons_zero, List.set_cons_succ]
            refine wpAnyH_take (i := 11) (oi := ?oz14x11) (v := ?vz14x11) ?hiz14x11 (by kernel_rfl) (by kernel_rfl) (by kernel_rfl) (fun _ _ _ h => h) ?yz14x11 (by assumption) ?rz14x11
            case hiz14x11 => (simp only [List.getElem?_toArray, List.getElem?_cons_succ, List.getElem?_cons_zero]; rfl)
            case yz14x11 => (refine Or.inl ⟨by rfl, ?_⟩; intro w' hSw; (try dsimp only at hSw); go_simp; (try with_reducible rfl))
            try simp only [Act.put, List.setIfInBounds_toArray, List.set_cons_zero, List.set_cons_succ]
            refine wpAnyH_take (i := 12) (oi := ?oz14x12) (v := ?vz14x12) ?hiz14x12 (by kernel_rfl) (by kernel_rfl) (by kernel_rfl) (fun _ _ _ h => h) ?yz14x12 (by assumption) ?rz14x12
            case hiz14x12 => (simp only [List.getElem?_toArray, List.getElem?_cons_succ, List.getElem?_cons_zero]; rfl)
            case yz14x12 => (refine Or.inl ⟨by rfl, ?_⟩; intro w' hSw; (try dsimp only at hSw); go_simp; (try with_reducible rfl))
            try simp only [Act.put, List.setIfInBounds_toArray, List.set_cons_zero, List.set_cons_succ]
            refine wpAnyH_take (i := 13) (oi := ?oz14x13) (v := ?vz14x13) ?hiz14x13 (by kernel_rfl) (by kernel_rfl) (by kernel_rfl) (fun _ _ _ h => h) ?yz14x13 (by assumption) ?rz14x13
            case hiz14x13 => (simp only [List.getElem?_toArray, List.getElem?_cons_succ, List.getElem?_cons_zero]; rfl)
            case yz14x13 => (refine Or.inl ⟨by rfl, ?_⟩; intro w' hSw; (try dsimp only at hSw); go_simp; (try with_reducible rfl))
            try simp only [Act.put, List.setIfInBounds_toArray, List.set_cons_zero, List.set_cons_succ]
            refine wpAnyH_take (i := 14) (oi := ?oz14x14) (v := ?vz14x14) ?hiz14x14 (by kernel_rfl) (by kernel_rfl) (by kernel_rfl) (fun _ _ _ h => h) ?yz14x14 (by assumption) ?rz14x14
            case hiz14x14 => (simp only [List.getElem?_toArray, List.getElem?_cons_succ, List.getElem?_cons_zero]; rfl)
            case yz14x14 => (refine Or.inl ⟨by rfl, ?_⟩; intro w' hSw; (try dsimp only at hSw); go_simp; (try with_reducible rfl))
            try simp only [Act.put, List.setIfInBounds_toArray, List.set_cons_zero, List.set_cons_succ]
            refine wpAnyH_take (i := 15) (oi := ?oz14x15) (v := ?vz14x15) ?hiz14x15 (by kernel_rfl) (by kernel_rfl) (by kernel_rfl) (fun _ _ _ h => h) ?yz14x15 (by assumption) ?rz14x15
            case hiz14x15 => (simp only [List.getElem?_toArray, List.getElem?_cons_succ, List.getElem?_cons_zero]; rfl)
            case yz14x15 => (refine Or.inl ⟨by rfl, ?_⟩; intro w' hSw; (try dsimp only at hSw); go_simp; (try with_reducible rfl))
            try simp only [Act.put, List.setIfInBounds_toArray, List.set_cons_zero, List.set_cons_succ]
            refine wpAnyH_take (i := 16) (oi := ?oz14x16) (v := ?vz14x16) ?hiz14x16 (by kernel_rfl) (by kernel_rfl) (by kernel_rfl) (fun _ _ _ h => h) ?yz14x16 (by assumption) ?rz14x16
            case hiz14x16 => (simp only [List.getElem?_toArray, List.getElem?_cons_succ, List.getElem?_cons_zero]; rfl)
            case yz14x16 => (refine Or.inl ⟨by rfl, ?_⟩; intro w' hSw; (try dsimp only at hSw); go_simp; (try with_reducible rfl))
            try simp only [Act.put, List.setIfInBounds_toArray, List.set_cons_zero, List.set_cons_succ]
            refine wpAnyH_done (by kernel_rfl) ?_ _
            refine NoPanic.normal ?_
            clear hHeld
            go_upto_region 16 with fail
            have h8 : k = 0 ∨ k = 1 ∨ k = 2 ∨ k = 3 ∨ k = 4 ∨ k = 5 ∨ k = 6 ∨ k = 7 := by omega
            clear c0 c13 qe
            rcases h8 with rfl | rfl | rfl | rfl | rfl | rfl | rfl | rfl
            · go_wp2_with fail
              go_roundg g
              case measure => omega
              case rel => exact ⟨1, by omega, rfl, by rw [hs.out]; rfl, T0.out, U4.out, bel.out⟩
            · go_wp2_with fail
              go_roundg g
              case measure => omega
              case rel => exact ⟨2, by omega, rfl, by rw [hs.out]; rfl, T0.out, U4.out, bel.out⟩
            · go_wp2_with fail
              go_roundg g
              case measure => omega
              case rel => exact ⟨3, by omega, rfl, by rw [hs.out]; rfl, T0.out, U4.out, bel.out⟩
            · go_wp2_with fail
              go_roundg g
              case measure => omega
              case rel => exact ⟨4, by omega, rfl, by rw [hs.out]; rfl, T0.out, U4.out, bel.out⟩
            · go_wp2_with fail
              go_roundg g
              case measure => omega
              case rel => exact ⟨5, by omega, rfl, by rw [hs.out]; rfl, T0.out, U4.out, bel.out⟩
            · go_wp2_with fail
              go_roundg g
              case measure => omega
              case rel => exact ⟨6, by omega, rfl, by rw [hs.out]; rfl, T0.out, U4.out, bel.out⟩
            · go_wp2_with fail
              go_roundg g
              case measure => omega
              case rel => exact ⟨7, by omega, rfl, by rw [hs.out]; rfl, T0.out, U4.out, bel.out⟩
            · go_wp2_with fail
              go_roundg g
              case measure => omega
              case rel => exact ⟨8, by omega, rfl, by rw [hs.out]; rfl, T0.out, U4.out, bel.out⟩

end Elt
namespace LawElectAlone
open Go.ChangeShapes Go.WideShapes Go.ChangeAt Go.RowKit
open Go.ChangeMaps (open_string shut_string)

theorem own : ownKnob Try.prog.godebug = none := by kernel_rfl
theorem laidOut : laidOutB Try.prog = true := by kernel_rfl

set_option maxRecDepth 100000 in
theorem lifted (os : Os) (started : os.Started) (H : Type) (enc : TypeId × Value → H) :
    ReturnsInHanded {} Try.checked os 5 .any (Rows.electAloneSpec.pre6 enc Try.prog Try.f5 Rows.electAloneRow.domain false) (Rows.electAloneSpec.post enc Try.prog Try.f5 false true false false) := by
  refine Fr.law_lift (C := Try.checked) (tb := 4) own started (by kernel_rfl) Try.func5
    (ChangeSpec.witness6 (enc := enc) (C := Try.checked) false ⟨#[], #[.agg #[.int .u64 0, .int .i64 0, .int .i64 0, .int .i64 0, .int .i64 0, .int .u64 0, .int .u64 0, .int .u64 0, .int .i64 0, .int .i64 0, .int .i64 0, .int .i64 0, .int .i64 0, .int .i64 0, .bool false, .bool false, .bool false, .int .u64 0, .int .i64 0, .int .u64 0, .int .u64 0, .int .u64 0, .int .i64 0, .int .i64 0, .int .i64 0, .int .i64 0, .int .i64 0, .int .i64 0, .int .i64 0, .bool false, .bool false, .bool false, .bool false, .bool false, .bool false, .bool false, .bool false, .bool false, .int .i64 0, .int .i64 0, .int .i64 0, .int .i64 0, .int .i64 0, .int .i64 0, .int .i64 0, .bool false, .bool false, .bool false, .int .u64 0, .int .i64 0, .int .u64 0, .int .u64 0, .int .u64 0, .int .i64 0, .int .i64 0, .int .i64 0, .int .i64 0, .int .i64 0, .int .i64 0, .int .i64 0, .bool false, .bool false, .bool false, .bool false, .bool false, .bool false, .bool false, .bool false, .bool false, .int .i64 0, .int .i64 0, .int .i64 0, .int .i64 0, .int .i64 0, .int .i64 0, .int .i64 0, .bool false, .bool false, .bool false, .int .u64 0, .int .i64 0, .int .u64 0, .int .u64 0, .int .u64 0, .int .i64 0, .int .i64 0, .int .i64 0, .int .i64 0, .int .i64 0, .int .i64 0, .int .i64 0, .bool false, .bool false, .bool false, .bool false, .bool false, .bool false, .bool false, .bool false, .bool false, .int .i64 0, .int .i64 0, .int .i64 0, .int .i64 0, .int .i64 0, .int .i64 0, .int .i64 0, .bool false, .bool false, .bool false, .int .u64 0, .int .i64 0, .int .u64 0, .int .u64 0, .int .u64 0, .int .i64 0, .int .i64 0, .int .i64 0, .int .i64 0, .int .i64 0, .int .i64 0, .int .i64 0, .bool false, .bool false, .bool false, .bool false, .bool false, .bool false, .bool false, .bool false, .bool false, .int .i64 0, .int .i64 0, .int .i64 0, .int .i64 0, .int .i64 0, .int .i64 0, .int .i64 0, .bool false, .bool false, .bool false, .int .u64 0, .int .i64 0, .int .u64 0, .int .u64 0, .int .u64 0, .int .i64 0, .int .i64 0, .int .i64 0, .int .i64 0, .int .i64 0, .int .i64 0, .int .i64 0, .bool false, .bool false, .bool false, .bool false, .bool false, .bool false, .bool false, .bool false, .bool false, .int .i64 0, .int .i64 0, .int .i64 0, .int .i64 0, .int .i64 0, .int .i64 0, .int .i64 0, .bool false, .bool false, .bool false, .int .u64 0, .int .i64 0, .int .u64 0, .int .u64 0, .int .u64 0, .int .i64 0, .int .i64 0, .int .i64 0, .int .i64 0, .int .i64 0, .int .i64 0, .int .i64 0, .bool false, .bool false, .bool false, .bool false, .bool false, .bool false, .bool false, .bool false, .bool false, .int .i64 0, .int .i64 0, .int .i64 0, .int .i64 0, .int .i64 0, .int .i64 0, .int .i64 0, .bool false, .bool false, .bool false, .int .u64 0, .int .i64 0, .int .u64 0, .int .u64 0, .int .u64 0, .int .i64 0, .int .i64 0, .int .i64 0, .int .i64 0, .int .i64 0, .int .i64 0, .int .i64 0, .bool false, .bool false, .bool false, .bool false, .bool false, .bool false, .bool false, .bool false, .bool false, .int .i64 0, .int .i64 0, .int .i64 0, .int .i64 0, .int .i64 0, .int .i64 0, .int .i64 0, .bool false, .bool false, .bool false, .int .u64 0, .int .i64 0, .int .u64 0, .int .u64 0, .int .u64 0, .int .i64 0, .int .i64 0, .int .i64 0, .int .i64 0, .int .i64 0, .int .i64 0, .int .i64 0, .bool false, .bool false, .bool false, .bool false, .bool false, .bool false, .bool false, .bool false, .bool false, .int .i64 0, .int .i64 0, .int .i64 0, .int .i64 0, .int .i64 0, .int .i64 0, .int .i64 0]], []⟩ 8 (by kernel_rfl) (by kernel_rfl) (by kernel_rfl) (by kernel_rfl))
    laidOut (by rw [Try.params5]; decide +kernel) rfl Try.underlying4 rfl ?_ ?_
  · intro ds hl
    match ds, hl with
    | [d0], _ => rfl
  · intro W base args ds p hval hA
    rw [Try.params5] at hA hval
    obtain ⟨v0, vs0, d0, ds0, p0, q0, hargs, rfl, rfl, h0, r0⟩ := trodAll_cons hA
    obtain ⟨rfl, rfl, rfl⟩ := trodAll_nil r0
    obtain rfl : args = #[v0] := by cases args; simp_all
    obtain ⟨x0, rfl⟩ := Tre.open_td (hval 0 31 v0 rfl rfl) h0
    exact Elt.walk_alone W x0

theorem over : Rows.electAloneRow.holds Try.pinned (OpenSpec.ofChange Rows.electAloneSpec) :=
  OpenClaim.holds_of_wide 5 Try.f5 rfl rfl rfl rfl rfl rfl rfl ⟨rfl, rfl, rfl, rfl, rfl⟩ rfl rfl rfl rfl rfl (by kernel_rfl) Try.func5 (by kernel_rfl)
    (of_decide_eq_true (by kernel_rfl)) (by unfold Func.isWrapper; first | (rw [if_pos (by decide +kernel)]; kernel_rfl) | (rw [if_neg (by decide +kernel)]; exact ⟨rfl, rfl⟩))
    (fun os started H enc _ => lifted os started H enc)
end LawElectAlone

/-- The statement ElectAlone. -/
theorem electAlone_holds : Rows.ElectAloneSaid := LawElectAlone.over

end Go.Proofs.Ytlaahomkgaaciaa
