/-
  The statement ElectSays: for every bridge the law ElectSays returns true, and its argument reads afterwards as it read before.
-/
import Derived.Test.YtlaahomkgaaciaaEltG
import Derived.Test.YtlaahomkgaaciaaEltH
import Derived.Test.YtlaahomkgaaciaaEltJ
import Derived.Test.YtlaahomkgaaciaaEltE
import Derived.Test.YtlaahomkgaaciaaTreOpen
import Derived.Test.YtlaahomkgaaciaaFrame
import Derived.Test.YtlaahomkgaaciaaRows
namespace Go.Proofs.Ytlaahomkgaaciaa
open Go.RowKit
namespace Elt
open Pre Crd Tre

theorem part_i8 (g : Nat → Int) (i : Nat) (hi : i < 8) (w : World) : (part 3 (i8 g).toArray i).run Try.prog w = .ok (.int .i64 (g i)) w := by
  have hag : (isAgg 3).run Try.prog w = .ok false w := by
    unfold isAgg
    rw [Sem.run_bind, run_underlying Try.underlying3 w]
    rfl
  have h := i8_get g i hi
  simp only [part, Sem.run_bind, hag, Result.andThen_ok]
  simp [h]

theorem items_i8 (g : Nat → Int) (w : World) : ∀ is : List Nat, (∀ i ∈ is, i < 8) → (Op.eqItems 9999 3 1 (i8 g).toArray (i8 g).toArray is).run Try.prog w = .ok true w
  | [], _ => by simp [Op.eqItems]
  | i :: is, h => by
    have he : ∀ x : Int, (Op.equalIn 9999 3 (.int .i64 x) (.int .i64 x)).run Try.prog w = .ok (x == x) w := fun x => run_equalIn_int w 9998 3 .i64 .i64 x x Try.underlying3
    simp only [Op.eqItems, Sem.run_bind, Nat.mul_one, part_i8 g i (h i (by simp)), he, Result.andThen_ok]
    simpa using items_i8 g w is (fun j hj => h j (by simp [hj]))

theorem i8self_at (g : Nat → Int) (w : World) : (binOp .eql 34 (i8v g) (i8v g)).run Try.prog w = .ok (.bool true) w := by
  have hn : (Try.prog.info? 3).isSome = true := by kernel_rfl
  obtain ⟨i, hi⟩ := Option.isSome_iff_exists.1 hn
  rw [run_eql_struct, run_equalIn_array w 9999 (n := 8) (e := 3) _ _ i8_under hi, show Try.prog.cellsOf 3 = 1 by kernel_rfl, items_i8 g w _ (fun j hj => List.mem_range.1 hj)]
  rfl

theorem i8guard_at (op : BinOp) (a b : Operand) (g g' : Nat → Int) (w : World) : Sem.run Try.prog (eqGuard op 34 a b (i8v g) (i8v g')) w = .ok () w :=
  run_eqGuard_agg w op 34 a b _ _ (by kernel_rfl)

set_option maxRecDepth 40000 in
set_option maxHeartbeats 8000000 in
theorem walk_says (w : World) (x : Td) : Calls Try.prog 3 #[tdv x] w fun e w' => e = .returned (.bool true) ∧ Below w.heap.size w w' := by
  have HR := Lib.hid (root_any x)
  have HR2 := Lib.hid (rroot_any x)
  have HL := Lib.hid (roles_any x)
  have HL2 := Lib.hid (rroles_any x)
  have HE := Lib.hid (elect_any x)
  have HE2 := Lib.hid (relect_any x)
  have HC := Lib.hid (active_any x)
  have HC2 := Lib.hid (ractive_any x)
  have HW := Lib.hid awake_any
  generalize rootR x = r at *
  generalize roleN x r = q at *
  generalize eleT x = y at *
  generalize actI x 8 = z at *
  have hv := fun w => (veql_at r.v r.v w).trans (by rw [decide_eq_true rfl])
  have ht := fun w => (teql_at r.t r.t w).trans (by rw [decide_eq_true rfl])
  have hvg := fun op a b w => vguard_at op a b r.v r.v w
  have htg := fun op a b w => Crd.tguard_at op a b r.t r.t w
  have hq := fun w => i8self_at q w
  have hqg := fun op a b w => i8guard_at op a b q q w
  have hy := fun w => tself_at y w
  have hyg := fun op a b w => Tre.tguard_at op a b y y w
  have hp : (r.p == r.p) = true := by simp
  have hz : (z == z) = true := by simp
  have T0 : Hid (Bx.Fre (w.alloc (tdo x)) w.heap.size (tdl x)) := Lib.hid (Bx.Fre.new w (tdl x) 31)
  have bel := Lib.hid (Bx.box_below w (tdo x))
  go_enter Try.func3, Try.ntmps3
  go_wp2_with (first | ((with_reducible refine td_load ?_ ?_ (w.heap.size) ?_ x ?_ ?_); (· rfl); (· rfl); (· rfl); (· exact T0.out.blk)) | ((with_reducible refine cs_load ?_ ?_ (w.heap.size) ?_ x ?_ ?_); (· rfl); (· rfl); (· rfl); (· exact T0.out.blk)))
  refine (HR.out _).mono ?_; rintro e w1 ⟨rfl, hb⟩
  replace T0 := Lib.hid (T0.out.keep hb)
  replace bel := Lib.hid (Bx.then_below bel.out hb)
  clear hb
  have h3 : w.heap.size < w1.heap.size := T0.out.2.1
  replace T0 := Lib.hid (T0.out.more (vo r.v))
  have A3 : Hid (Bx.Fre (w1.alloc (vo r.v)) w1.heap.size (enc r.v)) := Lib.hid (Bx.Fre.new w1 (enc r.v) 26)
  replace bel := Lib.hid (Bx.bel_box bel.out (vo r.v))
  replace T0 := Lib.hid (T0.out.more (tmo r.t))
  replace A3 := Lib.hid (A3.out.more (tmo r.t))
  have A4 : Hid (Bx.Fre ((w1.alloc (vo r.v)).alloc (tmo r.t)) (w1.heap.size + 1) (tenc r.t)) := Lib.hid (Bx.Fre.new_at (W := (w1.alloc (vo r.v))) (k := w1.heap.size + 1) (tenc r.t) 24 (by simp))
  replace bel := Lib.hid (Bx.bel_box bel.out (tmo r.t))
  go_wp2_with (first | ((with_reducible refine td_load ?_ ?_ (w.heap.size) ?_ x ?_ ?_); (· rfl); (· rfl); (· rfl); (· exact T0.out.blk)) | ((with_reducible refine cs_load ?_ ?_ (w.heap.size) ?_ x ?_ ?_); (· rfl); (· rfl); (· rfl); (· exact T0.out.blk)))
  obtain ⟨k3, hk3⟩ : ∃ k, k = w1.heap.size := ⟨_, rfl⟩
  rw [← hk3] at A3 A4 h3 ⊢
  clear hk3
  refine (HR2.out _).mono ?_; rintro e w2 ⟨rfl, hb⟩
  replace T0 := Lib.hid (T0.out.keep hb)
  replace A3 := Lib.hid (A3.out.keep hb)
  replace A4 := Lib.hid (A4.out.keep hb)
  replace bel := Lib.hid (Bx.then_below bel.out hb)
  clear hb
  have h6 : k3 + 1 < w2.heap.size := A4.out.2.1
  replace T0 := Lib.hid (T0.out.more (vo r.v))
  replace A3 := Lib.hid (A3.out.more (vo r.v))
  replace A4 := Lib.hid (A4.out.more (vo r.v))
  have B6 : Hid (Bx.Fre (w2.alloc (vo r.v)) w2.heap.size (enc r.v)) := Lib.hid (Bx.Fre.new w2 (enc r.v) 26)
  replace bel := Lib.hid (Bx.bel_box bel.out (vo r.v))
  replace T0 := Lib.hid (T0.out.more (tmo r.t))
  replace A3 := Lib.hid (A3.out.more (tmo r.t))
  replace A4 := Lib.hid (A4.out.more (tmo r.t))
  replace B6 := Lib.hid (B6.out.more (tmo r.t))
  have B7 : Hid (Bx.Fre ((w2.alloc (vo r.v)).alloc (tmo r.t)) (w2.heap.size + 1) (tenc r.t)) := Lib.hid (Bx.Fre.new_at (W := (w2.alloc (vo r.v))) (k := w2.heap.size + 1) (tenc r.t) 24 (by simp))
  replace bel := Lib.hid (Bx.bel_box bel.out (tmo r.t))
  go_upto_region 3 with fail
  obtain ⟨k6, hk6⟩ : ∃ k, k = w2.heap.size := ⟨_, rfl⟩
  rw [← hk6] at B6 B7 h6 ⊢
  generalize ((w2.alloc (vo r.v)).alloc (tmo r.t)) = W4 at *
  clear hk6
  refine wp_region_noPanic ?_
  refine wp_region_held_drew (S := fun w' => Bx.Blk w' w.heap.size (tdl x) ∧ w'.cell? ⟨k3, 0, none⟩ = some (.int .u64 r.v.r) ∧ w'.cell? ⟨k3, 1, none⟩ = some (.int .u64 r.v.c) ∧ w'.cell? ⟨k3, 2, none⟩ = some (.int .u64 r.v.b) ∧ w'.cell? ⟨k3, 3, none⟩ = some (.int .i64 r.v.p) ∧ w'.cell? ⟨(k3 + 1), 0, none⟩ = some (.int .i64 r.t.a) ∧ w'.cell? ⟨(k3 + 1), 1, none⟩ = some (.int .i64 r.t.m) ∧ w'.cell? ⟨(k3 + 1), 2, none⟩ = some (.int .i64 r.t.h) ∧ w'.cell? ⟨(k3 + 1), 3, none⟩ = some (.int .i64 r.t.d) ∧ w'.cell? ⟨k6, 0, none⟩ = some (.int .u64 r.v.r) ∧ w'.cell? ⟨k6, 1, none⟩ = some (.int .u64 r.v.c) ∧ w'.cell? ⟨k6, 2, none⟩ = some (.int .u64 r.v.b) ∧ w'.cell? ⟨k6, 3, none⟩ = some (.int .i64 r.v.p) ∧ w'.cell? ⟨(k6 + 1), 0, none⟩ = some (.int .i64 r.t.a) ∧ w'.cell? ⟨(k6 + 1), 1, none⟩ = some (.int .i64 r.t.m) ∧ w'.cell? ⟨(k6 + 1), 2, none⟩ = some (.int .i64 r.t.h) ∧ w'.cell? ⟨(k6 + 1), 3, none⟩ = some (.int .i64 r.t.d)) (by kernel_rfl) (by exact ⟨T0.out.blk, A3.out.at 0 rfl, A3.out.at 1 rfl, A3.out.at 2 rfl, A3.out.at 3 rfl, A4.out.at 0 rfl, A4.out.at 1 rfl, A4.out.at 2 rfl, A4.out.at 3 rfl, B6.out.at 0 rfl, B6.out.at 1 rfl, B6.out.at 2 rfl, B6.out.at 3 rfl, B7.out.at 0 rfl, B7.out.at 1 rfl, B7.out.at 2 rfl, B7.out.at 3 rfl⟩) (fun hHeld => ?_)
  replace bel := Lib.hid (Bx.bel_drewn bel.out)
  refine wpAnyH_take (i := 0) (oi := ?oz1x0) (v := ?vz1x0) ?hiz1x0 (by kernel_rfl) (by kernel_rfl) (by kernel_rfl) (fun _ _ _ h => h) ?yz1x0 (by assumption) ?rz1x0
  case hiz1x0 => (simp only [List.getElem?_toArray, List.getElem?_cons_zero]; rfl)
  case yz1x0 => (refine Or.inl ⟨by rfl, ?_⟩; intro w' hSw; (try dsimp only at hSw); go_simp; (try with_reducible rfl))
  try simp only [Act.put, List.setIfInBounds_toArray, List.set_cons_zero, List.set_cons_succ]
  refine wpAnyH_take (i := 1) (oi := ?oz1x1) (v := ?vz1x1) ?hiz1x1 (by kernel_rfl) (by kernel_rfl) (by kernel_rfl) (fun _ _ _ h => h) ?yz1x1 (by assumption) ?rz1x1
  case hiz1x1 => (simp only [List.getElem?_toArray, List.getElem?_cons_succ, List.getElem?_cons_zero]; rfl)
  case yz1x1 => (refine Or.inl ⟨by rfl, ?_⟩; intro w' hSw; (try dsimp only at hSw); go_simp; (try with_reducible rfl))
  try simp only [Act.put, List.setIfInBounds_toArray, List.set_cons_zero, List.set_cons_succ]
  refine wpAnyH_take (i := 2) (oi := ?oz1x2) (v := ?vz1x2) ?hiz1x2 (by kernel_rfl) (by kernel_rfl) (by kernel_rfl) (fun _ _ _ h => h) ?yz1x2 (by assumption) ?rz1x2
  case hiz1x2 => (simp only [List.getElem?_toArray, List.getElem?_cons_succ, List.getElem?_cons_zero]; rfl)
  case yz1x2 => (refine Or.inl ⟨by rfl, ?_⟩; intro w' hSw; (try dsimp only at hSw); go_simp; (try with_reducible rfl))
  try simp only [Act.put, List.setIfInBounds_toArray, List.set_cons_zero, List.set_cons_succ]
  refine wpAnyH_take (i := 3) (oi := ?oz1x3) (v := ?vz1x3) ?hiz1x3 (by kernel_rfl) (by kernel_rfl) (by kernel_rfl) (fun _ _ _ h => h) ?yz1x3 (by assumption) ?rz1x3
  case hiz1x3 => (simp only [List.getElem?_toArray, List.getElem?_cons_succ, List.getElem?_cons_zero]; rfl)
  case yz1x3 => (refine Or.inl ⟨by rfl, ?_⟩; intro w' hSw; (try dsimp only at hSw); go_simp; (try with_reducible rfl))
  try simp only [Act.put, List.setIfInBounds_toArray, List.set_cons_zero, List.set_cons_succ]
  refine wpAnyH_take (i := 4) (oi := ?oz1x4) (v := ?vz1x4) ?hiz1x4 (by kernel_rfl) (by kernel_rfl) (by kernel_rfl) (fun _ _ _ h => h) ?yz1x4 (by assumption) ?rz1x4
  case hiz1x4 => (simp only [List.getElem?_toArray, List.getElem?_cons_succ, List.getElem?_cons_zero]; rfl)
  case yz1x4 => (refine Or.inl ⟨by rfl, ?_⟩; intro w' hSw; (try dsimp only at hSw); go_simp; (try with_reducible rfl))
  try simp only [Act.put, List.setIfInBounds_toArray, List.set_cons_zero, List.set_cons_succ]
  refine wpAnyH_take (i := 5) (oi := ?oz1x5) (v := ?vz1x5) ?hiz1x5 (by kernel_rfl) (by kernel_rfl) (by kernel_rfl) (fun _ _ _ h => h) ?yz1x5 (by assumption) ?rz1x5
  case hiz1x5 => (simp only [List.getElem?_toArray, List.getElem?_cons_succ, List.getElem?_cons_zero]; rfl)
  case yz1x5 => (refine Or.inl ⟨by rfl, ?_⟩; intro w' hSw; (try dsimp only at hSw); go_simp; (try with_reducible rfl))
  try simp only [Act.put, List.setIfInBounds_toArray, List.set_cons_zero, List.set_cons_succ]
  refine wpAnyH_take (i := 6) (oi := ?oz1x6) (v := ?vz1x6) ?hiz1x6 (by kernel_rfl) (by kernel_rfl) (by kernel_rfl) (fun _ _ _ h => h) ?yz1x6 (by assumption) ?rz1x6
  case hiz1x6 => (simp only [List.getElem?_toArray, List.getElem?_cons_succ, List.getElem?_cons_zero]; rfl)
  case yz1x6 => (refine Or.inl ⟨by rfl, ?_⟩; intro w' hSw; (try dsimp only at hSw); go_simp; (try with_reducible rfl))
  try simp only [Act.put, List.setIfInBounds_toArray, List.set_cons_zero, List.set_cons_succ]
  refine wpAnyH_take (i := 7) (oi := ?oz1x7) (v := ?vz1x7) ?hiz1x7 (by kernel_rfl) (by kernel_rfl) (by kernel_rfl) (fun _ _ _ h => h) ?yz1x7 (by assumption) ?rz1x7
  case hiz1x7 => (simp only [List.getElem?_toArray, List.getElem?_cons_succ, List.getElem?_cons_zero]; rfl)
  case yz1x7 => (refine Or.inl ⟨by rfl, ?_⟩; intro w' hSw; (try dsimp only at hSw); go_simp; (try with_reducible rfl))
  try simp only [Act.put, List.setIfInBounds_toArray, List.set_cons_zero, List.set_cons_succ]
  refine wpAnyH_take (i := 8) (oi := ?oz1x8) (v := ?vz1x8) ?hiz1x8 (by kernel_rfl) (by kernel_rfl) (by kernel_rfl) (fun _ _ _ h => h) ?yz1x8 (by assumption) ?rz1x8
  case hiz1x8 => (simp only [List.getElem?_toArray, List.getElem?_cons_succ, List.getElem?_cons_zero]; rfl)
  case yz1x8 => (refine Or.inl ⟨by rfl, ?_⟩; intro w' hSw; (try dsimp only at hSw); go_simp; (try with_reducible rfl))
  try simp only [Act.put, List.setIfInBounds_toArray, List.set_cons_zero, List.set_cons_succ]
  refine wpAnyH_take (i := 9) (oi := ?oz1x9) (v := ?vz1x9) ?hiz1x9 (by kernel_rfl) (by kernel_rfl) (by kernel_rfl) (fun _ _ _ h => h) ?yz1x9 (by assumption) ?rz1x9
  case hiz1x9 => (simp only [List.getElem?_toArray, List.getElem?_cons_succ, List.getElem?_cons_zero]; rfl)
  case yz1x9 => (refine Or.inl ⟨by rfl, ?_⟩; intro w' hSw; (try dsimp only at hSw); go_simp; (try with_reducible rfl))
  try simp only [Act.put, List.setIfInBounds_toArray, List.set_cons_zero, List.set_cons_succ]
  refine wpAnyH_take (i := 10) (oi := ?oz1x10) (v := ?vz1x10) ?hiz1x10 (by kernel_rfl) (by kernel_rfl) (by kernel_rfl) (fun _ _ _ h => h) ?yz1x10 (by assumption) ?rz1x10
  case hiz1x10 => (simp only [List.getElem?_toArray, List.getElem?_cons_succ, List.getElem?_cons_zero]; rfl)
  case yz1x10 => (refine Or.inl ⟨by rfl, ?_⟩; intro w' hSw; (try dsimp only at hSw); go_simp; (try with_reducible rfl))
  try simp only [Act.put, List.setIfInBounds_toArray, List.set_cons_zero, List.set_cons_succ]
  refine wpAnyH_take (i := 11) (oi := ?oz1x11) (v := ?vz1x11) ?hiz1x11 (by kernel_rfl) (by kernel_rfl) (by kernel_rfl) (fun _ _ _ h => h) ?yz1x11 (by assumption) ?rz1x11
  case hiz1x11 => (simp only [List.getElem?_toArray, List.getElem?_cons_succ, List.getElem?_cons_zero]; rfl)
  case yz1x11 => (refine Or.inl ⟨by rfl, ?_⟩; intro w' hSw; (try dsimp only at hSw); go_simp; (try with_reducible rfl))
  try simp only [Act.put, List.setIfInBounds_toArray, List.set_cons_zero, List.set_cons_succ]
  refine wpAnyH_take (i := 12) (oi := ?oz1x12) (v := ?vz1x12) ?hiz1x12 (by kernel_rfl) (by kernel_rfl) (by kernel_rfl) (fun _ _ _ h => h) ?yz1x12 (by assumption) ?rz1x12
  case hiz1x12 => (simp only [List.getElem?_toArray, List.getElem?_cons_succ, List.getElem?_cons_zero]; rfl)
  case yz1x12 => (refine Or.inl ⟨by rfl, ?_⟩; intro w' hSw; (try dsimp only at hSw); go_simp; (try with_reducible rfl))
  try simp only [Act.put, List.setIfInBounds_toArray, List.set_cons_zero, List.set_cons_succ]
  refine wpAnyH_take (i := 13) (oi := ?oz1x13) (v := ?vz1x13) ?hiz1x13 (by kernel_rfl) (by kernel_rfl) (by kernel_rfl) (fun _ _ _ h => h) ?yz1x13 (by assumption) ?rz1x13
  case hiz1x13 => (simp only [List.getElem?_toArray, List.getElem?_cons_succ, List.getElem?_cons_zero]; rfl)
  case yz1x13 => (refine Or.inl ⟨by rfl, ?_⟩; intro w' hSw; (try dsimp only at hSw); go_simp; (try with_reducible rfl))
  try simp only [Act.put, List.setIfInBounds_toArray, List.set_cons_zero, List.set_cons_succ]
  refine wpAnyH_take (i := 14) (oi := ?oz1x14) (v := tdv x) ?hiz1x14 (by kernel_rfl) (by kernel_rfl) (by kernel_rfl) (fun _ _ _ h => h) ?yz1x14 (by assumption) ?rz1x14
  case hiz1x14 => (simp only [List.getElem?_toArray, List.getElem?_cons_succ, List.getElem?_cons_zero]; rfl)
  case yz1x14 => (refine td_yields rfl rfl (w.heap.size) rfl x ?_; intro w' hS; exact hS.1)
  try simp only [Act.put, List.setIfInBounds_toArray, List.set_cons_zero, List.set_cons_succ]
  refine wpAnyH_take (i := 16) (oi := ?oz1x16) (v := tdv x) ?hiz1x16 (by kernel_rfl) (by kernel_rfl) (by kernel_rfl) (fun _ _ _ h => h) ?yz1x16 (by assumption) ?rz1x16
  case hiz1x16 => (simp only [List.getElem?_toArray, List.getElem?_cons_succ, List.getElem?_cons_zero]; rfl)
  case yz1x16 => (refine td_yields rfl rfl (w.heap.size) rfl x ?_; intro w' hS; exact hS.1)
  try simp only [Act.put, List.setIfInBounds_toArray, List.set_cons_zero, List.set_cons_succ]
  refine wpAnyH_ready (rs := [15]) (by kernel_rfl) (by simp) ?_
  refine AllReadyH.cons (o := ?oz1x15) ?hiz1x15 ?hstz1x15 AllReadyH.nil
  case hiz1x15 => (simp only [List.getElem?_toArray, List.getElem?_cons_succ, List.getElem?_cons_zero]; rfl)
  intro K hK
  go_simp
  (go_at_call 8; (with_reducible refine (HL.out _).mono ?_); rintro e w11 ⟨rfl, hb11⟩)
  go_wp2_with fail
  refine hK.out _ _ ⟨Bx.Blk.keep hHeld.1 hb11, Bx.keep_cell hb11 hHeld.2.1, Bx.keep_cell hb11 hHeld.2.2.1, Bx.keep_cell hb11 hHeld.2.2.2.1, Bx.keep_cell hb11 hHeld.2.2.2.2.1, Bx.keep_cell hb11 hHeld.2.2.2.2.2.1, Bx.keep_cell hb11 hHeld.2.2.2.2.2.2.1, Bx.keep_cell hb11 hHeld.2.2.2.2.2.2.2.1, Bx.keep_cell hb11 hHeld.2.2.2.2.2.2.2.2.1, Bx.keep_cell hb11 hHeld.2.2.2.2.2.2.2.2.2.1, Bx.keep_cell hb11 hHeld.2.2.2.2.2.2.2.2.2.2.1, Bx.keep_cell hb11 hHeld.2.2.2.2.2.2.2.2.2.2.2.1, Bx.keep_cell hb11 hHeld.2.2.2.2.2.2.2.2.2.2.2.2.1, Bx.keep_cell hb11 hHeld.2.2.2.2.2.2.2.2.2.2.2.2.2.1, Bx.keep_cell hb11 hHeld.2.2.2.2.2.2.2.2.2.2.2.2.2.2.1, Bx.keep_cell hb11 hHeld.2.2.2.2.2.2.2.2.2.2.2.2.2.2.2.1, Bx.keep_cell hb11 hHeld.2.2.2.2.2.2.2.2.2.2.2.2.2.2.2.2⟩ (fun hNew => ?_)
  clear hHeld
  have hHeld := hNew
  clear hNew hK K
  replace bel := Lib.hid (Bx.then_below bel.out hb11)
  clear hb11
  refine wpAnyH_ready (rs := [17]) (by kernel_rfl) (by simp) ?_
  refine AllReadyH.cons (o := ?oz1x17) ?hiz1x17 ?hstz1x17 AllReadyH.nil
  case hiz1x17 => (simp only [List.getElem?_toArray, List.getElem?_cons_succ, List.getElem?_cons_zero]; rfl)
  intro K hK
  go_simp
  (go_at_call 9; (with_reducible refine (HL2.out _).mono ?_); rintro e w12 ⟨rfl, hb12⟩)
  go_wp2_with fail
  refine hK.out _ _ ⟨Bx.Blk.keep hHeld.1 hb12, Bx.keep_cell hb12 hHeld.2.1, Bx.keep_cell hb12 hHeld.2.2.1, Bx.keep_cell hb12 hHeld.2.2.2.1, Bx.keep_cell hb12 hHeld.2.2.2.2.1, Bx.keep_cell hb12 hHeld.2.2.2.2.2.1, Bx.keep_cell hb12 hHeld.2.2.2.2.2.2.1, Bx.keep_cell hb12 hHeld.2.2.2.2.2.2.2.1, Bx.keep_cell hb12 hHeld.2.2.2.2.2.2.2.2.1, Bx.keep_cell hb12 hHeld.2.2.2.2.2.2.2.2.2.1, Bx.keep_cell hb12 hHeld.2.2.2.2.2.2.2.2.2.2.1, Bx.keep_cell hb12 hHeld.2.2.2.2.2.2.2.2.2.2.2.1, Bx.keep_cell hb12 hHeld.2.2.2.2.2.2.2.2.2.2.2.2.1, Bx.keep_cell hb12 hHeld.2.2.2.2.2.2.2.2.2.2.2.2.2.1, Bx.keep_cell hb12 hHeld.2.2.2.2.2.2.2.2.2.2.2.2.2.2.1, Bx.keep_cell hb12 hHeld.2.2.2.2.2.2.2.2.2.2.2.2.2.2.2.1, Bx.keep_cell hb12 hHeld.2.2.2.2.2.2.2.2.2.2.2.2.2.2.2.2⟩ (fun hNew => ?_)
  clear hHeld
  have hHeld := hNew
  clear hNew hK K
  replace bel := Lib.hid (Bx.then_below bel.out hb12)
  clear hb12
  refine wpAnyH_take (i := 18) (oi := ?oz1x18) (v := ?vz1x18) ?hiz1x18 (by kernel_rfl) (by kernel_rfl) (by kernel_rfl) (fun _ _ _ h => h) ?yz1x18 (by assumption) ?rz1x18
  case hiz1x18 => (simp only [List.getElem?_toArray, List.getElem?_cons_succ, List.getElem?_cons_zero]; rfl)
  case yz1x18 => (refine Or.inl ⟨by rfl, ?_⟩; intro w' hSw; (try dsimp only at hSw); go_simp; (try with_reducible rfl))
  try simp only [Act.put, List.setIfInBounds_toArray, List.set_cons_zero, List.set_cons_succ]
  refine wpAnyH_take (i := 19) (oi := ?oz1x19) (v := ?vz1x19) ?hiz1x19 (by kernel_rfl) (by kernel_rfl) (by kernel_rfl) (fun _ _ _ h => h) ?yz1x19 (by assumption) ?rz1x19
  case hiz1x19 => (simp only [List.getElem?_toArray, List.getElem?_cons_succ, List.getElem?_cons_zero]; rfl)
  case yz1x19 => (refine Or.inl ⟨by rfl, ?_⟩; intro w' hSw; (try dsimp only at hSw); go_simp; (try with_reducible rfl))
  try simp only [Act.put, List.setIfInBounds_toArray, List.set_cons_zero, List.set_cons_succ]
  refine wpAnyH_take (i := 20) (oi := ?oz1x20) (v := ?vz1x20) ?hiz1x20 (by kernel_rfl) (by kernel_rfl) (by kernel_rfl) (fun _ _ _ h => h) ?yz1x20 (by assumption) ?rz1x20
  case hiz1x20 => (simp only [List.getElem?_toArray, List.getElem?_cons_succ, List.getElem?_cons_zero]; rfl)
  case yz1x20 => (refine Or.inl ⟨by rfl, ?_⟩; intro w' hSw; (try dsimp only at hSw); go_simp; (try with_reducible rfl))
  try simp only [Act.put, List.setIfInBounds_toArray, List.set_cons_zero, List.set_cons_succ]
  refine wpAnyH_take (i := 21) (oi := ?oz1x21) (v := tdv x) ?hiz1x21 (by kernel_rfl) (by kernel_rfl) (by kernel_rfl) (fun _ _ _ h => h) ?yz1x21 (by assumption) ?rz1x21
  case hiz1x21 => (simp only [List.getElem?_toArray, List.getElem?_cons_succ, List.getElem?_cons_zero]; rfl)
  case yz1x21 => (refine td_yields rfl rfl (w.heap.size) rfl x ?_; intro w' hS; exact hS.1)
  try simp only [Act.put, List.setIfInBounds_toArray, List.set_cons_zero, List.set_cons_succ]
  refine wpAnyH_take (i := 23) (oi := ?oz1x23) (v := tdv x) ?hiz1x23 (by kernel_rfl) (by kernel_rfl) (by kernel_rfl) (fun _ _ _ h => h) ?yz1x23 (by assumption) ?rz1x23
  case hiz1x23 => (simp only [List.getElem?_toArray, List.getElem?_cons_succ, List.getElem?_cons_zero]; rfl)
  case yz1x23 => (refine td_yields rfl rfl (w.heap.size) rfl x ?_; intro w' hS; exact hS.1)
  try simp only [Act.put, List.setIfInBounds_toArray, List.set_cons_zero, List.set_cons_succ]
  refine wpAnyH_ready (rs := [22]) (by kernel_rfl) (by simp) ?_
  refine AllReadyH.cons (o := ?oz1x22) ?hiz1x22 ?hstz1x22 AllReadyH.nil
  case hiz1x22 => (simp only [List.getElem?_toArray, List.getElem?_cons_succ, List.getElem?_cons_zero]; rfl)
  intro K hK
  go_simp
  (go_at_call 10; (with_reducible refine (HE.out _).mono ?_); rintro e w13 ⟨rfl, hb13⟩)
  go_wp2_with fail
  refine hK.out _ _ ⟨Bx.Blk.keep hHeld.1 hb13, Bx.keep_cell hb13 hHeld.2.1, Bx.keep_cell hb13 hHeld.2.2.1, Bx.keep_cell hb13 hHeld.2.2.2.1, Bx.keep_cell hb13 hHeld.2.2.2.2.1, Bx.keep_cell hb13 hHeld.2.2.2.2.2.1, Bx.keep_cell hb13 hHeld.2.2.2.2.2.2.1, Bx.keep_cell hb13 hHeld.2.2.2.2.2.2.2.1, Bx.keep_cell hb13 hHeld.2.2.2.2.2.2.2.2.1, Bx.keep_cell hb13 hHeld.2.2.2.2.2.2.2.2.2.1, Bx.keep_cell hb13 hHeld.2.2.2.2.2.2.2.2.2.2.1, Bx.keep_cell hb13 hHeld.2.2.2.2.2.2.2.2.2.2.2.1, Bx.keep_cell hb13 hHeld.2.2.2.2.2.2.2.2.2.2.2.2.1, Bx.keep_cell hb13 hHeld.2.2.2.2.2.2.2.2.2.2.2.2.2.1, Bx.keep_cell hb13 hHeld.2.2.2.2.2.2.2.2.2.2.2.2.2.2.1, Bx.keep_cell hb13 hHeld.2.2.2.2.2.2.2.2.2.2.2.2.2.2.2.1, Bx.keep_cell hb13 hHeld.2.2.2.2.2.2.2.2.2.2.2.2.2.2.2.2⟩ (fun hNew => ?_)
  clear hHeld
  have hHeld := hNew
  clear hNew hK K
  replace bel := Lib.hid (Bx.then_below bel.out hb13)
  clear hb13
  refine wpAnyH_ready (rs := [24]) (by kernel_rfl) (by simp) ?_
  refine AllReadyH.cons (o := ?oz1x24) ?hiz1x24 ?hstz1x24 AllReadyH.nil
  case hiz1x24 => (simp only [List.getElem?_toArray, List.getElem?_cons_succ, List.getElem?_cons_zero]; rfl)
  intro K hK
  go_simp
  (go_at_call 11; (with_reducible refine (HE2.out _).mono ?_); rintro e w14 ⟨rfl, hb14⟩)
  go_wp2_with fail
  refine hK.out _ _ ⟨Bx.Blk.keep hHeld.1 hb14, Bx.keep_cell hb14 hHeld.2.1, Bx.keep_cell hb14 hHeld.2.2.1, Bx.keep_cell hb14 hHeld.2.2.2.1, Bx.keep_cell hb14 hHeld.2.2.2.2.1, Bx.keep_cell hb14 hHeld.2.2.2.2.2.1, Bx.keep_cell hb14 hHeld.2.2.2.2.2.2.1, Bx.keep_cell hb14 hHeld.2.2.2.2.2.2.2.1, Bx.keep_cell hb14 hHeld.2.2.2.2.2.2.2.2.1, Bx.keep_cell hb14 hHeld.2.2.2.2.2.2.2.2.2.1, Bx.keep_cell hb14 hHeld.2.2.2.2.2.2.2.2.2.2.1, Bx.keep_cell hb14 hHeld.2.2.2.2.2.2.2.2.2.2.2.1, Bx.keep_cell hb14 hHeld.2.2.2.2.2.2.2.2.2.2.2.2.1, Bx.keep_cell hb14 hHeld.2.2.2.2.2.2.2.2.2.2.2.2.2.1, Bx.keep_cell hb14 hHeld.2.2.2.2.2.2.2.2.2.2.2.2.2.2.1, Bx.keep_cell hb14 hHeld.2.2.2.2.2.2.2.2.2.2.2.2.2.2.2.1, Bx.keep_cell hb14 hHeld.2.2.2.2.2.2.2.2.2.2.2.2.2.2.2.2⟩ (fun hNew => ?_)
  clear hHeld
  have hHeld := hNew
  clear hNew hK K
  replace bel := Lib.hid (Bx.then_below bel.out hb14)
  clear hb14
  refine wpAnyH_take (i := 25) (oi := ?oz1x25) (v := ?vz1x25) ?hiz1x25 (by kernel_rfl) (by kernel_rfl) (by kernel_rfl) (fun _ _ _ h => h) ?yz1x25 (by assumption) ?rz1x25
  case hiz1x25 => (simp only [List.getElem?_toArray, List.getElem?_cons_succ, List.getElem?_cons_zero]; rfl)
  case yz1x25 => (refine Or.inl ⟨by rfl, ?_⟩; intro w' hSw; (try dsimp only at hSw); go_simp; (try with_reducible rfl))
  try simp only [Act.put, List.setIfInBounds_toArray, List.set_cons_zero, List.set_cons_succ]
  refine wpAnyH_take (i := 26) (oi := ?oz1x26) (v := ?vz1x26) ?hiz1x26 (by kernel_rfl) (by kernel_rfl) (by kernel_rfl) (fun _ _ _ h => h) ?yz1x26 (by assumption) ?rz1x26
  case hiz1x26 => (simp only [List.getElem?_toArray, List.getElem?_cons_succ, List.getElem?_cons_zero]; rfl)
  case yz1x26 => (refine Or.inl ⟨by rfl, ?_⟩; intro w' hSw; (try dsimp only at hSw); go_simp; (try with_reducible rfl))
  try simp only [Act.put, List.setIfInBounds_toArray, List.set_cons_zero, List.set_cons_succ]
  refine wpAnyH_take (i := 27) (oi := ?oz1x27) (v := ?vz1x27) ?hiz1x27 (by kernel_rfl) (by kernel_rfl) (by kernel_rfl) (fun _ _ _ h => h) ?yz1x27 (by assumption) ?rz1x27
  case hiz1x27 => (simp only [List.getElem?_toArray, List.getElem?_cons_succ, List.getElem?_cons_zero]; rfl)
  case yz1x27 => (refine Or.inl ⟨by rfl, ?_⟩; intro w' hSw; (try dsimp only at hSw); go_simp; (try with_reducible rfl))
  try simp only [Act.put, List.setIfInBounds_toArray, List.set_cons_zero, List.set_cons_succ]
  refine wpAnyH_take (i := 28) (oi := ?oz1x28) (v := tdv x) ?hiz1x28 (by kernel_rfl) (by kernel_rfl) (by kernel_rfl) (fun _ _ _ h => h) ?yz1x28 (by assumption) ?rz1x28
  case hiz1x28 => (simp only [List.getElem?_toArray, List.getElem?_cons_succ, List.getElem?_cons_zero]; rfl)
  case yz1x28 => (refine td_yields rfl rfl (w.heap.size) rfl x ?_; intro w' hS; exact hS.1)
  try simp only [Act.put, List.setIfInBounds_toArray, List.set_cons_zero, List.set_cons_succ]
  refine wpAnyH_take (i := 30) (oi := ?oz1x30) (v := tdv x) ?hiz1x30 (by kernel_rfl) (by kernel_rfl) (by kernel_rfl) (fun _ _ _ h => h) ?yz1x30 (by assumption) ?rz1x30
  case hiz1x30 => (simp only [List.getElem?_toArray, List.getElem?_cons_succ, List.getElem?_cons_zero]; rfl)
  case yz1x30 => (refine td_yields rfl rfl (w.heap.size) rfl x ?_; intro w' hS; exact hS.1)
  try simp only [Act.put, List.setIfInBounds_toArray, List.set_cons_zero, List.set_cons_succ]
  refine wpAnyH_ready (rs := [29]) (by kernel_rfl) (by simp) ?_
  refine AllReadyH.cons (o := ?oz1x29) ?hiz1x29 ?hstz1x29 AllReadyH.nil
  case hiz1x29 => (simp only [List.getElem?_toArray, List.getElem?_cons_succ, List.getElem?_cons_zero]; rfl)
  intro K hK
  go_simp
  (go_at_call 12; (with_reducible refine (HC.out _).mono ?_); rintro e w15 ⟨rfl, hb15⟩)
  go_wp2_with fail
  refine hK.out _ _ ⟨Bx.Blk.keep hHeld.1 hb15, Bx.keep_cell hb15 hHeld.2.1, Bx.keep_cell hb15 hHeld.2.2.1, Bx.keep_cell hb15 hHeld.2.2.2.1, Bx.keep_cell hb15 hHeld.2.2.2.2.1, Bx.keep_cell hb15 hHeld.2.2.2.2.2.1, Bx.keep_cell hb15 hHeld.2.2.2.2.2.2.1, Bx.keep_cell hb15 hHeld.2.2.2.2.2.2.2.1, Bx.keep_cell hb15 hHeld.2.2.2.2.2.2.2.2.1, Bx.keep_cell hb15 hHeld.2.2.2.2.2.2.2.2.2.1, Bx.keep_cell hb15 hHeld.2.2.2.2.2.2.2.2.2.2.1, Bx.keep_cell hb15 hHeld.2.2.2.2.2.2.2.2.2.2.2.1, Bx.keep_cell hb15 hHeld.2.2.2.2.2.2.2.2.2.2.2.2.1, Bx.keep_cell hb15 hHeld.2.2.2.2.2.2.2.2.2.2.2.2.2.1, Bx.keep_cell hb15 hHeld.2.2.2.2.2.2.2.2.2.2.2.2.2.2.1, Bx.keep_cell hb15 hHeld.2.2.2.2.2.2.2.2.2.2.2.2.2.2.2.1, Bx.keep_cell hb15 hHeld.2.2.2.2.2.2.2.2.2.2.2.2.2.2.2.2⟩ (fun hNew => ?_)
  clear hHeld
  have hHeld := hNew
  clear hNew hK K
  replace bel := Lib.hid (Bx.then_below bel.out hb15)
  clear hb15
  refine wpAnyH_ready (rs := [31]) (by kernel_rfl) (by simp) ?_
  refine AllReadyH.cons (o := ?oz1x31) ?hiz1x31 ?hstz1x31 AllReadyH.nil
  case hiz1x31 => (simp only [List.getElem?_toArray, List.getElem?_cons_succ, List.getElem?_cons_zero]; rfl)
  intro K hK
  go_simp
  (go_at_call 13; (with_reducible refine (HC2.out _).mono ?_); rintro e w16 ⟨rfl, hb16⟩)
  go_wp2_with fail
  refine hK.out _ _ ⟨Bx.Blk.keep hHeld.1 hb16, Bx.keep_cell hb16 hHeld.2.1, Bx.keep_cell hb16 hHeld.2.2.1, Bx.keep_cell hb16 hHeld.2.2.2.1, Bx.keep_cell hb16 hHeld.2.2.2.2.1, Bx.keep_cell hb16 hHeld.2.2.2.2.2.1, Bx.keep_cell hb16 hHeld.2.2.2.2.2.2.1, Bx.keep_cell hb16 hHeld.2.2.2.2.2.2.2.1, Bx.keep_cell hb16 hHeld.2.2.2.2.2.2.2.2.1, Bx.keep_cell hb16 hHeld.2.2.2.2.2.2.2.2.2.1, Bx.keep_cell hb16 hHeld.2.2.2.2.2.2.2.2.2.2.1, Bx.keep_cell hb16 hHeld.2.2.2.2.2.2.2.2.2.2.2.1, Bx.keep_cell hb16 hHeld.2.2.2.2.2.2.2.2.2.2.2.2.1, Bx.keep_cell hb16 hHeld.2.2.2.2.2.2.2.2.2.2.2.2.2.1, Bx.keep_cell hb16 hHeld.2.2.2.2.2.2.2.2.2.2.2.2.2.2.1, Bx.keep_cell hb16 hHeld.2.2.2.2.2.2.2.2.2.2.2.2.2.2.2.1, Bx.keep_cell hb16 hHeld.2.2.2.2.2.2.2.2.2.2.2.2.2.2.2.2⟩ (fun hNew => ?_)
  clear hHeld
  have hHeld := hNew
  clear hNew hK K
  replace bel := Lib.hid (Bx.then_below bel.out hb16)
  clear hb16
  refine wpAnyH_take (i := 32) (oi := ?oz1x32) (v := ?vz1x32) ?hiz1x32 (by kernel_rfl) (by kernel_rfl) (by kernel_rfl) (fun _ _ _ h => h) ?yz1x32 (by assumption) ?rz1x32
  case hiz1x32 => (simp only [List.getElem?_toArray, List.getElem?_cons_succ, List.getElem?_cons_zero]; rfl)
  case yz1x32 => (refine Or.inl ⟨by rfl, ?_⟩; intro w' hSw; (try dsimp only at hSw); go_simp; (try with_reducible rfl))
  try simp only [Act.put, List.setIfInBounds_toArray, List.set_cons_zero, List.set_cons_succ]
  refine wpAnyH_take (i := 33) (oi := ?oz1x33) (v := ?vz1x33) ?hiz1x33 (by kernel_rfl) (by kernel_rfl) (by kernel_rfl) (fun _ _ _ h => h) ?yz1x33 (by assumption) ?rz1x33
  case hiz1x33 => (simp only [List.getElem?_toArray, List.getElem?_cons_succ, List.getElem?_cons_zero]; rfl)
  case yz1x33 => (refine Or.inl ⟨by rfl, ?_⟩; intro w' hSw; (try dsimp only at hSw); go_simp; (try with_reducible rfl))
  try simp only [Act.put, List.setIfInBounds_toArray, List.set_cons_zero, List.set_cons_succ]
  refine wpAnyH_take (i := 34) (oi := ?oz1x34) (v := ?vz1x34) ?hiz1x34 (by kernel_rfl) (by kernel_rfl) (by kernel_rfl) (fun _ _ _ h => h) ?yz1x34 (by assumption) ?rz1x34
  case hiz1x34 => (simp only [List.getElem?_toArray, List.getElem?_cons_succ, List.getElem?_cons_zero]; rfl)
  case yz1x34 => (refine Or.inl ⟨by rfl, ?_⟩; intro w' hSw; (try dsimp only at hSw); go_simp; (try with_reducible rfl))
  try simp only [Act.put, List.setIfInBounds_toArray, List.set_cons_zero, List.set_cons_succ]
  refine wpAnyH_ready (rs := [35]) (by kernel_rfl) (by simp) ?_
  refine AllReadyH.cons (o := ?oz1x35) ?hiz1x35 ?hstz1x35 AllReadyH.nil
  case hiz1x35 => (simp only [List.getElem?_toArray, List.getElem?_cons_succ, List.getElem?_cons_zero]; rfl)
  intro K hK
  go_simp
  (go_at_call 14; (with_reducible refine (HW.out _).mono ?_); rintro e w17 ⟨rfl, hb17⟩)
  go_wp2_with fail
  refine hK.out _ _ ⟨Bx.Blk.keep hHeld.1 hb17, Bx.keep_cell hb17 hHeld.2.1, Bx.keep_cell hb17 hHeld.2.2.1, Bx.keep_cell hb17 hHeld.2.2.2.1, Bx.keep_cell hb17 hHeld.2.2.2.2.1, Bx.keep_cell hb17 hHeld.2.2.2.2.2.1, Bx.keep_cell hb17 hHeld.2.2.2.2.2.2.1, Bx.keep_cell hb17 hHeld.2.2.2.2.2.2.2.1, Bx.keep_cell hb17 hHeld.2.2.2.2.2.2.2.2.1, Bx.keep_cell hb17 hHeld.2.2.2.2.2.2.2.2.2.1, Bx.keep_cell hb17 hHeld.2.2.2.2.2.2.2.2.2.2.1, Bx.keep_cell hb17 hHeld.2.2.2.2.2.2.2.2.2.2.2.1, Bx.keep_cell hb17 hHeld.2.2.2.2.2.2.2.2.2.2.2.2.1, Bx.keep_cell hb17 hHeld.2.2.2.2.2.2.2.2.2.2.2.2.2.1, Bx.keep_cell hb17 hHeld.2.2.2.2.2.2.2.2.2.2.2.2.2.2.1, Bx.keep_cell hb17 hHeld.2.2.2.2.2.2.2.2.2.2.2.2.2.2.2.1, Bx.keep_cell hb17 hHeld.2.2.2.2.2.2.2.2.2.2.2.2.2.2.2.2⟩ (fun hNew => ?_)
  clear hHeld
  have hHeld := hNew
  clear hNew hK K
  replace bel := Lib.hid (Bx.then_below bel.out hb17)
  clear hb17
  refine wpAnyH_take (i := 36) (oi := ?oz1x36) (v := ?vz1x36) ?hiz1x36 (by kernel_rfl) (by kernel_rfl) (by kernel_rfl) (fun _ _ _ h => h) ?yz1x36 (by assumption) ?rz1x36
  case hiz1x36 => (simp only [List.getElem?_toArray, List.getElem?_cons_succ, List.getElem?_cons_zero]; rfl)
  case yz1x36 => (refine Or.inl ⟨by rfl, ?_⟩; intro w' hSw; (try dsimp only at hSw); go_simp; (try with_reducible rfl))
  try simp only [Act.put, List.setIfInBounds_toArray, List.set_cons_zero, List.set_cons_succ]
  refine wpAnyH_take (i := 37) (oi := ?oz1x37) (v := ?vz1x37) ?hiz1x37 (by kernel_rfl) (by kernel_rfl) (by kernel_rfl) (fun _ _ _ h => h) ?yz1x37 (by assumption) ?rz1x37
  case hiz1x37 => (simp only [List.getElem?_toArray, List.getElem?_cons_succ, List.getElem?_cons_zero]; rfl)
  case yz1x37 => (refine Or.inl ⟨by rfl, ?_⟩; intro w' hSw; (try dsimp only at hSw); go_simp; (try with_reducible rfl))
  try simp only [Act.put, List.setIfInBounds_toArray, List.set_cons_zero, List.set_cons_succ]
  refine wpAnyH_done (by kernel_rfl) ?_ _
  refine NoPanic.normal ?_
  clear hHeld
  go_wp2_with fail
  go_ret
  exact ⟨rfl, bel.out⟩

end Elt
namespace LawElectSays
open Go.ChangeShapes Go.WideShapes Go.ChangeAt Go.RowKit
open Go.ChangeMaps (open_string shut_string)

theorem own : ownKnob Try.prog.godebug = none := by kernel_rfl
theorem laidOut : laidOutB Try.prog = true := by kernel_rfl

set_option maxRecDepth 100000 in
theorem lifted (os : Os) (started : os.Started) (H : Type) (enc : TypeId × Value → H) :
    ReturnsInHanded {} Try.checked os 3 .any (Rows.electSaysSpec.pre6 enc Try.prog Try.f3 Rows.electSaysRow.domain false) (Rows.electSaysSpec.post enc Try.prog Try.f3 false true false false) := by
  refine Fr.law_lift (C := Try.checked) (tb := 4) own started (by kernel_rfl) Try.func3
    (ChangeSpec.witness6 (enc := enc) (C := Try.checked) false ⟨#[], #[.agg #[.int .u64 0, .int .i64 0, .int .i64 0, .int .i64 0, .int .i64 0, .int .u64 0, .int .u64 0, .int .u64 0, .int .i64 0, .int .i64 0, .int .i64 0, .int .i64 0, .int .i64 0, .int .i64 0, .bool false, .bool false, .bool false, .int .u64 0, .int .i64 0, .int .u64 0, .int .u64 0, .int .u64 0, .int .i64 0, .int .i64 0, .int .i64 0, .int .i64 0, .int .i64 0, .int .i64 0, .int .i64 0, .bool false, .bool false, .bool false, .bool false, .bool false, .bool false, .bool false, .bool false, .bool false, .int .i64 0, .int .i64 0, .int .i64 0, .int .i64 0, .int .i64 0, .int .i64 0, .int .i64 0, .bool false, .bool false, .bool false, .int .u64 0, .int .i64 0, .int .u64 0, .int .u64 0, .int .u64 0, .int .i64 0, .int .i64 0, .int .i64 0, .int .i64 0, .int .i64 0, .int .i64 0, .int .i64 0, .bool false, .bool false, .bool false, .bool false, .bool false, .bool false, .bool false, .bool false, .bool false, .int .i64 0, .int .i64 0, .int .i64 0, .int .i64 0, .int .i64 0, .int .i64 0, .int .i64 0, .bool false, .bool false, .bool false, .int .u64 0, .int .i64 0, .int .u64 0, .int .u64 0, .int .u64 0, .int .i64 0, .int .i64 0, .int .i64 0, .int .i64 0, .int .i64 0, .int .i64 0, .int .i64 0, .bool false, .bool false, .bool false, .bool false, .bool false, .bool false, .bool false, .bool false, .bool false, .int .i64 0, .int .i64 0, .int .i64 0, .int .i64 0, .int .i64 0, .int .i64 0, .int .i64 0, .bool false, .bool false, .bool false, .int .u64 0, .int .i64 0, .int .u64 0, .int .u64 0, .int .u64 0, .int .i64 0, .int .i64 0, .int .i64 0, .int .i64 0, .int .i64 0, .int .i64 0, .int .i64 0, .bool false, .bool false, .bool false, .bool false, .bool false, .bool false, .bool false, .bool false, .bool false, .int .i64 0, .int .i64 0, .int .i64 0, .int .i64 0, .int .i64 0, .int .i64 0, .int .i64 0, .bool false, .bool false, .bool false, .int .u64 0, .int .i64 0, .int .u64 0, .int .u64 0, .int .u64 0, .int .i64 0, .int .i64 0, .int .i64 0, .int .i64 0, .int .i64 0, .int .i64 0, .int .i64 0, .bool false, .bool false, .bool false, .bool false, .bool false, .bool false, .bool false, .bool false, .bool false, .int .i64 0, .int .i64 0, .int .i64 0, .int .i64 0, .int .i64 0, .int .i64 0, .int .i64 0, .bool false, .bool false, .bool false, .int .u64 0, .int .i64 0, .int .u64 0, .int .u64 0, .int .u64 0, .int .i64 0, .int .i64 0, .int .i64 0, .int .i64 0, .int .i64 0, .int .i64 0, .int .i64 0, .bool false, .bool false, .bool false, .bool false, .bool false, .bool false, .bool false, .bool false, .bool false, .int .i64 0, .int .i64 0, .int .i64 0, .int .i64 0, .int .i64 0, .int .i64 0, .int .i64 0, .bool false, .bool false, .bool false, .int .u64 0, .int .i64 0, .int .u64 0, .int .u64 0, .int .u64 0, .int .i64 0, .int .i64 0, .int .i64 0, .int .i64 0, .int .i64 0, .int .i64 0, .int .i64 0, .bool false, .bool false, .bool false, .bool false, .bool false, .bool false, .bool false, .bool false, .bool false, .int .i64 0, .int .i64 0, .int .i64 0, .int .i64 0, .int .i64 0, .int .i64 0, .int .i64 0, .bool false, .bool false, .bool false, .int .u64 0, .int .i64 0, .int .u64 0, .int .u64 0, .int .u64 0, .int .i64 0, .int .i64 0, .int .i64 0, .int .i64 0, .int .i64 0, .int .i64 0, .int .i64 0, .bool false, .bool false, .bool false, .bool false, .bool false, .bool false, .bool false, .bool false, .bool false, .int .i64 0, .int .i64 0, .int .i64 0, .int .i64 0, .int .i64 0, .int .i64 0, .int .i64 0]], []⟩ 8 (by kernel_rfl) (by kernel_rfl) (by kernel_rfl) (by kernel_rfl))
    laidOut (by rw [Try.params3]; decide +kernel) rfl Try.underlying4 rfl ?_ ?_
  · intro ds hl
    match ds, hl with
    | [d0], _ => rfl
  · intro W base args ds p hval hA
    rw [Try.params3] at hA hval
    obtain ⟨v0, vs0, d0, ds0, p0, q0, hargs, rfl, rfl, h0, r0⟩ := trodAll_cons hA
    obtain ⟨rfl, rfl, rfl⟩ := trodAll_nil r0
    obtain rfl : args = #[v0] := by cases args; simp_all
    obtain ⟨x0, rfl⟩ := Tre.open_td (hval 0 31 v0 rfl rfl) h0
    exact Elt.walk_says W x0

theorem over : Rows.electSaysRow.holds Try.pinned (OpenSpec.ofChange Rows.electSaysSpec) :=
  OpenClaim.holds_of_wide 3 Try.f3 rfl rfl rfl rfl rfl rfl rfl ⟨rfl, rfl, rfl, rfl, rfl⟩ rfl rfl rfl rfl rfl (by kernel_rfl) Try.func3 (by kernel_rfl)
    (of_decide_eq_true (by kernel_rfl)) (by unfold Func.isWrapper; first | (rw [if_pos (by decide +kernel)]; kernel_rfl) | (rw [if_neg (by decide +kernel)]; exact ⟨rfl, rfl⟩))
    (fun os started H enc _ => lifted os started H enc)
end LawElectSays

/-- The statement ElectSays. -/
theorem electSays_holds : Rows.ElectSaysSaid := LawElectSays.over

end Go.Proofs.Ytlaahomkgaaciaa
