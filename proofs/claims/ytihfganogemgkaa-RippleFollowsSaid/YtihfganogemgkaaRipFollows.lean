/-
  The statement RippleFollows: for every bridge the law RippleFollows returns true, and its argument reads afterwards as it read before.
-/
import Derived.Test.YtihfganogemgkaaRipG
import Derived.Test.YtihfganogemgkaaTreOpen
import Derived.Test.YtihfganogemgkaaFrame
import Derived.Test.YtihfganogemgkaaRows
import Derived.Deep.CutBlock
namespace Go.Proofs.Ytihfganogemgkaa
open Go.RowKit
namespace Rip
open Pre Crd Tre Elt

theorem cv_range {W : World} {k : Nat} {x : Td} (h : Bx.Blk W k (tdl x)) (i : Nat) (hi : i < 8) : W.rangeAt k (14 + i * 31 + 5) (enc (x.cs i).v) := fun j v hv => by
  have hj : j < 4 := (List.getElem?_eq_some_iff.1 hv).1
  have e : (tdl x)[14 + i * 31 + (5 + j)]? = (cdl (x.cs i))[5 + j]? := tdl_cs x i (5 + j) hi (by omega)
  have e2 : (cdl (x.cs i))[5 + j]? = some v := by
    rw [← hv]
    match j, hj with
    | 0, _ => rfl
    | 1, _ => rfl
    | 2, _ => rfl
    | 3, _ => rfl
    | j + 4, h => omega
  exact h (14 + i * 31 + 5 + j) v (by rw [Nat.add_assoc (14 + i * 31), e, e2])

theorem v_yields {ops : Array Oper} {S : World → Prop} {op : Oper} {a : Act} (hw : Region.wanted op (yielded ops a.tmps) = true) (ho : op.op = .load 26 (opA op.op)) (p : Nat × Nat) (hx : a.eval (opA op.op) = .pointer (some ⟨p.1, p.2, none⟩)) (x : Vc) (hS : ∀ w, S w → w.rangeAt p.1 p.2 (enc x)) : YieldsIf Try.prog ops S op (vv x) a :=
  yieldsIf_load_mid hw _ _ ho p.1 p.2 hx (enc x) (.struct (Try.prog.fieldsOf 26)) hS (by kernel_rfl) rfl vec_info

set_option maxRecDepth 40000 in
set_option maxHeartbeats 8000000 in
theorem walk_follows (w : World) (x : Td) : Calls Try.prog 3 #[tdv x] w fun e w' => e = .returned (.bool true) ∧ Below w.heap.size w w' := by
  have HE := Lib.hid (elect_any x)
  obtain ⟨u, hu⟩ : ∃ u, u = eleT x := ⟨_, rfl⟩
  rw [← hu] at HE
  clear hu
  have HS := Lib.hid (settle_any u)
  obtain ⟨⟨_, _, hroot, _, hport, hsame⟩, hgood⟩ := set_good u
  obtain ⟨v, hv⟩ : ∃ v, v = setT u := ⟨_, rfl⟩
  rw [← hv] at HS hroot hport hsame hgood
  clear hv
  have HO := Lib.hid (open_any v)
  have HL := Lib.hid (learn_any v)
  have hN := open_not v
  generalize opeI v 8 = o at *
  generalize leaI v 8 = l at *
  replace hN := Lib.hid hN
  replace hroot := Lib.hid hroot
  replace hport := Lib.hid hport
  replace hsame := Lib.hid hsame
  replace hgood := Lib.hid hgood
  have HW := Lib.hid awake_any
  have HZ := Lib.hid (@zero_at)
  have T0 : Hid (Bx.Fre (w.alloc (tdo x)) w.heap.size (tdl x)) := Lib.hid (Bx.Fre.new w (tdl x) 31)
  have bel := Lib.hid (Bx.box_below w (tdo x))
  go_enter Try.func3, Try.ntmps3
  go_wp2_with (first | ((with_reducible refine td_load ?_ ?_ (w.heap.size) ?_ x ?_ ?_); (· rfl); (· rfl); (· rfl); (· exact T0.out.blk)) | ((with_reducible refine cs_load ?_ ?_ (w.heap.size) ?_ x ?_ ?_); (· rfl); (· rfl); (· rfl); (· exact T0.out.blk)))
  refine (HE.out _).mono ?_; rintro e w1 ⟨rfl, hb⟩
  replace T0 := Lib.hid (T0.out.keep hb)
  replace bel := Lib.hid (Bx.then_below bel.out hb)
  clear hb
  have hal := HZ.out
  have h3 : w.heap.size < w1.heap.size := T0.out.2.1
  replace T0 := Lib.hid (T0.out.more (tdo u))
  have T3 : Hid (Bx.Fre (w1.alloc (tdo u)) w1.heap.size (tdl u)) := Lib.hid (Bx.Fre.new w1 (tdl u) 31)
  replace bel := Lib.hid (Bx.bel_box bel.out (tdo u))
  go_upto_region 2 with (first | ((with_reducible refine td_fresh ?_ ?_ (w1.heap.size) u ?_ ?_ w1 (tdl Td.zero) ?_ ?_ ?_ ?_); (· rfl); (· rfl); (· rfl); (· rfl); (· exact tdl_len _); (· rfl); (· first | rfl | (simp; done))))
  obtain ⟨k3, hk3⟩ : ∃ k, k = w1.heap.size := ⟨_, rfl⟩
  rw [← hk3] at T3 h3 ⊢
  generalize (w1.alloc (tdo u)) = W3 at *
  clear hk3 hal
  go_wp2_with (first | ((with_reducible refine td_load ?_ ?_ (k3) ?_ u ?_ ?_); (· rfl); (· rfl); (· rfl); (· exact T3.out.blk)) | ((with_reducible refine cs_load ?_ ?_ (k3) ?_ u ?_ ?_); (· rfl); (· rfl); (· rfl); (· exact T3.out.blk)))
  refine (HS.out _).mono ?_; rintro e w2 ⟨rfl, hb⟩
  replace T0 := Lib.hid (T0.out.keep hb)
  replace T3 := Lib.hid (T3.out.keep hb)
  replace bel := Lib.hid (Bx.then_below bel.out hb)
  clear hb
  have hal := HZ.out
  have h4 : k3 < w2.heap.size := T3.out.2.1
  replace T0 := Lib.hid (T0.out.more (tdo v))
  replace T3 := Lib.hid (T3.out.more (tdo v))
  have T4 : Hid (Bx.Fre (w2.alloc (tdo v)) w2.heap.size (tdl v)) := Lib.hid (Bx.Fre.new w2 (tdl v) 31)
  replace bel := Lib.hid (Bx.bel_box bel.out (tdo v))
  go_upto_region 3 with (first | ((with_reducible refine td_fresh ?_ ?_ (w2.heap.size) v ?_ ?_ w2 (tdl Td.zero) ?_ ?_ ?_ ?_); (· rfl); (· rfl); (· rfl); (· rfl); (· exact tdl_len _); (· rfl); (· first | rfl | (simp; done))))
  obtain ⟨k4, hk4⟩ : ∃ k, k = w2.heap.size := ⟨_, rfl⟩
  rw [← hk4] at T4 h4 ⊢
  generalize (w2.alloc (tdo v)) = W4 at *
  clear hk4 hal
  have a13 : W4.cell? ⟨k4, 13, none⟩ = some (.int .i64 u.port) := by have h := T4.out.at 13 (v := .int .i64 v.port) rfl; rwa [hport.out] at h
  have a5 : W4.cell? ⟨k4, 5, none⟩ = some (.int .u64 u.root.r) := by have h := T4.out.at 5 (v := .int .u64 v.root.r) rfl; rwa [hroot.out] at h
  have a6 : W4.cell? ⟨k4, 6, none⟩ = some (.int .u64 u.root.c) := by have h := T4.out.at 6 (v := .int .u64 v.root.c) rfl; rwa [hroot.out] at h
  have a7 : W4.cell? ⟨k4, 7, none⟩ = some (.int .u64 u.root.b) := by have h := T4.out.at 7 (v := .int .u64 v.root.b) rfl; rwa [hroot.out] at h
  have a8 : W4.cell? ⟨k4, 8, none⟩ = some (.int .i64 u.root.p) := by have h := T4.out.at 8 (v := .int .i64 v.root.p) rfl; rwa [hroot.out] at h
  have hvn : ∀ w, (binOp .neq 26 (vv u.root) (vv u.root)).run Try.prog w = .ok (.bool false) w := fun w => by rw [vneq_at, decide_eq_true rfl]; rfl
  have hvg := fun op a b w => vguard_at op a b u.root u.root w
  have hn := hN.out
  have hp : (u.port != u.port) = false := by simp
  refine wp_region_noPanic ?_
  refine wp_region_held_drew (S := fun w' => Bx.Blk w' k4 (tdl v) ∧ w'.cell? ⟨k4, 13, none⟩ = some (.int .i64 u.port) ∧ w'.cell? ⟨k3, 13, none⟩ = some (.int .i64 u.port) ∧ w'.cell? ⟨k4, 5, none⟩ = some (.int .u64 u.root.r) ∧ w'.cell? ⟨k4, 6, none⟩ = some (.int .u64 u.root.c) ∧ w'.cell? ⟨k4, 7, none⟩ = some (.int .u64 u.root.b) ∧ w'.cell? ⟨k4, 8, none⟩ = some (.int .i64 u.root.p) ∧ w'.cell? ⟨k3, 5, none⟩ = some (.int .u64 u.root.r) ∧ w'.cell? ⟨k3, 6, none⟩ = some (.int .u64 u.root.c) ∧ w'.cell? ⟨k3, 7, none⟩ = some (.int .u64 u.root.b) ∧ w'.cell? ⟨k3, 8, none⟩ = some (.int .i64 u.root.p)) (by kernel_rfl) (by exact ⟨T4.out.blk, a13, T3.out.at 13 (v := .int .i64 u.port) rfl, a5, a6, a7, a8, T3.out.at 5 (v := .int .u64 u.root.r) rfl, T3.out.at 6 (v := .int .u64 u.root.c) rfl, T3.out.at 7 (v := .int .u64 u.root.b) rfl, T3.out.at 8 (v := .int .i64 u.root.p) rfl⟩) (fun hHeld => ?_)
  replace bel := Lib.hid (Bx.bel_drewn bel.out)
  replace T0 := Lib.hid (T0.out.drew)
  replace T3 := Lib.hid (T3.out.drew)
  replace T4 := Lib.hid (T4.out.drew)
  refine wpAnyH_take (i := 0) (oi := ?oz1x0) (v := ?vz1x0) ?hiz1x0 (by kernel_rfl) (by kernel_rfl) (by kernel_rfl) (fun _ _ _ h => h) ?yz1x0 (by assumption) ?rz1x0
  case hiz1x0 => (simp only [List.getElem?_toArray, List.getElem?_cons_zero]; rfl)
  case yz1x0 => (refine Or.inl ⟨by rfl, ?_⟩; intro w' hSw; (try dsimp only at hSw); go_simp; (try with_reducible rfl))
  try simp only [Act.put, List.setIfInBounds_toArray, List.set_cons_zero, List.set_cons_succ]
  refine wpAnyH_take (i := 1) (oi := ?oz1x1) (v := ?vz1x1) ?hiz1x1 (by kernel_rfl) (by kernel_rfl) (by kernel_rfl) (fun _ _ _ h => h) ?yz1x1 (by assumption) ?rz1x1
  case hiz1x1 => (simp only [List.getElem?_toArray, List.getElem?_cons_succ, List.getElem?_cons_zero]; rfl)
  case yz1x1 => (refine Or.inl ⟨by rfl, ?_⟩; intro w' hSw; (try dsimp only at hSw); go_simp; (try with_reducible rfl))
  try simp only [Act.put, List.setIfInBounds_toArray, List.set_cons_zero, List.set_cons_succ]
  refine wpAnyH_take (i := 2) (oi := ?oz1x2) (v := ?vz1x2) ?hiz1x2 (by kernel_rfl) (by kernel_rfl) (by kernel_rfl) (fun _ _ _ h => h) ?yz1x2 (by assumption) ?rz1x2
  case hiz1x2 => (simp only [List.getElem?_toArray, List.getElem?_cons_succ, List.getElem?_cons_zero]; rfl)
  case yz1x2 => (refine Or.inl ⟨by rfl, ?_⟩; intro w' hSw; (try dsimp only at hSw); go_simp; (try with_reducible rfl))
  try simp only [Act.put, List.setIfInBounds_toArray, List.set_cons_zero, List.set_cons_succ]
  refine wpAnyH_take (i := 3) (oi := ?oz1x3) (v := ?vz1x3) ?hiz1x3 (by kernel_rfl) (by kernel_rfl) (by kernel_rfl) (fun _ _ _ h => h) ?yz1x3 (by assumption) ?rz1x3
  case hiz1x3 => (simp only [List.getElem?_toArray, List.getElem?_cons_succ, List.getElem?_cons_zero]; rfl)
  case yz1x3 => (refine Or.inl ⟨by rfl, ?_⟩; intro w' hSw; (try dsimp only at hSw); go_simp; (try with_reducible rfl))
  try simp only [Act.put, List.setIfInBounds_toArray, List.set_cons_zero, List.set_cons_succ]
  refine wpAnyH_take (i := 4) (oi := ?oz1x4) (v := ?vz1x4) ?hiz1x4 (by kernel_rfl) (by kernel_rfl) (by kernel_rfl) (fun _ _ _ h => h) ?yz1x4 (by assumption) ?rz1x4
  case hiz1x4 => (simp only [List.getElem?_toArray, List.getElem?_cons_succ, List.getElem?_cons_zero]; rfl)
  case yz1x4 => (refine Or.inl ⟨by rfl, ?_⟩; intro w' hSw; (try dsimp only at hSw); go_simp; (try with_reducible rfl))
  try simp only [Act.put, List.setIfInBounds_toArray, List.set_cons_zero, List.set_cons_succ]
  refine wpAnyH_take (i := 5) (oi := ?oz1x5) (v := ?vz1x5) ?hiz1x5 (by kernel_rfl) (by kernel_rfl) (by kernel_rfl) (fun _ _ _ h => h) ?yz1x5 (by assumption) ?rz1x5
  case hiz1x5 => (simp only [List.getElem?_toArray, List.getElem?_cons_succ, List.getElem?_cons_zero]; rfl)
  case yz1x5 => (refine Or.inl ⟨by rfl, ?_⟩; intro w' hSw; (try dsimp only at hSw); go_simp; (try with_reducible rfl))
  try simp only [Act.put, List.setIfInBounds_toArray, List.set_cons_zero, List.set_cons_succ]
  refine wpAnyH_take (i := 6) (oi := ?oz1x6) (v := ?vz1x6) ?hiz1x6 (by kernel_rfl) (by kernel_rfl) (by kernel_rfl) (fun _ _ _ h => h) ?yz1x6 (by assumption) ?rz1x6
  case hiz1x6 => (simp only [List.getElem?_toArray, List.getElem?_cons_succ, List.getElem?_cons_zero]; rfl)
  case yz1x6 => (refine Or.inl ⟨by rfl, ?_⟩; intro w' hSw; (try dsimp only at hSw); go_simp; (try with_reducible rfl))
  try simp only [Act.put, List.setIfInBounds_toArray, List.set_cons_zero, List.set_cons_succ]
  refine wpAnyH_take (i := 7) (oi := ?oz1x7) (v := ?vz1x7) ?hiz1x7 (by kernel_rfl) (by kernel_rfl) (by kernel_rfl) (fun _ _ _ h => h) ?yz1x7 (by assumption) ?rz1x7
  case hiz1x7 => (simp only [List.getElem?_toArray, List.getElem?_cons_succ, List.getElem?_cons_zero]; rfl)
  case yz1x7 => (refine Or.inl ⟨by rfl, ?_⟩; intro w' hSw; (try dsimp only at hSw); go_simp; (try with_reducible rfl))
  try simp only [Act.put, List.setIfInBounds_toArray, List.set_cons_zero, List.set_cons_succ]
  refine wpAnyH_take (i := 8) (oi := ?oz1x8) (v := ?vz1x8) ?hiz1x8 (by kernel_rfl) (by kernel_rfl) (by kernel_rfl) (fun _ _ _ h => h) ?yz1x8 (by assumption) ?rz1x8
  case hiz1x8 => (simp only [List.getElem?_toArray, List.getElem?_cons_succ, List.getElem?_cons_zero]; rfl)
  case yz1x8 => (refine Or.inl ⟨by rfl, ?_⟩; intro w' hSw; (try dsimp only at hSw); go_simp; (try with_reducible rfl))
  try simp only [Act.put, List.setIfInBounds_toArray, List.set_cons_zero, List.set_cons_succ]
  refine wpAnyH_take (i := 9) (oi := ?oz1x9) (v := ?vz1x9) ?hiz1x9 (by kernel_rfl) (by kernel_rfl) (by kernel_rfl) (fun _ _ _ h => h) ?yz1x9 (by assumption) ?rz1x9
  case hiz1x9 => (simp only [List.getElem?_toArray, List.getElem?_cons_succ, List.getElem?_cons_zero]; rfl)
  case yz1x9 => (refine Or.inl ⟨by rfl, ?_⟩; intro w' hSw; (try dsimp only at hSw); go_simp; (try with_reducible rfl))
  try simp only [Act.put, List.setIfInBounds_toArray, List.set_cons_zero, List.set_cons_succ]
  refine wpAnyH_take (i := 10) (oi := ?oz1x10) (v := ?vz1x10) ?hiz1x10 (by kernel_rfl) (by kernel_rfl) (by kernel_rfl) (fun _ _ _ h => h) ?yz1x10 (by assumption) ?rz1x10
  case hiz1x10 => (simp only [List.getElem?_toArray, List.getElem?_cons_succ, List.getElem?_cons_zero]; rfl)
  case yz1x10 => (refine Or.inl ⟨by rfl, ?_⟩; intro w' hSw; (try dsimp only at hSw); go_simp; (try with_reducible rfl))
  try simp only [Act.put, List.setIfInBounds_toArray, List.set_cons_zero, List.set_cons_succ]
  refine wpAnyH_take (i := 11) (oi := ?oz1x11) (v := ?vz1x11) ?hiz1x11 (by kernel_rfl) (by kernel_rfl) (by kernel_rfl) (fun _ _ _ h => h) ?yz1x11 (by assumption) ?rz1x11
  case hiz1x11 => (simp only [List.getElem?_toArray, List.getElem?_cons_succ, List.getElem?_cons_zero]; rfl)
  case yz1x11 => (refine Or.inl ⟨by rfl, ?_⟩; intro w' hSw; (try dsimp only at hSw); go_simp; (try with_reducible rfl))
  try simp only [Act.put, List.setIfInBounds_toArray, List.set_cons_zero, List.set_cons_succ]
  refine wpAnyH_take (i := 12) (oi := ?oz1x12) (v := ?vz1x12) ?hiz1x12 (by kernel_rfl) (by kernel_rfl) (by kernel_rfl) (fun _ _ _ h => h) ?yz1x12 (by assumption) ?rz1x12
  case hiz1x12 => (simp only [List.getElem?_toArray, List.getElem?_cons_succ, List.getElem?_cons_zero]; rfl)
  case yz1x12 => (refine Or.inl ⟨by rfl, ?_⟩; intro w' hSw; (try dsimp only at hSw); go_simp; (try with_reducible rfl))
  try simp only [Act.put, List.setIfInBounds_toArray, List.set_cons_zero, List.set_cons_succ]
  refine wpAnyH_take (i := 13) (oi := ?oz1x13) (v := tdv v) ?hiz1x13 (by kernel_rfl) (by kernel_rfl) (by kernel_rfl) (fun _ _ _ h => h) ?yz1x13 (by assumption) ?rz1x13
  case hiz1x13 => (simp only [List.getElem?_toArray, List.getElem?_cons_succ, List.getElem?_cons_zero]; rfl)
  case yz1x13 => (refine td_yields rfl rfl (k4) rfl v ?_; intro w' hS; exact hS.1)
  try simp only [Act.put, List.setIfInBounds_toArray, List.set_cons_zero, List.set_cons_succ]
  refine wpAnyH_take (i := 15) (oi := ?oz1x15) (v := tdv v) ?hiz1x15 (by kernel_rfl) (by kernel_rfl) (by kernel_rfl) (fun _ _ _ h => h) ?yz1x15 (by assumption) ?rz1x15
  case hiz1x15 => (simp only [List.getElem?_toArray, List.getElem?_cons_succ, List.getElem?_cons_zero]; rfl)
  case yz1x15 => (refine td_yields rfl rfl (k4) rfl v ?_; intro w' hS; exact hS.1)
  try simp only [Act.put, List.setIfInBounds_toArray, List.set_cons_zero, List.set_cons_succ]
  refine wpAnyH_ready (rs := [14]) (by kernel_rfl) (by simp) ?_
  refine AllReadyH.cons (o := ?oz1x14) ?hiz1x14 ?hstz1x14 AllReadyH.nil
  case hiz1x14 => (simp only [List.getElem?_toArray, List.getElem?_cons_succ, List.getElem?_cons_zero]; rfl)
  intro K hK
  go_simp
  (go_at_call 6; (with_reducible refine (HO.out _).mono ?_); rintro e w1 ⟨rfl, hb1⟩)
  go_wp2_with fail
  refine hK.out _ _ ⟨Bx.Blk.keep hHeld.1 hb1, Bx.keep_cell hb1 hHeld.2.1, Bx.keep_cell hb1 hHeld.2.2.1, Bx.keep_cell hb1 hHeld.2.2.2.1, Bx.keep_cell hb1 hHeld.2.2.2.2.1, Bx.keep_cell hb1 hHeld.2.2.2.2.2.1, Bx.keep_cell hb1 hHeld.2.2.2.2.2.2.1, Bx.keep_cell hb1 hHeld.2.2.2.2.2.2.2.1, Bx.keep_cell hb1 hHeld.2.2.2.2.2.2.2.2.1, Bx.keep_cell hb1 hHeld.2.2.2.2.2.2.2.2.2.1, Bx.keep_cell hb1 hHeld.2.2.2.2.2.2.2.2.2.2⟩ (fun hNew => ?_)
  clear hHeld
  have hHeld := hNew
  clear hNew hK K
  replace bel := Lib.hid (Bx.then_below bel.out hb1)
  replace T0 := Lib.hid (T0.out.keep hb1)
  replace T3 := Lib.hid (T3.out.keep hb1)
  replace T4 := Lib.hid (T4.out.keep hb1)
  clear hb1
  refine wpAnyH_ready (rs := [16]) (by kernel_rfl) (by simp) ?_
  refine AllReadyH.cons (o := ?oz1x16) ?hiz1x16 ?hstz1x16 AllReadyH.nil
  case hiz1x16 => (simp only [List.getElem?_toArray, List.getElem?_cons_succ, List.getElem?_cons_zero]; rfl)
  intro K hK
  go_simp
  (go_at_call 7; (with_reducible refine (HL.out _).mono ?_); rintro e w2 ⟨rfl, hb2⟩)
  go_wp2_with fail
  refine hK.out _ _ ⟨Bx.Blk.keep hHeld.1 hb2, Bx.keep_cell hb2 hHeld.2.1, Bx.keep_cell hb2 hHeld.2.2.1, Bx.keep_cell hb2 hHeld.2.2.2.1, Bx.keep_cell hb2 hHeld.2.2.2.2.1, Bx.keep_cell hb2 hHeld.2.2.2.2.2.1, Bx.keep_cell hb2 hHeld.2.2.2.2.2.2.1, Bx.keep_cell hb2 hHeld.2.2.2.2.2.2.2.1, Bx.keep_cell hb2 hHeld.2.2.2.2.2.2.2.2.1, Bx.keep_cell hb2 hHeld.2.2.2.2.2.2.2.2.2.1, Bx.keep_cell hb2 hHeld.2.2.2.2.2.2.2.2.2.2⟩ (fun hNew => ?_)
  clear hHeld
  have hHeld := hNew
  clear hNew hK K
  replace bel := Lib.hid (Bx.then_below bel.out hb2)
  replace T0 := Lib.hid (T0.out.keep hb2)
  replace T3 := Lib.hid (T3.out.keep hb2)
  replace T4 := Lib.hid (T4.out.keep hb2)
  clear hb2
  refine wpAnyH_take (i := 17) (oi := ?oz1x17) (v := ?vz1x17) ?hiz1x17 (by kernel_rfl) (by kernel_rfl) (by kernel_rfl) (fun _ _ _ h => h) ?yz1x17 (by assumption) ?rz1x17
  case hiz1x17 => (simp only [List.getElem?_toArray, List.getElem?_cons_succ, List.getElem?_cons_zero]; rfl)
  case yz1x17 => (refine Or.inl ⟨by rfl, ?_⟩; intro w' hSw; (try dsimp only at hSw); go_simp; (try with_reducible rfl))
  try simp only [Act.put, List.setIfInBounds_toArray, List.set_cons_zero, List.set_cons_succ]
  refine wpAnyH_take (i := 18) (oi := ?oz1x18) (v := ?vz1x18) ?hiz1x18 (by kernel_rfl) (by kernel_rfl) (by kernel_rfl) (fun _ _ _ h => h) ?yz1x18 (by assumption) ?rz1x18
  case hiz1x18 => (simp only [List.getElem?_toArray, List.getElem?_cons_succ, List.getElem?_cons_zero]; rfl)
  case yz1x18 => (refine Or.inl ⟨by rfl, ?_⟩; intro w' hSw; (try dsimp only at hSw); go_simp; (try with_reducible rfl))
  try simp only [Act.put, List.setIfInBounds_toArray, List.set_cons_zero, List.set_cons_succ]
  refine wpAnyH_take (i := 19) (oi := ?oz1x19) (v := ?vz1x19) ?hiz1x19 (by kernel_rfl) (by kernel_rfl) (by kernel_rfl) (fun _ _ _ h => h) ?yz1x19 (by assumption) ?rz1x19
  case hiz1x19 => (simp only [List.getElem?_toArray, List.getElem?_cons_succ, List.getElem?_cons_zero]; rfl)
  case yz1x19 => (refine Or.inl ⟨by rfl, ?_⟩; intro w' hSw; (try dsimp only at hSw); go_simp; (try with_reducible rfl))
  try simp only [Act.put, List.setIfInBounds_toArray, List.set_cons_zero, List.set_cons_succ]
  refine wpAnyH_done (by kernel_rfl) ?_ _
  refine NoPanic.normal ?_
  clear hHeld
  clear a13 a5 a6 a7 a8 hvn hvg hn hp
  go_wp2_with (first | ((with_reducible refine td_load ?_ ?_ (k4) ?_ v ?_ ?_); (· rfl); (· rfl); (· rfl); (· exact T4.out.blk)) | ((with_reducible refine cs_load ?_ ?_ (k4) ?_ v ?_ ?_); (· rfl); (· rfl); (· rfl); (· exact T4.out.blk)))
  go_loopg [33] 8 (fun g s33 wr => ∃ k : Nat, k + g = 8 ∧ s33 = .int .i64 k ∧ Aside (Bx.Fre wr w.heap.size (tdl x)) ∧ Aside (Bx.Fre wr k3 (tdl u)) ∧ Aside (Bx.Fre wr k4 (tdl v)) ∧ Aside (Below w.heap.size w wr))
  case atStart => exact ⟨0, by omega, rfl, T0.out, T3.out, T4.out, bel.out⟩
  case round =>
    clear T0 T3 T4 bel
    obtain ⟨k, hkg, rfl, T0, T3, T4, bel⟩ := hrel
    cases gk with
    | zero =>
      have hkz : ¬ ((k : Int) < 8) := by omega
      obtain rfl : k = 8 := by omega
      go_wp2_with (first | ((with_reducible refine td_load ?_ ?_ (w.heap.size) ?_ x ?_ ?_); (· rfl); (· rfl); (· rfl); (· exact T0.out.blk)) | ((with_reducible refine cs_load ?_ ?_ (w.heap.size) ?_ x ?_ ?_); (· rfl); (· rfl); (· rfl); (· exact T0.out.blk)) | ((with_reducible refine td_load ?_ ?_ (k3) ?_ u ?_ ?_); (· rfl); (· rfl); (· rfl); (· exact T3.out.blk)) | ((with_reducible refine cs_load ?_ ?_ (k3) ?_ u ?_ ?_); (· rfl); (· rfl); (· rfl); (· exact T3.out.blk)) | ((with_reducible refine td_load ?_ ?_ (k4) ?_ v ?_ ?_); (· rfl); (· rfl); (· rfl); (· exact T4.out.blk)) | ((with_reducible refine cs_load ?_ ?_ (k4) ?_ v ?_ ?_); (· rfl); (· rfl); (· rfl); (· exact T4.out.blk)))
      refine (HW.out _).mono ?_; rintro e w7 ⟨rfl, hb⟩
      replace T0 := Lib.hid (T0.out.keep hb)
      replace T3 := Lib.hid (T3.out.keep hb)
      replace T4 := Lib.hid (T4.out.keep hb)
      replace bel := Lib.hid (Bx.then_below bel.out hb)
      clear hb
      go_wp2_with fail
      go_ret
      exact ⟨rfl, bel.out⟩
    | succ g =>
      have hkz : (k : Int) < 8 := by omega
      have hk0 : (0 : Int) ≤ k := by omega
      have hi : k < 8 := by omega
      have hix := index_at v.cs k hi
      have hs := hsame.out k
      have hg := Lib.hid (hgood.out k hi)
      obtain ⟨c, hc⟩ : ∃ c, c = v.cs k := ⟨_, rfl⟩
      rw [← hc] at hix hs hg
      clear hc
      obtain ⟨_, hs1, hs2, _, _⟩ := hs
      replace hs1 := Lib.hid hs1
      replace hs2 := Lib.hid hs2
      have h6T0 : w.heap.size < wr.heap.size := T0.out.2.1
      have h6T3 : k3 < wr.heap.size := T3.out.2.1
      have h6T4 : k4 < wr.heap.size := T4.out.2.1
      replace T0 := Lib.hid (T0.out.more (cdo c))
      replace T3 := Lib.hid (T3.out.more (cdo c))
      replace T4 := Lib.hid (T4.out.more (cdo c))
      have C6 : Hid (Bx.Fre (wr.alloc (cdo c)) wr.heap.size (cdl c)) := Lib.hid (Bx.Fre.new wr (cdl c) 28)
      replace bel := Lib.hid (Bx.bel_box bel.out (cdo c))
      go_upto_region 8 with (first | ((with_reducible refine cd_fresh ?_ ?_ (wr.heap.size) c ?_ ?_ wr (cdl Cd.zero) ?_ ?_ ?_ ?_); (· rfl); (· rfl); (· rfl); (· rfl); (· rfl); (· rfl); (· first | rfl | (simp; done))))
      clear hix
      obtain ⟨k6, hk6⟩ : ∃ k, k = wr.heap.size := ⟨_, rfl⟩
      rw [← hk6] at C6 h6T0 h6T3 h6T4 ⊢
      generalize wr.alloc (cdo c) = w0 at *
      clear hk6 wr
      skip
      have q13 : w0.cell? ⟨k3, 14 + k * 31 + 13, none⟩ = some (.int .i64 c.role) := by rw [hs1.out]; exact cord_cell (x := u) T3.out.blk k 13 hi (by omega) rfl
      have q5 : w0.rangeAt k3 (14 + k * 31 + 5) (enc c.v) := by rw [hs2.out]; exact cv_range T3.out.blk k hi
      have hvn : ∀ w, (binOp .neq 26 (vv c.v) (vv c.v)).run Try.prog w = .ok (.bool false) w := fun w => by rw [vneq_at, decide_eq_true rfl]; rfl
      have hvg := fun op a b w => vguard_at op a b c.v c.v w
      have hp : (c.role != c.role) = false := by simp
      refine wp_region_noPanic ?_
      refine wp_region_held_drew (S := fun w' => w'.rangeAt k3 (14 + k * 31 + 5) (enc c.v) ∧ w'.cell? ⟨k3, 14 + k * 31 + 13, none⟩ = some (.int .i64 c.role) ∧ w'.cell? ⟨k6, 13, none⟩ = some (.int .i64 c.role) ∧ w'.cell? ⟨k6, 5, none⟩ = some (.int .u64 c.v.r) ∧ w'.cell? ⟨k6, 6, none⟩ = some (.int .u64 c.v.c) ∧ w'.cell? ⟨k6, 7, none⟩ = some (.int .u64 c.v.b) ∧ w'.cell? ⟨k6, 8, none⟩ = some (.int .i64 c.v.p)) (by kernel_rfl) (by exact ⟨q5, q13, C6.out.at 13 rfl, C6.out.at 5 rfl, C6.out.at 6 rfl, C6.out.at 7 rfl, C6.out.at 8 rfl⟩) (fun hHeld => ?_)
      replace bel := Lib.hid (Bx.bel_drewn bel.out)
      replace T0 := Lib.hid (T0.out.drew)
      replace T3 := Lib.hid (T3.out.drew)
      replace T4 := Lib.hid (T4.out.drew)
      replace C6 := Lib.hid (C6.out.drew)
      refine wpAnyH_take (i := 0) (oi := ?oz2x0) (v := ?vz2x0) ?hiz2x0 (by kernel_rfl) (by kernel_rfl) (by kernel_rfl) (fun _ _ _ h => h) ?yz2x0 (by assumption) ?rz2x0
      case hiz2x0 => (simp only [List.getElem?_toArray, List.getElem?_cons_zero]; rfl)
      case yz2x0 => (refine Or.inl ⟨by rfl, ?_⟩; intro w' hSw; (try dsimp only at hSw); go_simp; (try with_reducible rfl))
      try simp only [Act.put, List.setIfInBounds_toArray, List.set_cons_zero, List.set_cons_succ]
      refine wpAnyH_take (i := 1) (oi := ?oz2x1) (v := ?vz2x1) ?hiz2x1 (by kernel_rfl) (by kernel_rfl) (by kernel_rfl) (fun _ _ _ h => h) ?yz2x1 (by assumption) ?rz2x1
      case hiz2x1 => (simp only [List.getElem?_toArray, List.getElem?_cons_succ, List.getElem?_cons_zero]; rfl)
      case yz2x1 => (refine Or.inl ⟨by rfl, ?_⟩; intro w' hSw; (try dsimp only at hSw); go_simp; (try with_reducible rfl))
      try simp only [Act.put, List.setIfInBounds_toArray, List.set_cons_zero, List.set_cons_succ]
      refine wpAnyH_take (i := 2) (oi := ?oz2x2) (v := ?vz2x2) ?hiz2x2 (by kernel_rfl) (by kernel_rfl) (by kernel_rfl) (fun _ _ _ h => h) ?yz2x2 (by assumption) ?rz2x2
      case hiz2x2 => (simp only [List.getElem?_toArray, List.getElem?_cons_succ, List.getElem?_cons_zero]; rfl)
      case yz2x2 => (refine Or.inl ⟨by rfl, ?_⟩; intro w' hSw; (try dsimp only at hSw); go_simp; (try with_reducible rfl))
      try simp only [Act.put, List.setIfInBounds_toArray, List.set_cons_zero, List.set_cons_succ]
      refine wpAnyH_take (i := 3) (oi := ?oz2x3) (v := ?vz2x3) ?hiz2x3 (by kernel_rfl) (by kernel_rfl) (by kernel_rfl) (fun _ _ _ h => h) ?yz2x3 (by assumption) ?rz2x3
      case hiz2x3 => (simp only [List.getElem?_toArray, List.getElem?_cons_succ, List.getElem?_cons_zero]; rfl)
      case yz2x3 => (refine Or.inl ⟨by rfl, ?_⟩; intro w' hSw; (try dsimp only at hSw); go_simp; (try with_reducible rfl))
      try simp only [Act.put, List.setIfInBounds_toArray, List.set_cons_zero, List.set_cons_succ]
      refine wpAnyH_take (i := 4) (oi := ?oz2x4) (v := ?vz2x4) ?hiz2x4 (by kernel_rfl) (by kernel_rfl) (by kernel_rfl) (fun _ _ _ h => h) ?yz2x4 (by assumption) ?rz2x4
      case hiz2x4 => (simp only [List.getElem?_toArray, List.getElem?_cons_succ, List.getElem?_cons_zero]; rfl)
      case yz2x4 => (refine Or.inl ⟨by rfl, ?_⟩; intro w' hSw; (try dsimp only at hSw); go_simp; (try with_reducible rfl))
      try simp only [Act.put, List.setIfInBounds_toArray, List.set_cons_zero, List.set_cons_succ]
      refine wpAnyH_take (i := 5) (oi := ?oz2x5) (v := ?vz2x5) ?hiz2x5 (by kernel_rfl) (by kernel_rfl) (by kernel_rfl) (fun _ _ _ h => h) ?yz2x5 (by assumption) ?rz2x5
      case hiz2x5 => (simp only [List.getElem?_toArray, List.getElem?_cons_succ, List.getElem?_cons_zero]; rfl)
      case yz2x5 => (refine Or.inl ⟨by rfl, ?_⟩; intro w' hSw; (try dsimp only at hSw); go_simp; (try with_reducible rfl))
      try simp only [Act.put, List.setIfInBounds_toArray, List.set_cons_zero, List.set_cons_succ]
      refine wpAnyH_take (i := 6) (oi := ?oz2x6) (v := ?vz2x6) ?hiz2x6 (by kernel_rfl) (by kernel_rfl) (by kernel_rfl) (fun _ _ _ h => h) ?yz2x6 (by assumption) ?rz2x6
      case hiz2x6 => (simp only [List.getElem?_toArray, List.getElem?_cons_succ, List.getElem?_cons_zero]; rfl)
      case yz2x6 => (refine Or.inl ⟨by rfl, ?_⟩; intro w' hSw; (try dsimp only at hSw); go_simp; (try with_reducible rfl))
      try simp only [Act.put, List.setIfInBounds_toArray, List.set_cons_zero, List.set_cons_succ]
      refine wpAnyH_take (i := 7) (oi := ?oz2x7) (v := ?vz2x7) ?hiz2x7 (by kernel_rfl) (by kernel_rfl) (by kernel_rfl) (fun _ _ _ h => h) ?yz2x7 (by assumption) ?rz2x7
      case hiz2x7 => (simp only [List.getElem?_toArray, List.getElem?_cons_succ, List.getElem?_cons_zero]; rfl)
      case yz2x7 => (refine Or.inl ⟨by rfl, ?_⟩; intro w' hSw; (try dsimp only at hSw); go_simp; (try with_reducible rfl))
      try simp only [Act.put, List.setIfInBounds_toArray, List.set_cons_zero, List.set_cons_succ]
      refine wpAnyH_take (i := 8) (oi := ?oz2x8) (v := ?vz2x8) ?hiz2x8 (by kernel_rfl) (by kernel_rfl) (by kernel_rfl) (fun _ _ _ h => h) ?yz2x8 (by assumption) ?rz2x8
      case hiz2x8 => (simp only [List.getElem?_toArray, List.getElem?_cons_succ, List.getElem?_cons_zero]; rfl)
      case yz2x8 => (refine Or.inl ⟨by rfl, ?_⟩; intro w' hSw; (try dsimp only at hSw); go_simp; (try with_reducible rfl))
      try simp only [Act.put, List.setIfInBounds_toArray, List.set_cons_zero, List.set_cons_succ]
      refine wpAnyH_take (i := 9) (oi := ?oz2x9) (v := ?vz2x9) ?hiz2x9 (by kernel_rfl) (by kernel_rfl) (by kernel_rfl) (fun _ _ _ h => h) ?yz2x9 (by assumption) ?rz2x9
      case hiz2x9 => (simp only [List.getElem?_toArray, List.getElem?_cons_succ, List.getElem?_cons_zero]; rfl)
      case yz2x9 => (refine Or.inl ⟨by rfl, ?_⟩; intro w' hSw; (try dsimp only at hSw); go_simp; (try with_reducible rfl))
      try simp only [Act.put, List.setIfInBounds_toArray, List.set_cons_zero, List.set_cons_succ]
      refine wpAnyH_take (i := 10) (oi := ?oz2x10) (v := ?vz2x10) ?hiz2x10 (by kernel_rfl) (by kernel_rfl) (by kernel_rfl) (fun _ _ _ h => h) ?yz2x10 (by assumption) ?rz2x10
      case hiz2x10 => (simp only [List.getElem?_toArray, List.getElem?_cons_succ, List.getElem?_cons_zero]; rfl)
      case yz2x10 => (refine Or.inl ⟨by rfl, ?_⟩; intro w' hSw; (try dsimp only at hSw); go_simp; (try with_reducible rfl))
      try simp only [Act.put, List.setIfInBounds_toArray, List.set_cons_zero, List.set_cons_succ]
      refine wpAnyH_take (i := 11) (oi := ?oz2x11) (v := ?vz2x11) ?hiz2x11 (by kernel_rfl) (by kernel_rfl) (by kernel_rfl) (fun _ _ _ h => h) ?yz2x11 (by assumption) ?rz2x11
      case hiz2x11 => (simp only [List.getElem?_toArray, List.getElem?_cons_succ, List.getElem?_cons_zero]; rfl)
      case yz2x11 => (refine Or.inl ⟨by rfl, ?_⟩; intro w' hSw; (try dsimp only at hSw); go_simp; (try with_reducible rfl))
      try simp only [Act.put, List.setIfInBounds_toArray, List.set_cons_zero, List.set_cons_succ]
      refine wpAnyH_take (i := 12) (oi := ?oz2x12) (v := ?vz2x12) ?hiz2x12 (by kernel_rfl) (by kernel_rfl) (by kernel_rfl) (fun _ _ _ h => h) ?yz2x12 (by assumption) ?rz2x12
      case hiz2x12 => (simp only [List.getElem?_toArray, List.getElem?_cons_succ, List.getElem?_cons_zero]; rfl)
      case yz2x12 => (refine Or.inl ⟨by rfl, ?_⟩; intro w' hSw; (try dsimp only at hSw); go_simp; (try with_reducible rfl))
      try simp only [Act.put, List.setIfInBounds_toArray, List.set_cons_zero, List.set_cons_succ]
      refine wpAnyH_take (i := 13) (oi := ?oz2x13) (v := ?vz2x13) ?hiz2x13 (by kernel_rfl) (by kernel_rfl) (by kernel_rfl) (fun _ _ _ h => h) ?yz2x13 (by assumption) ?rz2x13
      case hiz2x13 => (simp only [List.getElem?_toArray, List.getElem?_cons_succ, List.getElem?_cons_zero]; rfl)
      case yz2x13 => (refine Or.inl ⟨by rfl, ?_⟩; intro w' hSw; (try dsimp only at hSw); go_simp; (try with_reducible rfl))
      try simp only [Act.put, List.setIfInBounds_toArray, List.set_cons_zero, List.set_cons_succ]
      refine wpAnyH_take (i := 14) (oi := ?oz2x14) (v := ?vz2x14) ?hiz2x14 (by kernel_rfl) (by kernel_rfl) (by kernel_rfl) (fun _ _ _ h => h) ?yz2x14 (by assumption) ?rz2x14
      case hiz2x14 => (simp only [List.getElem?_toArray, List.getElem?_cons_succ, List.getElem?_cons_zero]; rfl)
      case yz2x14 => (refine Or.inl ⟨by rfl, ?_⟩; intro w' hSw; (try dsimp only at hSw); go_simp; (try with_reducible rfl))
      try simp only [Act.put, List.setIfInBounds_toArray, List.set_cons_zero, List.set_cons_succ]
      refine wpAnyH_take (i := 15) (oi := ?oz2x15) (v := vv c.v) ?hiz2x15 (by kernel_rfl) (by kernel_rfl) (by kernel_rfl) (fun _ _ _ h => h) ?yz2x15 (by assumption) ?rz2x15
      case hiz2x15 => (simp only [List.getElem?_toArray, List.getElem?_cons_succ, List.getElem?_cons_zero]; rfl)
      case yz2x15 => (refine v_yields rfl rfl (k3, 14 + k * 31 + 5) rfl c.v ?_; intro w' hS; exact hS.1)
      try simp only [Act.put, List.setIfInBounds_toArray, List.set_cons_zero, List.set_cons_succ]
      refine wpAnyH_take (i := 16) (oi := ?oz2x16) (v := ?vz2x16) ?hiz2x16 (by kernel_rfl) (by kernel_rfl) (by kernel_rfl) (fun _ _ _ h => h) ?yz2x16 (by assumption) ?rz2x16
      case hiz2x16 => (simp only [List.getElem?_toArray, List.getElem?_cons_succ, List.getElem?_cons_zero]; rfl)
      case yz2x16 => (refine Or.inl ⟨by rfl, ?_⟩; intro w' hSw; (try dsimp only at hSw); go_simp; (try with_reducible rfl))
      try simp only [Act.put, List.setIfInBounds_toArray, List.set_cons_zero, List.set_cons_succ]
      refine wpAnyH_take (i := 17) (oi := ?oz2x17) (v := ?vz2x17) ?hiz2x17 (by kernel_rfl) (by kernel_rfl) (by kernel_rfl) (fun _ _ _ h => h) ?yz2x17 (by assumption) ?rz2x17
      case hiz2x17 => (simp only [List.getElem?_toArray, List.getElem?_cons_succ, List.getElem?_cons_zero]; rfl)
      case yz2x17 => (refine Or.inl ⟨by rfl, ?_⟩; intro w' hSw; (try dsimp only at hSw); go_simp; (try with_reducible rfl))
      try simp only [Act.put, List.setIfInBounds_toArray, List.set_cons_zero, List.set_cons_succ]
      refine wpAnyH_done (by kernel_rfl) ?_ _
      refine NoPanic.normal ?_
      clear hHeld
      clear q13 q5 hvn hvg hp
      go_upto_region 10 with fail
      skip
      rcases Bool.eq_false_or_eq_true c.up with hu | hu
      · have hgu := hg.out hu
        by_cases h2 : c.role = 2
        · have hst := hgu.1 h2
          have g2 : (c.role == 2) = true := by simp [h2]
          have g1 : (c.role == 1) = false := by simp [h2]
          have gs : (c.st != 2) = false := by simp [hst]
          clear hgu h2 hst
          have c0 := C6.out.at 0 rfl
          have c13 := C6.out.at 13 rfl
          have c14 := C6.out.at 14 rfl
          rw [hu] at c0
          clear hu
          go_wp2_with fail
          go_roundg g
          case measure => omega
          case rel => exact ⟨k + 1, by omega, by go_num, T0.out, T3.out, T4.out, bel.out⟩
        · have g2 : (c.role == 2) = false := by simp [h2]
          by_cases h1 : c.role = 1
          · have hst := hgu.2 h1
            have g1 : (c.role == 1) = true := by simp [h1]
            have gs : (c.st != 0) = false := by simp [hst]
            clear hgu h1 h2 hst
            have c0 := C6.out.at 0 rfl
            have c13 := C6.out.at 13 rfl
            have c14 := C6.out.at 14 rfl
            rw [hu] at c0
            clear hu
            go_wp2_with fail
            go_roundg g
            case measure => omega
            case rel => exact ⟨k + 1, by omega, by go_num, T0.out, T3.out, T4.out, bel.out⟩
          · have g1 : (c.role == 1) = false := by simp [h1]
            clear hgu h1 h2
            have c0 := C6.out.at 0 rfl
            have c13 := C6.out.at 13 rfl
            have c14 := C6.out.at 14 rfl
            rw [hu] at c0
            clear hu
            go_wp2_with fail
            go_roundg g
            case measure => omega
            case rel => exact ⟨k + 1, by omega, by go_num, T0.out, T3.out, T4.out, bel.out⟩
      · have c0 := C6.out.at 0 rfl
        have c13 := C6.out.at 13 rfl
        have c14 := C6.out.at 14 rfl
        rw [hu] at c0
        clear hu
        go_wp2_with fail
        go_roundg g
        case measure => omega
        case rel => exact ⟨k + 1, by omega, by go_num, T0.out, T3.out, T4.out, bel.out⟩

end Rip
namespace LawRippleFollows
open Go.ChangeShapes Go.WideShapes Go.ChangeAt Go.RowKit
open Go.ChangeMaps (open_string shut_string)

theorem own : ownKnob Try.prog.godebug = none := by kernel_rfl
theorem laidOut : laidOutB Try.prog = true := by kernel_rfl

set_option maxRecDepth 100000 in
theorem lifted (os : Os) (started : os.Started) (H : Type) (enc : TypeId × Value → H) :
    ReturnsInHanded {} Try.checked os 3 .any (Rows.rippleFollowsSpec.pre6 enc Try.prog Try.f3 Rows.rippleFollowsRow.domain false) (Rows.rippleFollowsSpec.post enc Try.prog Try.f3 false true false false) := by
  refine Fr.law_lift (C := Try.checked) (tb := 4) own started (by kernel_rfl) Try.func3
    (ChangeSpec.witness6 (enc := enc) (C := Try.checked) false ⟨#[], #[.agg #[.int .u64 0, .int .i64 0, .int .i64 0, .int .i64 0, .int .i64 0, .int .u64 0, .int .u64 0, .int .u64 0, .int .i64 0, .int .i64 0, .int .i64 0, .int .i64 0, .int .i64 0, .int .i64 0, .bool false, .bool false, .bool false, .int .u64 0, .int .i64 0, .int .u64 0, .int .u64 0, .int .u64 0, .int .i64 0, .int .i64 0, .int .i64 0, .int .i64 0, .int .i64 0, .int .i64 0, .int .i64 0, .bool false, .bool false, .bool false, .bool false, .bool false, .bool false, .bool false, .bool false, .bool false, .int .i64 0, .int .i64 0, .int .i64 0, .int .i64 0, .int .i64 0, .int .i64 0, .int .i64 0, .bool false, .bool false, .bool false, .int .u64 0, .int .i64 0, .int .u64 0, .int .u64 0, .int .u64 0, .int .i64 0, .int .i64 0, .int .i64 0, .int .i64 0, .int .i64 0, .int .i64 0, .int .i64 0, .bool false, .bool false, .bool false, .bool false, .bool false, .bool false, .bool false, .bool false, .bool false, .int .i64 0, .int .i64 0, .int .i64 0, .int .i64 0, .int .i64 0, .int .i64 0, .int .i64 0, .bool false, .bool false, .bool false, .int .u64 0, .int .i64 0, .int .u64 0, .int .u64 0, .int .u64 0, .int .i64 0, .int .i64 0, .int .i64 0, .int .i64 0, .int .i64 0, .int .i64 0, .int .i64 0, .bool false, .bool false, .bool false, .bool false, .bool false, .bool false, .bool false, .bool false, .bool false, .int .i64 0, .int .i64 0, .int .i64 0, .int .i64 0, .int .i64 0, .int .i64 0, .int .i64 0, .bool false, .bool false, .bool false, .int .u64 0, .int .i64 0, .int .u64 0, .int .u64 0, .int .u64 0, .int .i64 0, .int .i64 0, .int .i64 0, .int .i64 0, .int .i64 0, .int .i64 0, .int .i64 0, .bool false, .bool false, .bool false, .bool false, .bool false, .bool false, .bool false, .bool false, .bool false, .int .i64 0, .int .i64 0, .int .i64 0, .int .i64 0, .int .i64 0, .int .i64 0, .int .i64 0, .bool false, .bool false, .bool false, .int .u64 0, .int .i64 0, .int .u64 0, .int .u64 0, .int .u64 0, .int .i64 0, .int .i64 0, .int .i64 0, .int .i64 0, .int .i64 0, .int .i64 0, .int .i64 0, .bool false, .bool false, .bool false, .bool false, .bool false, .bool false, .bool false, .bool false, .bool false, .int .i64 0, .int .i64 0, .int .i64 0, .int .i64 0, .int .i64 0, .int .i64 0, .int .i64 0, .bool false, .bool false, .bool false, .int .u64 0, .int .i64 0, .int .u64 0, .int .u64 0, .int .u64 0, .int .i64 0, .int .i64 0, .int .i64 0, .int .i64 0, .int .i64 0, .int .i64 0, .int .i64 0, .bool false, .bool false, .bool false, .bool false, .bool false, .bool false, .bool false, .bool false, .bool false, .int .i64 0, .int .i64 0, .int .i64 0, .int .i64 0, .int .i64 0, .int .i64 0, .int .i64 0, .bool false, .bool false, .bool false, .int .u64 0, .int .i64 0, .int .u64 0, .int .u64 0, .int .u64 0, .int .i64 0, .int .i64 0, .int .i64 0, .int .i64 0, .int .i64 0, .int .i64 0, .int .i64 0, .bool false, .bool false, .bool false, .bool false, .bool false, .bool false, .bool false, .bool false, .bool false, .int .i64 0, .int .i64 0, .int .i64 0, .int .i64 0, .int .i64 0, .int .i64 0, .int .i64 0, .bool false, .bool false, .bool false, .int .u64 0, .int .i64 0, .int .u64 0, .int .u64 0, .int .u64 0, .int .i64 0, .int .i64 0, .int .i64 0, .int .i64 0, .int .i64 0, .int .i64 0, .int .i64 0, .bool false, .bool false, .bool false, .bool false, .bool false, .bool false, .bool false, .bool false, .bool false, .int .i64 0, .int .i64 0, .int .i64 0, .int .i64 0, .int .i64 0, .int .i64 0, .int .i64 0]], []⟩ 8 (by kernel_rfl) (by kernel_rfl) (by kernel_rfl) (by kernel_rfl))
    laidOut (by rw [Try.params3]; decide +kernel) rfl Try.underlying4 rfl ?_ ?_
  · intro ds hl
    match ds, hl with
    | [d0], _ => rfl
  · intro W base args ds p hval hA
    rw [Try.params3] at hA hval
    obtain ⟨v0, vs0, d0, ds0, p0, q0, hargs, rfl, rfl, h0, r0⟩ := trodAll_cons hA
    obtain ⟨rfl, rfl, rfl⟩ := trodAll_nil r0
    obtain rfl : args = #[v0] := by cases args; simp_all
    obtain ⟨x0, rfl⟩ := Tre.open_td (hval 0 31 v0 rfl rfl) h0
    exact Rip.walk_follows W x0

theorem over : Rows.rippleFollowsRow.holds Try.pinned (OpenSpec.ofChange Rows.rippleFollowsSpec) :=
  OpenClaim.holds_of_wide 3 Try.f3 rfl rfl rfl rfl rfl rfl rfl ⟨rfl, rfl, rfl, rfl, rfl⟩ rfl rfl rfl rfl rfl (by kernel_rfl) Try.func3 (by kernel_rfl)
    (of_decide_eq_true (by kernel_rfl)) (by unfold Func.isWrapper; first | (rw [if_pos (by decide +kernel)]; kernel_rfl) | (rw [if_neg (by decide +kernel)]; exact ⟨rfl, rfl⟩))
    (fun os started H enc _ => lifted os started H enc)
end LawRippleFollows

/-- The statement RippleFollows. -/
theorem rippleFollows_holds : Rows.RippleFollowsSaid := LawRippleFollows.over

end Go.Proofs.Ytihfganogemgkaa
