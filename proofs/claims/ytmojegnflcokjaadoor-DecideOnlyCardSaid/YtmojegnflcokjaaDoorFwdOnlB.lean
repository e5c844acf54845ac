/-
 The law DecideOnly where it goes all its way.
-/
import Derived.Test.YtmojegnflcokjaaDoorFwdOnlA
namespace Go.Proofs.YtmojegnflcokjaaDoor
open Go.RowKit
namespace Fwd
open Oct Eth Tab

set_option maxRecDepth 100000 in
set_option maxHeartbeats 8000000 in
theorem only_all (Lo : List Tab.Ev) (hlo : Lo.length ≤ maxLen) (A0 : Option Addr) (c0 : Nat) (o k : Nat → Int) (AP : Option Addr) (n c : Nat) (d s : Int) (g : Bool) (p v t : Int) (X : ByteArray) (q ln op : Int) (w : World) (hT : ¬ (60 : Int) < Lo.length) (hX : ¬ 12000 < X.size) (hA : Tab.Ops w A0 Lo) (hmo : ∀ o ∈ Lo, o.m < 18446744073709551616)
  (HLG : Hid (∀ w', Below w.heap.size w w' → Calls Tryd.prog 6 #[Mem.pv o k AP n c] w' fun e w'' => e = .returned (.bool false) ∧ Below w'.heap.size w' w''))
  (HRI : Hid (∀ w', Below w.heap.size w w' → Calls Tryd.prog 18 #[Mem.pv o k AP n c] w' fun e w'' => e = .returned (.bool true) ∧ Below w'.heap.size w' w''))
  (HNE : Hid (∀ w', Calls Tryd.prog 19 #[.int .i64 6, .int .i64 9] w' fun e w'' => e = .returned (.tuple #[tv 6 9 none 0 0, .int .i64 0]) ∧ Below w'.heap.size w' w''))
  (HTL : Hid (∀ l, Tab.Inv 6 9 l → ∃ l2 outs V tk K hO hLn e there gp F O N, Tail w o k AP n c d s g p v t X q ln op l l2 outs V tk K hO hLn e there gp F O N))
  (HAW : Hid (∀ w', Below w.heap.size w w' → Calls Tryd.prog 8 #[] w' fun e w'' => e = .returned (.bool true) ∧ Below w'.heap.size w' w'')) :
  Calls Tryd.prog 4 #[.slice A0 Lo.length c0, xv o k AP n c d s g p v t X, .agg #[.int .i64 q, .int .i64 ln, .int .i64 op]] w fun e w' => e = .returned (.bool true) ∧ Below w.heap.size w w' := by
 have hlo' : Lo.length ≤ 9223372036854775807 := hlo
 go_enter Tryd.func4, Tryd.ntmps4
 go_wp2
 have BX := Lib.hid ((Bx.Blk.new w (xc o k AP n c d s g p v t X) 34).more (.cells #[.int .i64 q, .int .i64 ln, .int .i64 op] 36))
 have BY := Lib.hid (Bx.Blk.new_at (W := w.alloc (xo o k AP n c d s g p v t X)) (k := w.heap.size + 1) [.int .i64 q, .int .i64 ln, .int .i64 op] 36 (by simp))
 have bel := Bx.bel_box (Bx.box_below w (xo o k AP n c d s g p v t X)) (.cells #[.int .i64 q, .int .i64 ln, .int .i64 op] 36)
 have hsz : w.heap.size + 2 = ((w.alloc (xo o k AP n c d s g p v t X)).alloc (.cells #[.int .i64 q, .int .i64 ln, .int .i64 op] 36)).heap.size := by simp
 generalize hg : (w.alloc (xo o k AP n c d s g p v t X)).alloc (.cells #[.int .i64 q, .int .i64 ln, .int .i64 op] 36) = W0 at *
 clear hg
 go_cut [7, 8] (fun s7 s8 wx => ∃ m7 m8 : Nat, s7 = .pointer (some ⟨m7, 0, none⟩) ∧ s8 = .pointer (some ⟨m8, 0, none⟩) ∧ W0.heap.size ≤ m7 ∧ W0.heap.size ≤ m8 ∧ m7 ≠ m8 ∧ Below W0.heap.size W0 wx ∧ Bx.Blk wx m7 (Mem.pc o k AP n c) ∧ Bx.Fre wx m8 (Mem.fc d s g p v t X))
 case first =>
  refine wp_region_noPanic ?_
  refine wp_region_held_drew (S := fun w' => Bx.Blk w' w.heap.size (xc o k AP n c d s g p v t X)) (by kernel_rfl) (by exact BX.out) (fun hHeld => ?_)
  refine wpAnyH_take (i := 0) (oi := ?o0) (v := ?v0) ?hi0 (by kernel_rfl) (by kernel_rfl) (by kernel_rfl) (fun _ _ _ h => h) ?y0 (by assumption) ?r0
  case hi0 => (simp only [List.getElem?_toArray, List.getElem?_cons_zero]; rfl)
  case y0 => (refine Or.inl ⟨by rfl, ?_⟩; intro w' hSw; (try dsimp only at hSw); go_simp; (try with_reducible rfl))
  try simp only [Act.put, List.setIfInBounds_toArray, List.set_cons_zero, List.set_cons_succ]
  refine wpAnyH_take (i := 1) (oi := ?o1) (v := Mem.pv o k AP n c) ?hi1 (by kernel_rfl) (by kernel_rfl) (by kernel_rfl) (fun _ _ _ h => h) ?y1 (by assumption) ?r1
  case hi1 => (simp only [List.getElem?_toArray, List.getElem?_cons_succ, List.getElem?_cons_zero]; rfl)
  case y1 => (refine yields_plan rfl _ rfl w.heap.size rfl o k AP n c d s g p v t X ?_; intro w' hS; exact hS)
  try simp only [Act.put, List.setIfInBounds_toArray, List.set_cons_zero, List.set_cons_succ]
  refine wpAnyH_take (i := 2) (oi := ?o2) (v := ?v2) ?hi2 (by kernel_rfl) (by kernel_rfl) (by kernel_rfl) (fun _ _ _ h => h) ?y2 (by assumption) ?r2
  case hi2 => (simp only [List.getElem?_toArray, List.getElem?_cons_succ, List.getElem?_cons_zero]; rfl)
  case y2 => (refine Or.inl ⟨by rfl, ?_⟩; intro w' hSw; (try dsimp only at hSw); go_simp; (try with_reducible rfl))
  try simp only [Act.put, List.setIfInBounds_toArray, List.set_cons_zero, List.set_cons_succ]
  refine wpAnyH_take (i := 3) (oi := ?o3) (v := fr d s g p v t X) ?hi3 (by kernel_rfl) (by kernel_rfl) (by kernel_rfl) (fun _ _ _ h => h) ?y3 (by assumption) ?r3
  case hi3 => (simp only [List.getElem?_toArray, List.getElem?_cons_succ, List.getElem?_cons_zero]; rfl)
  case y3 => (refine yields_frame rfl _ rfl w.heap.size rfl o k AP n c d s g p v t X ?_; intro w' hS; exact hS)
  try simp only [Act.put, List.setIfInBounds_toArray, List.set_cons_zero, List.set_cons_succ]
  refine wpAnyH_ready (rs := [4, 5]) (by kernel_rfl) (by simp) ?_
  refine AllReadyH.cons (o := ?o4) ?hi4 ?hst4 (AllReadyH.cons (o := ?o5) ?hi5 ?hst5 AllReadyH.nil)
  case hi4 => (simp only [List.getElem?_toArray, List.getElem?_cons_succ, List.getElem?_cons_zero]; rfl)
  case hi5 => (simp only [List.getElem?_toArray, List.getElem?_cons_succ, List.getElem?_cons_zero]; rfl)
  case hst4 =>
   intro K hK
   go_simp
   refine hK.out _ _ (Bx.Blk.more hHeld _) (fun hNew => ?_)
   clear hHeld
   have hHeld := hNew
   clear hNew hK K
   have NP := Lib.hid (Bx.Own.new W0 [.int .i64 0, .int .i64 0, .int .i64 0, .int .i64 0, .int .i64 0, .int .i64 0, .int .i64 0, .int .i64 0, .int .i64 0, .int .i64 0, .int .i64 0, .int .i64 0, .int .i64 0, .int .i64 0, .int .i64 0, .int .i64 0, .slice none 0 0] 28).draw
   have BE := Lib.hid (Bx.bel_drewn (Bx.bel_box (Bx.bel_refl W0) (Obj.cells #[.int .i64 0, .int .i64 0, .int .i64 0, .int .i64 0, .int .i64 0, .int .i64 0, .int .i64 0, .int .i64 0, .int .i64 0, .int .i64 0, .int .i64 0, .int .i64 0, .int .i64 0, .int .i64 0, .int .i64 0, .int .i64 0, .slice none 0 0] 28)))
   refine wpAnyH_ready (rs := [5]) (by kernel_rfl) (by simp) ?_
   refine AllReadyH.cons (o := ?o5a) ?hi5a ?hst5a AllReadyH.nil
   case hi5a => (simp only [List.getElem?_toArray, List.getElem?_cons_succ, List.getElem?_cons_zero]; rfl)
   intro K hK
   go_simp
   refine hK.out _ _ (Bx.Blk.more hHeld _) (fun hNew => ?_)
   clear hHeld
   have hHeld := hNew
   clear hNew hK K
   replace NP := Lib.hid (NP.out.more (Obj.cells #[.int .u64 0, .int .u64 0, .bool false, .int .i64 0, .int .i64 0, .int .i64 0, .string ⟨#[]⟩] 32))
   have NF := Lib.hid (Bx.Own.new_at (W := (W0.alloc (Obj.cells #[.int .i64 0, .int .i64 0, .int .i64 0, .int .i64 0, .int .i64 0, .int .i64 0, .int .i64 0, .int .i64 0, .int .i64 0, .int .i64 0, .int .i64 0, .int .i64 0, .int .i64 0, .int .i64 0, .int .i64 0, .int .i64 0, .slice none 0 0] 28)).drew) (k := W0.heap.size + 1) [.int .u64 0, .int .u64 0, .bool false, .int .i64 0, .int .i64 0, .int .i64 0, .string ⟨#[]⟩] 32 (by simp [World.drew]))
   replace BE := Lib.hid (Bx.bel_box BE.out (Obj.cells #[.int .u64 0, .int .u64 0, .bool false, .int .i64 0, .int .i64 0, .int .i64 0, .string ⟨#[]⟩] 32))
   have ZZ := Lib.hid (fun j => show ((W0.alloc (Obj.cells #[.int .i64 0, .int .i64 0, .int .i64 0, .int .i64 0, .int .i64 0, .int .i64 0, .int .i64 0, .int .i64 0, .int .i64 0, .int .i64 0, .int .i64 0, .int .i64 0, .int .i64 0, .int .i64 0, .int .i64 0, .int .i64 0, .slice none 0 0] 28)).drew.alloc (Obj.cells #[.int .u64 0, .int .u64 0, .bool false, .int .i64 0, .int .i64 0, .int .i64 0, .string ⟨#[]⟩] 32)).frozen? ⟨W0.heap.size + 1, j, none⟩ = false from frozen_at (W0.alloc (Obj.cells #[.int .i64 0, .int .i64 0, .int .i64 0, .int .i64 0, .int .i64 0, .int .i64 0, .int .i64 0, .int .i64 0, .int .i64 0, .int .i64 0, .int .i64 0, .int .i64 0, .int .i64 0, .int .i64 0, .int .i64 0, .int .i64 0, .slice none 0 0] 28)).drew #[.int .u64 0, .int .u64 0, .bool false, .int .i64 0, .int .i64 0, .int .i64 0, .string ⟨#[]⟩] 32 (by simp [World.drew]) j)
   refine wpAnyH_ready (rs := [6]) (by kernel_rfl) (by simp) ?_
   refine AllReadyH.cons (o := ?o6a) ?hi6a ?hst6a AllReadyH.nil
   case hi6a => (simp only [List.getElem?_toArray, List.getElem?_cons_succ, List.getElem?_cons_zero]; rfl)
   intro K hK
   rw [if_pos (by rfl)]
   refine wp_store_plan _ _ rfl (W0.heap.size) [.int .i64 0, .int .i64 0, .int .i64 0, .int .i64 0, .int .i64 0, .int .i64 0, .int .i64 0, .int .i64 0, .int .i64 0, .int .i64 0, .int .i64 0, .int .i64 0, .int .i64 0, .int .i64 0, .int .i64 0, .int .i64 0, .slice none 0 0] rfl o k AP n c rfl rfl NP.out ?_
   refine hK.out _ _ (Bx.Blk.apart hHeld (by omega)) (fun hNew => ?_)
   clear hHeld
   have hHeld := hNew
   clear hNew hK K
   replace NP := Lib.hid (NP.out.put (m := (Mem.pc o k AP n c)) rfl)
   replace NF := Lib.hid (NF.out.apart (k' := W0.heap.size) (m := (Mem.pc o k AP n c)) (by omega))
   replace BE := Lib.hid (Bx.bel_cells (k := W0.heap.size) (m := (Mem.pc o k AP n c)) BE.out (Nat.le_refl _))
   refine wpAnyH_ready (rs := [7]) (by kernel_rfl) (by simp) ?_
   refine ready_frame (oi := ?o7a) (x := ?x7a) (y := ?y7a) ?hi7a ?hw7a ?ho7a (W0.heap.size + 1) [.int .u64 0, .int .u64 0, .bool false, .int .i64 0, .int .i64 0, .int .i64 0, .string ⟨#[]⟩] rfl d s g p v t X ?hx7a ?hz7a NF.out (Bx.Blk.apart hHeld (by omega)) ?rest7a
   case hi7a => (simp only [List.getElem?_toArray, List.getElem?_cons_succ, List.getElem?_cons_zero]; rfl)
   case hw7a => rfl
   case ho7a => rfl
   case hx7a => rfl
   case hz7a => rfl
   replace hHeld := Bx.Blk.apart (k' := W0.heap.size + 1) (m := (Mem.fc d s g p v t X)) hHeld (by omega)
   replace NF := Lib.hid (NF.out.put (m := (Mem.fc d s g p v t X)) rfl)
   replace NP := Lib.hid (NP.out.apart (k' := W0.heap.size + 1) (m := (Mem.fc d s g p v t X)) (by omega))
   replace BE := Lib.hid (Bx.bel_cells (k := W0.heap.size + 1) (m := (Mem.fc d s g p v t X)) BE.out (Nat.le_succ _))
   refine wpAnyH_done (by kernel_rfl) ?_ _
   refine NoPanic.normal ?_
   go_wp2_with fail
   go_meet
   exact ⟨W0.heap.size, W0.heap.size + 1, rfl, rfl, (Nat.le_refl _), (Nat.le_succ _), by omega, BE.out, NP.out.1, ⟨NF.out.1, NF.out.1.lt (by simp), fun j => by rw [frozen_cells, frozen_cells]; exact ZZ.out j⟩⟩
  case hst5 =>
   intro K hK
   go_simp
   refine hK.out _ _ (Bx.Blk.more hHeld _) (fun hNew => ?_)
   clear hHeld
   have hHeld := hNew
   clear hNew hK K
   have NF := Lib.hid (Bx.Own.new W0 [.int .u64 0, .int .u64 0, .bool false, .int .i64 0, .int .i64 0, .int .i64 0, .string ⟨#[]⟩] 32).draw
   have BE := Lib.hid (Bx.bel_drewn (Bx.bel_box (Bx.bel_refl W0) (Obj.cells #[.int .u64 0, .int .u64 0, .bool false, .int .i64 0, .int .i64 0, .int .i64 0, .string ⟨#[]⟩] 32)))
   have ZZ := Lib.hid (fun j => show (W0.alloc (Obj.cells #[.int .u64 0, .int .u64 0, .bool false, .int .i64 0, .int .i64 0, .int .i64 0, .string ⟨#[]⟩] 32)).drew.frozen? ⟨W0.heap.size, j, none⟩ = false from World.frozen?_alloc_new W0 #[.int .u64 0, .int .u64 0, .bool false, .int .i64 0, .int .i64 0, .int .i64 0, .string ⟨#[]⟩] 32 j)
   refine wpAnyH_ready (rs := [4]) (by kernel_rfl) (by simp) ?_
   refine AllReadyH.cons (o := ?o4b) ?hi4b ?hst4b AllReadyH.nil
   case hi4b => (simp only [List.getElem?_toArray, List.getElem?_cons_succ, List.getElem?_cons_zero]; rfl)
   intro K hK
   go_simp
   refine hK.out _ _ (Bx.Blk.more hHeld _) (fun hNew => ?_)
   clear hHeld
   have hHeld := hNew
   clear hNew hK K
   replace NF := Lib.hid (NF.out.more (Obj.cells #[.int .i64 0, .int .i64 0, .int .i64 0, .int .i64 0, .int .i64 0, .int .i64 0, .int .i64 0, .int .i64 0, .int .i64 0, .int .i64 0, .int .i64 0, .int .i64 0, .int .i64 0, .int .i64 0, .int .i64 0, .int .i64 0, .slice none 0 0] 28))
   have NP := Lib.hid (Bx.Own.new_at (W := (W0.alloc (Obj.cells #[.int .u64 0, .int .u64 0, .bool false, .int .i64 0, .int .i64 0, .int .i64 0, .string ⟨#[]⟩] 32)).drew) (k := W0.heap.size + 1) [.int .i64 0, .int .i64 0, .int .i64 0, .int .i64 0, .int .i64 0, .int .i64 0, .int .i64 0, .int .i64 0, .int .i64 0, .int .i64 0, .int .i64 0, .int .i64 0, .int .i64 0, .int .i64 0, .int .i64 0, .int .i64 0, .slice none 0 0] 28 (by simp [World.drew]))
   replace BE := Lib.hid (Bx.bel_box BE.out (Obj.cells #[.int .i64 0, .int .i64 0, .int .i64 0, .int .i64 0, .int .i64 0, .int .i64 0, .int .i64 0, .int .i64 0, .int .i64 0, .int .i64 0, .int .i64 0, .int .i64 0, .int .i64 0, .int .i64 0, .int .i64 0, .int .i64 0, .slice none 0 0] 28))
   replace ZZ := Lib.hid (fun j => show ((W0.alloc (Obj.cells #[.int .u64 0, .int .u64 0, .bool false, .int .i64 0, .int .i64 0, .int .i64 0, .string ⟨#[]⟩] 32)).drew.alloc (Obj.cells #[.int .i64 0, .int .i64 0, .int .i64 0, .int .i64 0, .int .i64 0, .int .i64 0, .int .i64 0, .int .i64 0, .int .i64 0, .int .i64 0, .int .i64 0, .int .i64 0, .int .i64 0, .int .i64 0, .int .i64 0, .int .i64 0, .slice none 0 0] 28)).frozen? ⟨W0.heap.size, j, none⟩ = false from (frozen_old (W0.alloc (Obj.cells #[.int .u64 0, .int .u64 0, .bool false, .int .i64 0, .int .i64 0, .int .i64 0, .string ⟨#[]⟩] 32)).drew (Obj.cells #[.int .i64 0, .int .i64 0, .int .i64 0, .int .i64 0, .int .i64 0, .int .i64 0, .int .i64 0, .int .i64 0, .int .i64 0, .int .i64 0, .int .i64 0, .int .i64 0, .int .i64 0, .int .i64 0, .int .i64 0, .int .i64 0, .slice none 0 0] 28) (by simp [World.drew]) j).trans (ZZ.out j))
   refine wpAnyH_ready (rs := [6]) (by kernel_rfl) (by simp) ?_
   refine AllReadyH.cons (o := ?o6b) ?hi6b ?hst6b AllReadyH.nil
   case hi6b => (simp only [List.getElem?_toArray, List.getElem?_cons_succ, List.getElem?_cons_zero]; rfl)
   intro K hK
   rw [if_pos (by rfl)]
   refine wp_store_plan _ _ rfl (W0.heap.size + 1) [.int .i64 0, .int .i64 0, .int .i64 0, .int .i64 0, .int .i64 0, .int .i64 0, .int .i64 0, .int .i64 0, .int .i64 0, .int .i64 0, .int .i64 0, .int .i64 0, .int .i64 0, .int .i64 0, .int .i64 0, .int .i64 0, .slice none 0 0] rfl o k AP n c rfl rfl NP.out ?_
   refine hK.out _ _ (Bx.Blk.apart hHeld (by omega)) (fun hNew => ?_)
   clear hHeld
   have hHeld := hNew
   clear hNew hK K
   replace NP := Lib.hid (NP.out.put (m := (Mem.pc o k AP n c)) rfl)
   replace NF := Lib.hid (NF.out.apart (k' := W0.heap.size + 1) (m := (Mem.pc o k AP n c)) (by omega))
   replace BE := Lib.hid (Bx.bel_cells (k := W0.heap.size + 1) (m := (Mem.pc o k AP n c)) BE.out (Nat.le_succ _))
   refine wpAnyH_ready (rs := [7]) (by kernel_rfl) (by simp) ?_
   refine ready_frame (oi := ?o7b) (x := ?x7b) (y := ?y7b) ?hi7b ?hw7b ?ho7b (W0.heap.size) [.int .u64 0, .int .u64 0, .bool false, .int .i64 0, .int .i64 0, .int .i64 0, .string ⟨#[]⟩] rfl d s g p v t X ?hx7b ?hz7b NF.out (Bx.Blk.apart hHeld (by omega)) ?rest7b
   case hi7b => (simp only [List.getElem?_toArray, List.getElem?_cons_succ, List.getElem?_cons_zero]; rfl)
   case hw7b => rfl
   case ho7b => rfl
   case hx7b => rfl
   case hz7b => rfl
   replace hHeld := Bx.Blk.apart (k' := W0.heap.size) (m := (Mem.fc d s g p v t X)) hHeld (by omega)
   replace NF := Lib.hid (NF.out.put (m := (Mem.fc d s g p v t X)) rfl)
   replace NP := Lib.hid (NP.out.apart (k' := W0.heap.size) (m := (Mem.fc d s g p v t X)) (by omega))
   replace BE := Lib.hid (Bx.bel_cells (k := W0.heap.size) (m := (Mem.fc d s g p v t X)) BE.out (Nat.le_refl _))
   refine wpAnyH_done (by kernel_rfl) ?_ _
   refine NoPanic.normal ?_
   go_wp2_with fail
   go_meet
   exact ⟨W0.heap.size + 1, W0.heap.size, rfl, rfl, (Nat.le_succ _), (Nat.le_refl _), by omega, BE.out, NP.out.1, ⟨NF.out.1, NF.out.1.lt (by simp), fun j => by rw [frozen_cells, frozen_cells]; exact ZZ.out j⟩⟩
 case rest =>
  obtain ⟨m7, m8, rfl, rfl, hm7, hm8, n78, hb, P, FF⟩ := hcut
  have n7a : m7 ≠ w.heap.size + 1 ∧ w.heap.size ≤ m7 := by omega
  have n8a : m8 ≠ w.heap.size + 1 ∧ w.heap.size ≤ m8 := by omega
  replace bel := Bx.then_below bel hb
  replace BY := Lib.hid (BY.out.keep hb)
  replace P := Lib.hid P
  replace FF := Lib.hid FF
  clear hb BX hsz hm7 hm8
  have B0 := BY
  have B1 := P
  have B2 := Lib.hid FF.out.1
  clear BY P FF
  obtain ⟨c0_0, c0_1, c0_2⟩ := B0.out.all3
  obtain ⟨c2_0, c2_1, c2_2, c2_3, c2_4, c2_5, c2_6⟩ := B2.out.all7
  go_wp2_with (first | ((with_reducible refine Mem.load_at ?_ ?_ (m7) ?_ o k AP n c ?_ ?_); (· rfl); (· rfl); (· rfl); (· exact B1.out)))
  refine (HLG.out _ bel).mono ?_; rintro e w1 ⟨rfl, hb1⟩
  replace bel := Bx.then_below bel hb1
  replace B0 := Lib.hid (B0.out.keep hb1)
  replace B1 := Lib.hid (B1.out.keep hb1)
  replace B2 := Lib.hid (B2.out.keep hb1)
  clear hb1
  clear c0_0 c0_1 c0_2 c2_0 c2_1 c2_2 c2_3 c2_4 c2_5 c2_6
  obtain ⟨c0_0, c0_1, c0_2⟩ := B0.out.all3
  obtain ⟨c2_0, c2_1, c2_2, c2_3, c2_4, c2_5, c2_6⟩ := B2.out.all7
  go_wp2_with (first | ((with_reducible refine Mem.load_at ?_ ?_ (m7) ?_ o k AP n c ?_ ?_); (· rfl); (· rfl); (· rfl); (· exact B1.out)))
  refine (HRI.out _ bel).mono ?_; rintro e w2 ⟨rfl, hb2⟩
  replace bel := Bx.then_below bel hb2
  replace B0 := Lib.hid (B0.out.keep hb2)
  replace B1 := Lib.hid (B1.out.keep hb2)
  replace B2 := Lib.hid (B2.out.keep hb2)
  clear hb2
  clear c0_0 c0_1 c0_2 c2_0 c2_1 c2_2 c2_3 c2_4 c2_5 c2_6
  obtain ⟨c0_0, c0_1, c0_2⟩ := B0.out.all3
  obtain ⟨c2_0, c2_1, c2_2, c2_3, c2_4, c2_5, c2_6⟩ := B2.out.all7
  go_wp2_with (first | ((with_reducible refine Mem.load_at ?_ ?_ (m7) ?_ o k AP n c ?_ ?_); (· rfl); (· rfl); (· rfl); (· exact B1.out)))
  refine (HNE.out _).mono ?_; rintro e w3 ⟨rfl, hb⟩
  have hk9 : w.heap.size ≤ w3.heap.size := Nat.le_trans bel.size hb.size
  have n09 : w.heap.size + 1 < w3.heap.size := (B0.out.keep hb).lt (by simp)
  have n79 : m7 < w3.heap.size := (B1.out.keep hb).lt (by simp)
  have n89 : m8 < w3.heap.size := (B2.out.keep hb).lt (by simp)
  replace hb := Bx.bel_box hb (Tab.to 6 9 none 0 0)
  replace bel := Bx.then_below bel hb
  replace B0 := Lib.hid (B0.out.keep hb)
  replace B1 := Lib.hid (B1.out.keep hb)
  replace B2 := Lib.hid (B2.out.keep hb)
  have T0 := Lib.hid (show Tst (w3.alloc (Tab.to 6 9 none 0 0)) w3.heap.size 6 9 none [] 0 from ⟨Tab.Fre.new w3 [.int .i64 6, .int .i64 9, .slice none 0 0] 24, Tab.Ents.nil _ _, fun b o e => by cases e⟩)
  have HI0 := Lib.hid (show Tab.Inv 6 9 [] from ⟨Tab.Snd.nil (by decide), fun e he => by simp at he⟩)
  have HA := Lib.hid hA
  have HMO := Lib.hid hmo
  clear hA hmo
  clear hb c0_0 c0_1 c0_2 c2_0 c2_1 c2_2 c2_3 c2_4 c2_5 c2_6
  go_wp2
  generalize hg : w3.alloc (Tab.to 6 9 none 0 0) = W3 at *
  clear hg
  generalize w3.heap.size = m9 at *
  go_loopw [12, 52] (fun _ ix wr => ∃ (k0 : Nat) (l : List Tab.En) (A : Option Addr) (a : Nat), k0 ≤ Lo.length ∧ ix = .int .i64 k0 ∧ Aside (Tab.Inv 6 9 l) ∧ Aside (Tst wr m9 6 9 A l a) ∧ Aside (Bx.Blk wr (w.heap.size + 1) [.int .i64 q, .int .i64 ln, .int .i64 op]) ∧ Aside (Bx.Blk wr m7 (Mem.pc o k AP n c)) ∧ Aside (Bx.Blk wr m8 (Mem.fc d s g p v t X)) ∧ Aside (Below w.heap.size w wr)) (fun _ ix _ => Lo.length - (RowKit.intOf ix).toNat)
  case atStart => exact ⟨0, [], none, 0, Nat.zero_le _, rfl, HI0.out, T0.out, B0.out, B1.out, B2.out, bel⟩
  case round =>
   obtain ⟨k0, l, A, a, hk, rfl, HV, HT, H0, H1, H2, HB⟩ := hrel
   have hll : l.length ≤ 6 := by have := HV.out.snd.len; omega
   clear B0 B1 B2 T0 HI0 bel
   by_cases hlt : k0 < Lo.length
   ·
    as_aux_lemma =>
    obtain ⟨b, i, rfl, _, e0, e1, e2, e3, e4⟩ := (HA.out.below HB.out).at hlt
    have hom := HMO.out Lo[k0] (List.getElem_mem hlt)
    generalize Lo[k0] = ov at *
    obtain ⟨ek, ew, em, ep, es⟩ := ov
    simp only at e0 e1 e2 e3 e4 hom
    have HST := Lib.hid (fun (w : World) hE => Tab.step_any 6 9 (by decide) l (by omega) HV.out.old A a ⟨ek, ew, em, ep, es⟩ hom w hE)
    have HNX := Lib.hid (HV.out.step (by decide) ⟨ek, ew, em, ep, es⟩ hom)
    generalize Tab.stepN 6 9 l ⟨ek, ew, em, ep, es⟩ = num at *
    generalize Tab.stepE 6 l ⟨ek, ew, em, ep, es⟩ = err at *
    generalize Tab.stepL 6 9 l ⟨ek, ew, em, ep, es⟩ = l' at *
    have hX9 := Bx.box_below wr (Tab.opo ek ew em ep es)
    have TX := Lib.hid (HT.out.below hX9)
    have X0 := Lib.hid (H0.out.keep hX9)
    have X1 := Lib.hid (H1.out.keep hX9)
    have X2 := Lib.hid (H2.out.keep hX9)
    have BX := Lib.hid (Bx.bel_box HB.out (Tab.opo ek ew em ep es))
    have OX := Lib.hid (Bx.Blk.new wr [.int .i64 ek, .int .i64 ew, .int .u64 em, .int .i64 ep, .int .i64 es] 55)
    obtain ⟨t0, t1, t2⟩ := TX.out.1.1.all3
    obtain ⟨o0, o1, o2, o3, o4⟩ := OX.out.all5
    clear hX9
    go_wp2_with fail
    refine (HST.out _ TX.out.2.1).mono ?_; rintro e w1 ⟨A', a', rfl, hA', hE', hb⟩
    clear t0 t1 t2 o0 o1 o2 o3 o4 e0 e1 e2 e3 e4
    have HAN := Lib.hid (show ∀ b' o, A' = some ⟨b', o, none⟩ → 0 < l'.length → b' ≠ m9 from fun b' o e h0 => by
     rcases hA' with ⟨rfl, rfl⟩ | hA'
     ·
      exact TX.out.2.2 b' o e h0
     ·
      have := hA' b' o e
      have := TX.out.1.2.1
      omega)
    have T1 := Lib.hid (TX.out.below hb)
    have E1 := Lib.hid hE'
    obtain ⟨⟨t0, t1, t2⟩, f0, f1, f2⟩ := T1.out.1.all3
    have BF := Lib.hid ((((Bx.then_below BX.out hb).setCell (p := ⟨m9, 0, none⟩) hk9 (.int .i64 6)).setCell (p := ⟨m9, 1, none⟩) hk9 (.int .i64 9)).setCell (p := ⟨m9, 2, none⟩) hk9 (.slice A' l'.length a'))
    have TF := Lib.hid (Tst.put (most := 6) (long := 9) (c := a') T1.out.1 E1.out HAN.out)
    have Z0 := Lib.hid ((((X0.out.keep hb).other (o := 0) (x := .int .i64 6) (Nat.ne_of_lt n09)).other (o := 1) (x := .int .i64 9) (Nat.ne_of_lt n09)).other (o := 2) (x := .slice A' l'.length a') (Nat.ne_of_lt n09))
    have Z1 := Lib.hid ((((X1.out.keep hb).other (o := 0) (x := .int .i64 6) (Nat.ne_of_lt n79)).other (o := 1) (x := .int .i64 9) (Nat.ne_of_lt n79)).other (o := 2) (x := .slice A' l'.length a') (Nat.ne_of_lt n79))
    have Z2 := Lib.hid ((((X2.out.keep hb).other (o := 0) (x := .int .i64 6) (Nat.ne_of_lt n89)).other (o := 1) (x := .int .i64 9) (Nat.ne_of_lt n89)).other (o := 2) (x := .slice A' l'.length a') (Nat.ne_of_lt n89))
    clear hA' hE' hb TX OX BX T1 E1 HAN HT HB X0 X1 X2 H0 H1 H2
    go_wp2
    go_roundw
    case rel => exact ⟨k0 + 1, l', A', a', by omega, by go_num, HNX.out, TF.out, Z0.out, Z1.out, Z2.out, BF.out⟩
    case measure => simp [RowKit.intOf]; omega
   ·
    obtain rfl : k0 = Lo.length := by omega
    obtain ⟨l2, outs, V, tk, K, hO, hLn, en, there, gp, F, O, N, hTa⟩ := HTL.out l HV.out
    have ho8 := hTa.len8
    have HTa := Lib.hid hTa
    have bel := HB.out
    have B0 := H0
    have B1 := H1
    have B2 := H2
    have T9 := HT
    obtain ⟨qv, qm, qp, qa⟩ := en
    clear hTa HTL HB H0 H1 H2 HT HV HNE HLG HRI HA HMO hk hll hlt
    obtain ⟨c0_0, c0_1, c0_2⟩ := B0.out.all3
    obtain ⟨c2_0, c2_1, c2_2, c2_3, c2_4, c2_5, c2_6⟩ := B2.out.all7
    obtain ⟨t9_0, t9_1, t9_2⟩ := T9.out.1.1.all3
    go_wp2_with (first | ((with_reducible refine Mem.load_at ?_ ?_ (m7) ?_ o k AP n c ?_ ?_); (· rfl); (· rfl); (· rfl); (· exact B1.out)))
    refine (HTa.out.fw _ _ _ bel T9.out.2.1).mono ?_; rintro e w4 ⟨C13, k13, Ao, co, rfl, -, -, hE, hOu, hb⟩
    have hk := Bx.box_below w4 (Tab.to 6 9 C13 l2.length k13)
    replace hb := Bx.bel_box hb (Tab.to 6 9 C13 l2.length k13)
    replace bel := Bx.then_below bel hb
    replace B0 := Lib.hid (B0.out.keep hb)
    replace B1 := Lib.hid (B1.out.keep hb)
    replace B2 := Lib.hid (B2.out.keep hb)
    replace T9 := Lib.hid (T9.out.below hb)
    clear hb
    have E13 := Lib.hid (hE.below hk)
    have OU := Lib.hid (hOu.below hk)
    have T13 := Lib.hid (Bx.Blk.new w4 [.int .i64 6, .int .i64 9, .slice C13 l2.length k13] 24)
    clear hE hOu hk
    clear c0_0 c0_1 c0_2 c2_0 c2_1 c2_2 c2_3 c2_4 c2_5 c2_6 t9_0 t9_1 t9_2
    obtain ⟨c0_0, c0_1, c0_2⟩ := B0.out.all3
    obtain ⟨c2_0, c2_1, c2_2, c2_3, c2_4, c2_5, c2_6⟩ := B2.out.all7
    go_wp2_with (first | ((with_reducible refine Mem.load_at ?_ ?_ (m7) ?_ o k AP n c ?_ ?_); (· rfl); (· rfl); (· rfl); (· exact B1.out)))
    generalize hg : w4.alloc (Tab.to 6 9 C13 l2.length k13) = W4 at *
    clear hg
    generalize w4.heap.size = m13 at *
    refine (HTa.out.tks _ bel).mono ?_; rintro e w5 ⟨rfl, hb⟩
    replace bel := Bx.then_below bel hb
    replace B0 := Lib.hid (B0.out.keep hb)
    replace B1 := Lib.hid (B1.out.keep hb)
    replace B2 := Lib.hid (B2.out.keep hb)
    replace T9 := Lib.hid (T9.out.below hb)
    replace E13 := Lib.hid (E13.out.below hb)
    replace OU := Lib.hid (OU.out.below hb)
    replace T13 := Lib.hid (T13.out.keep hb)
    clear hb
    clear c0_0 c0_1 c0_2 c2_0 c2_1 c2_2 c2_3 c2_4 c2_5 c2_6
    obtain ⟨c0_0, c0_1, c0_2⟩ := B0.out.all3
    obtain ⟨c2_0, c2_1, c2_2, c2_3, c2_4, c2_5, c2_6⟩ := B2.out.all7
    obtain ⟨t9_0, t9_1, t9_2⟩ := T9.out.1.1.all3
    obtain ⟨t13_0, t13_1, t13_2⟩ := T13.out.all3
    go_upto_region 14 with (first | ((with_reducible refine Mem.load_at ?_ ?_ (m7) ?_ o k AP n c ?_ ?_); (· rfl); (· rfl); (· rfl); (· exact B1.out)))
    go_cut [123] (fun s123 wy => s123 = .bool false ∧ Below w5.heap.size w5 wy)
    case first =>
     as_aux_lemma =>
      have bw := Bx.bel_refl w5
      cases tk with
      | false =>
       have hou := HTa.out.none (.inl rfl)
       subst hou
       go_wp2_with fail
       refine (HTa.out.sn _ _ _ E13.out).mono ?_; rintro e w6 ⟨rfl, hb⟩
       replace bel := Bx.then_below bel hb
       replace bw := Bx.then_below bw hb
       replace B0 := Lib.hid (B0.out.keep hb)
       replace B1 := Lib.hid (B1.out.keep hb)
       replace B2 := Lib.hid (B2.out.keep hb)
       replace T9 := Lib.hid (T9.out.below hb)
       replace E13 := Lib.hid (E13.out.below hb)
       replace OU := Lib.hid (OU.out.below hb)
       replace T13 := Lib.hid (T13.out.keep hb)
       clear hb
       clear c0_0 c0_1 c0_2 c2_0 c2_1 c2_2 c2_3 c2_4 c2_5 c2_6 t9_0 t9_1 t9_2 t13_0 t13_1 t13_2
       obtain ⟨c0_0, c0_1, c0_2⟩ := B0.out.all3
       obtain ⟨t9_0, t9_1, t9_2⟩ := T9.out.1.1.all3
       obtain ⟨t13_0, t13_1, t13_2⟩ := T13.out.all3
       go_wp2_with fail
       cases hLn with
       | true =>
        refine (HTa.out.hl _ bel).mono ?_; rintro e w7 ⟨rfl, hb⟩
        replace bel := Bx.then_below bel hb
        replace bw := Bx.then_below bw hb
        replace B0 := Lib.hid (B0.out.keep hb)
        replace B1 := Lib.hid (B1.out.keep hb)
        replace B2 := Lib.hid (B2.out.keep hb)
        replace T9 := Lib.hid (T9.out.below hb)
        replace E13 := Lib.hid (E13.out.below hb)
        replace OU := Lib.hid (OU.out.below hb)
        replace T13 := Lib.hid (T13.out.keep hb)
        clear hb
        clear c0_0 c0_1 c0_2 t9_0 t9_1 t9_2 t13_0 t13_1 t13_2
        go_wp2_with fail
        go_meet
        exact ⟨rfl, bw⟩
       | false =>
        have hl2 : l2 = l := HTa.out.sm rfl
        subst hl2
        refine (HTa.out.hl _ bel).mono ?_; rintro e w7 ⟨rfl, hb⟩
        replace bel := Bx.then_below bel hb
        replace bw := Bx.then_below bw hb
        replace B0 := Lib.hid (B0.out.keep hb)
        replace B1 := Lib.hid (B1.out.keep hb)
        replace B2 := Lib.hid (B2.out.keep hb)
        replace T9 := Lib.hid (T9.out.below hb)
        replace E13 := Lib.hid (E13.out.below hb)
        replace OU := Lib.hid (OU.out.below hb)
        replace T13 := Lib.hid (T13.out.keep hb)
        clear hb
        clear c0_0 c0_1 c0_2 t9_0 t9_1 t9_2 t13_0 t13_1 t13_2
        obtain ⟨t9_0, t9_1, t9_2⟩ := T9.out.1.1.all3
        obtain ⟨t13_0, t13_1, t13_2⟩ := T13.out.all3
        go_wp2_with fail
        refine (HTa.out.same _ _ _ _ _ T9.out.2.1 E13.out).mono ?_; rintro e w8 ⟨rfl, hb⟩
        replace bel := Bx.then_below bel hb
        replace bw := Bx.then_below bw hb
        replace B0 := Lib.hid (B0.out.keep hb)
        replace B1 := Lib.hid (B1.out.keep hb)
        replace B2 := Lib.hid (B2.out.keep hb)
        replace T9 := Lib.hid (T9.out.below hb)
        replace E13 := Lib.hid (E13.out.below hb)
        replace OU := Lib.hid (OU.out.below hb)
        replace T13 := Lib.hid (T13.out.keep hb)
        clear hb
        clear t9_0 t9_1 t9_2 t13_0 t13_1 t13_2
        go_wp2_with fail
        go_meet
        exact ⟨rfl, bw⟩
      | true =>
       go_wp2_with fail
       refine (HTa.out.kd _ bel).mono ?_; rintro e w6 ⟨rfl, hb⟩
       replace bel := Bx.then_below bel hb
       replace bw := Bx.then_below bw hb
       replace B0 := Lib.hid (B0.out.keep hb)
       replace B1 := Lib.hid (B1.out.keep hb)
       replace B2 := Lib.hid (B2.out.keep hb)
       replace T9 := Lib.hid (T9.out.below hb)
       replace E13 := Lib.hid (E13.out.below hb)
       replace OU := Lib.hid (OU.out.below hb)
       replace T13 := Lib.hid (T13.out.keep hb)
       clear hb
       clear c0_0 c0_1 c0_2 c2_0 c2_1 c2_2 c2_3 c2_4 c2_5 c2_6 t9_0 t9_1 t9_2 t13_0 t13_1 t13_2
       obtain ⟨c0_0, c0_1, c0_2⟩ := B0.out.all3
       obtain ⟨t9_0, t9_1, t9_2⟩ := T9.out.1.1.all3
       obtain ⟨t13_0, t13_1, t13_2⟩ := T13.out.all3
       by_cases hK : K = 0
       ·
        subst hK
        go_wp2_with fail
        refine (HTa.out.ho _ bel).mono ?_; rintro e w7 ⟨rfl, hb⟩
        replace bel := Bx.then_below bel hb
        replace bw := Bx.then_below bw hb
        replace B0 := Lib.hid (B0.out.keep hb)
        replace B1 := Lib.hid (B1.out.keep hb)
        replace B2 := Lib.hid (B2.out.keep hb)
        replace T9 := Lib.hid (T9.out.below hb)
        replace E13 := Lib.hid (E13.out.below hb)
        replace OU := Lib.hid (OU.out.below hb)
        replace T13 := Lib.hid (T13.out.keep hb)
        clear hb
        clear c0_0 c0_1 c0_2 t9_0 t9_1 t9_2 t13_0 t13_1 t13_2
        obtain ⟨c0_0, c0_1, c0_2⟩ := B0.out.all3
        obtain ⟨t9_0, t9_1, t9_2⟩ := T9.out.1.1.all3
        obtain ⟨t13_0, t13_1, t13_2⟩ := T13.out.all3
        cases hO with
        | false =>
         have hou := HTa.out.none (.inr (.inr rfl))
         subst hou
         go_wp2_with fail
         refine (HTa.out.sn _ _ _ E13.out).mono ?_; rintro e w8 ⟨rfl, hb⟩
         replace bel := Bx.then_below bel hb
         replace bw := Bx.then_below bw hb
         replace B0 := Lib.hid (B0.out.keep hb)
         replace B1 := Lib.hid (B1.out.keep hb)
         replace B2 := Lib.hid (B2.out.keep hb)
         replace T9 := Lib.hid (T9.out.below hb)
         replace E13 := Lib.hid (E13.out.below hb)
         replace OU := Lib.hid (OU.out.below hb)
         replace T13 := Lib.hid (T13.out.keep hb)
         clear hb
         clear c0_0 c0_1 c0_2 t9_0 t9_1 t9_2 t13_0 t13_1 t13_2
         obtain ⟨c0_0, c0_1, c0_2⟩ := B0.out.all3
         obtain ⟨t9_0, t9_1, t9_2⟩ := T9.out.1.1.all3
         obtain ⟨t13_0, t13_1, t13_2⟩ := T13.out.all3
         go_wp2_with fail
         cases hLn with
         | true =>
          refine (HTa.out.hl _ bel).mono ?_; rintro e w9 ⟨rfl, hb⟩
          replace bel := Bx.then_below bel hb
          replace bw := Bx.then_below bw hb
          replace B0 := Lib.hid (B0.out.keep hb)
          replace B1 := Lib.hid (B1.out.keep hb)
          replace B2 := Lib.hid (B2.out.keep hb)
          replace T9 := Lib.hid (T9.out.below hb)
          replace E13 := Lib.hid (E13.out.below hb)
          replace OU := Lib.hid (OU.out.below hb)
          replace T13 := Lib.hid (T13.out.keep hb)
          clear hb
          clear c0_0 c0_1 c0_2 t9_0 t9_1 t9_2 t13_0 t13_1 t13_2
          go_wp2_with fail
          go_meet
          exact ⟨rfl, bw⟩
         | false =>
          have hl2 : l2 = l := HTa.out.sm rfl
          subst hl2
          refine (HTa.out.hl _ bel).mono ?_; rintro e w9 ⟨rfl, hb⟩
          replace bel := Bx.then_below bel hb
          replace bw := Bx.then_below bw hb
          replace B0 := Lib.hid (B0.out.keep hb)
          replace B1 := Lib.hid (B1.out.keep hb)
          replace B2 := Lib.hid (B2.out.keep hb)
          replace T9 := Lib.hid (T9.out.below hb)
          replace E13 := Lib.hid (E13.out.below hb)
          replace OU := Lib.hid (OU.out.below hb)
          replace T13 := Lib.hid (T13.out.keep hb)
          clear hb
          clear c0_0 c0_1 c0_2 t9_0 t9_1 t9_2 t13_0 t13_1 t13_2
          obtain ⟨t9_0, t9_1, t9_2⟩ := T9.out.1.1.all3
          obtain ⟨t13_0, t13_1, t13_2⟩ := T13.out.all3
          go_wp2_with fail
          refine (HTa.out.same _ _ _ _ _ T9.out.2.1 E13.out).mono ?_; rintro e w10 ⟨rfl, hb⟩
          replace bel := Bx.then_below bel hb
          replace bw := Bx.then_below bw hb
          replace B0 := Lib.hid (B0.out.keep hb)
          replace B1 := Lib.hid (B1.out.keep hb)
          replace B2 := Lib.hid (B2.out.keep hb)
          replace T9 := Lib.hid (T9.out.below hb)
          replace E13 := Lib.hid (E13.out.below hb)
          replace OU := Lib.hid (OU.out.below hb)
          replace T13 := Lib.hid (T13.out.keep hb)
          clear hb
          clear t9_0 t9_1 t9_2 t13_0 t13_1 t13_2
          go_wp2_with fail
          go_meet
          exact ⟨rfl, bw⟩
        | true =>
         go_wp2_with fail
         refine (HTa.out.sn _ _ _ E13.out).mono ?_; rintro e w8 ⟨rfl, hb⟩
         replace bel := Bx.then_below bel hb
         replace bw := Bx.then_below bw hb
         replace B0 := Lib.hid (B0.out.keep hb)
         replace B1 := Lib.hid (B1.out.keep hb)
         replace B2 := Lib.hid (B2.out.keep hb)
         replace T9 := Lib.hid (T9.out.below hb)
         replace E13 := Lib.hid (E13.out.below hb)
         replace OU := Lib.hid (OU.out.below hb)
         replace T13 := Lib.hid (T13.out.keep hb)
         clear hb
         clear c0_0 c0_1 c0_2 t9_0 t9_1 t9_2 t13_0 t13_1 t13_2
         obtain ⟨c0_0, c0_1, c0_2⟩ := B0.out.all3
         obtain ⟨t9_0, t9_1, t9_2⟩ := T9.out.1.1.all3
         obtain ⟨t13_0, t13_1, t13_2⟩ := T13.out.all3
         go_wp2_with fail
         cases hLn with
         | true =>
          refine (HTa.out.hl _ bel).mono ?_; rintro e w9 ⟨rfl, hb⟩
          replace bel := Bx.then_below bel hb
          replace bw := Bx.then_below bw hb
          replace B0 := Lib.hid (B0.out.keep hb)
          replace B1 := Lib.hid (B1.out.keep hb)
          replace B2 := Lib.hid (B2.out.keep hb)
          replace T9 := Lib.hid (T9.out.below hb)
          replace E13 := Lib.hid (E13.out.below hb)
          replace OU := Lib.hid (OU.out.below hb)
          replace T13 := Lib.hid (T13.out.keep hb)
          clear hb
          clear c0_0 c0_1 c0_2 t9_0 t9_1 t9_2 t13_0 t13_1 t13_2
          go_wp2_with fail
          go_meet
          exact ⟨rfl, bw⟩
         | false =>
          have hl2 : l2 = l := HTa.out.sm rfl
          subst hl2
          refine (HTa.out.hl _ bel).mono ?_; rintro e w9 ⟨rfl, hb⟩
          replace bel := Bx.then_below bel hb
          replace bw := Bx.then_below bw hb
          replace B0 := Lib.hid (B0.out.keep hb)
          replace B1 := Lib.hid (B1.out.keep hb)
          replace B2 := Lib.hid (B2.out.keep hb)
          replace T9 := Lib.hid (T9.out.below hb)
          replace E13 := Lib.hid (E13.out.below hb)
          replace OU := Lib.hid (OU.out.below hb)
          replace T13 := Lib.hid (T13.out.keep hb)
          clear hb
          clear c0_0 c0_1 c0_2 t9_0 t9_1 t9_2 t13_0 t13_1 t13_2
          obtain ⟨t9_0, t9_1, t9_2⟩ := T9.out.1.1.all3
          obtain ⟨t13_0, t13_1, t13_2⟩ := T13.out.all3
          go_wp2_with fail
          refine (HTa.out.same _ _ _ _ _ T9.out.2.1 E13.out).mono ?_; rintro e w10 ⟨rfl, hb⟩
          replace bel := Bx.then_below bel hb
          replace bw := Bx.then_below bw hb
          replace B0 := Lib.hid (B0.out.keep hb)
          replace B1 := Lib.hid (B1.out.keep hb)
          replace B2 := Lib.hid (B2.out.keep hb)
          replace T9 := Lib.hid (T9.out.below hb)
          replace E13 := Lib.hid (E13.out.below hb)
          replace OU := Lib.hid (OU.out.below hb)
          replace T13 := Lib.hid (T13.out.keep hb)
          clear hb
          clear t9_0 t9_1 t9_2 t13_0 t13_1 t13_2
          go_wp2_with fail
          go_meet
          exact ⟨rfl, bw⟩
       ·
        have k2 : (K != 0) = true := by simpa using hK
        have hou := HTa.out.none (.inr (.inl hK))
        subst hou
        go_wp2_with fail
        refine (HTa.out.sn _ _ _ E13.out).mono ?_; rintro e w7 ⟨rfl, hb⟩
        replace bel := Bx.then_below bel hb
        replace bw := Bx.then_below bw hb
        replace B0 := Lib.hid (B0.out.keep hb)
        replace B1 := Lib.hid (B1.out.keep hb)
        replace B2 := Lib.hid (B2.out.keep hb)
        replace T9 := Lib.hid (T9.out.below hb)
        replace E13 := Lib.hid (E13.out.below hb)
        replace OU := Lib.hid (OU.out.below hb)
        replace T13 := Lib.hid (T13.out.keep hb)
        clear hb
        clear c0_0 c0_1 c0_2 t9_0 t9_1 t9_2 t13_0 t13_1 t13_2
        obtain ⟨c0_0, c0_1, c0_2⟩ := B0.out.all3
        obtain ⟨t9_0, t9_1, t9_2⟩ := T9.out.1.1.all3
        obtain ⟨t13_0, t13_1, t13_2⟩ := T13.out.all3
        go_wp2_with fail
        cases hLn with
        | true =>
         refine (HTa.out.hl _ bel).mono ?_; rintro e w8 ⟨rfl, hb⟩
         replace bel := Bx.then_below bel hb
         replace bw := Bx.then_below bw hb
         replace B0 := Lib.hid (B0.out.keep hb)
         replace B1 := Lib.hid (B1.out.keep hb)
         replace B2 := Lib.hid (B2.out.keep hb)
         replace T9 := Lib.hid (T9.out.below hb)
         replace E13 := Lib.hid (E13.out.below hb)
         replace OU := Lib.hid (OU.out.below hb)
         replace T13 := Lib.hid (T13.out.keep hb)
         clear hb
         clear c0_0 c0_1 c0_2 t9_0 t9_1 t9_2 t13_0 t13_1 t13_2
         go_wp2_with fail
         go_meet
         exact ⟨rfl, bw⟩
        | false =>
         have hl2 : l2 = l := HTa.out.sm rfl
         subst hl2
         refine (HTa.out.hl _ bel).mono ?_; rintro e w8 ⟨rfl, hb⟩
         replace bel := Bx.then_below bel hb
         replace bw := Bx.then_below bw hb
         replace B0 := Lib.hid (B0.out.keep hb)
         replace B1 := Lib.hid (B1.out.keep hb)
         replace B2 := Lib.hid (B2.out.keep hb)
         replace T9 := Lib.hid (T9.out.below hb)
         replace E13 := Lib.hid (E13.out.below hb)
         replace OU := Lib.hid (OU.out.below hb)
         replace T13 := Lib.hid (T13.out.keep hb)
         clear hb
         clear c0_0 c0_1 c0_2 t9_0 t9_1 t9_2 t13_0 t13_1 t13_2
         obtain ⟨t9_0, t9_1, t9_2⟩ := T9.out.1.1.all3
         obtain ⟨t13_0, t13_1, t13_2⟩ := T13.out.all3
         go_wp2_with fail
         refine (HTa.out.same _ _ _ _ _ T9.out.2.1 E13.out).mono ?_; rintro e w9 ⟨rfl, hb⟩
         replace bel := Bx.then_below bel hb
         replace bw := Bx.then_below bw hb
         replace B0 := Lib.hid (B0.out.keep hb)
         replace B1 := Lib.hid (B1.out.keep hb)
         replace B2 := Lib.hid (B2.out.keep hb)
         replace T9 := Lib.hid (T9.out.below hb)
         replace E13 := Lib.hid (E13.out.below hb)
         replace OU := Lib.hid (OU.out.below hb)
         replace T13 := Lib.hid (T13.out.keep hb)
         clear hb
         clear t9_0 t9_1 t9_2 t13_0 t13_1 t13_2
         go_wp2_with fail
         go_meet
         exact ⟨rfl, bw⟩
    case rest =>
     obtain ⟨rfl, hb⟩ := hcut
     replace bel := Bx.then_below bel hb
     replace B0 := Lib.hid (B0.out.keep hb)
     replace B1 := Lib.hid (B1.out.keep hb)
     replace B2 := Lib.hid (B2.out.keep hb)
     replace T9 := Lib.hid (T9.out.below hb)
     replace E13 := Lib.hid (E13.out.below hb)
     replace OU := Lib.hid (OU.out.below hb)
     replace T13 := Lib.hid (T13.out.keep hb)
     clear hb
     clear c0_0 c0_1 c0_2 c2_0 c2_1 c2_2 c2_3 c2_4 c2_5 c2_6 t9_0 t9_1 t9_2 t13_0 t13_1 t13_2
     obtain ⟨c2_0, c2_1, c2_2, c2_3, c2_4, c2_5, c2_6⟩ := B2.out.all7
     obtain ⟨t13_0, t13_1, t13_2⟩ := T13.out.all3
     go_wp2_with fail
     refine (HTa.out.fi _ _ _ E13.out).mono ?_; rintro e w6 ⟨rfl, hb⟩
     replace hb := Bx.bel_box hb (Tab.eo ⟨qv, qm, qp, qa⟩)
     clear c2_0 c2_1 c2_2 c2_3 c2_4 c2_5 c2_6 t13_0 t13_1 t13_2
     replace bel := Bx.then_below bel hb
     replace B0 := Lib.hid (B0.out.keep hb)
     replace B1 := Lib.hid (B1.out.keep hb)
     replace B2 := Lib.hid (B2.out.keep hb)
     replace T9 := Lib.hid (T9.out.below hb)
     replace E13 := Lib.hid (E13.out.below hb)
     replace OU := Lib.hid (OU.out.below hb)
     replace T13 := Lib.hid (T13.out.keep hb)
     clear hb
     clear T9 T13 E13
     have K17 := Lib.hid (Bx.Blk.new w6 [.int .i64 qv, .int .u64 qm, .int .i64 qp, .int .i64 qa] 62)
     obtain ⟨c2_0, c2_1, c2_2, c2_3, c2_4, c2_5, c2_6⟩ := B2.out.all7
     obtain ⟨k17_0, k17_1, k17_2, k17_3⟩ := K17.out.all4
     go_upto_region 17 with fail
     generalize hg : w6.alloc (Tab.eo ⟨qv, qm, qp, qa⟩) = W7 at *
     clear hg
     generalize w6.heap.size = m17 at *
     go_cut [157] (fun s157 wz => s157 = .bool false ∧ Below W7.heap.size W7 wz)
     case first =>
      as_aux_lemma =>
       have GRQ := Lib.hid (fun w' => (HTa.out.gr w').mono (fun _ _ h => And.intro h.1 h.2.symm))
       cases there with
       | false =>
        go_wp2_with fail
        go_quiet (first | (go_at_call 26; exact Calls.quiet_of_same (GRQ.out _)))
        have hd := drew_below W7 nq
        go_wp2_with fail
        go_meet
        exact ⟨rfl, hd⟩
       | true =>
        cases gp with
        | true =>
         go_wp2_with fail
         go_quiet (first | (go_at_call 26; exact Calls.quiet_of_same (GRQ.out _)))
         have hd := drew_below W7 nq
         go_wp2_with fail
         go_meet
         exact ⟨rfl, hd⟩
        | false =>
         obtain ⟨hol, hop⟩ := HTa.out.one rfl rfl
         have eP : (qp != qp) = false := by simp
         rcases outs with _ | ⟨x, _ | ⟨y, zs⟩⟩
         ·
          go_wp2_with fail
          go_quiet (first | (go_at_call 26; exact Calls.quiet_of_same (GRQ.out _)))
          have hd := drew_below W7 nq
          go_wp2_with fail
          go_meet
          exact ⟨rfl, hd⟩
         ·
          have hx : x.q = qp := hop x (by simp)
          obtain ⟨b1, o1, rfl, _, a0, a1, a2, a3, a4, a5, a6, a7⟩ := OU.out.at (k := 0) (by simp)
          simp only [List.getElem_cons_zero, hx, Nat.zero_mul, Nat.add_zero] at a0
          clear a1 a2 a3 a4 a5 a6 a7
          go_wp2_with fail
          go_quiet (first | (go_at_call 26; exact Calls.quiet_of_same (GRQ.out _)))
          have hd := drew_below W7 nq
          go_wp2_with fail
          go_meet
          exact ⟨rfl, hd⟩
         ·
          simp at hol
     case rest =>
      obtain ⟨rfl, hb⟩ := hcut
      clear c2_0 c2_1 c2_2 c2_3 c2_4 c2_5 c2_6 k17_0 k17_1 k17_2 k17_3
      clear K17
      replace bel := Bx.then_below bel hb
      replace B0 := Lib.hid (B0.out.keep hb)
      replace B1 := Lib.hid (B1.out.keep hb)
      replace B2 := Lib.hid (B2.out.keep hb)
      replace OU := Lib.hid (OU.out.below hb)
      clear hb
      have BW := Lib.hid bel
      have hkw := bel.size
      clear bel
      go_wp2_with fail
      go_loopw [19, 20, 160] (fun _ _ ix wr => ∃ j : Nat, j ≤ outs.length ∧ ix = .int .i64 j ∧ Aside (Below wc.heap.size wc wr)) (fun _ _ ix _ => outs.length - (RowKit.intOf ix).toNat)
      case atStart => exact ⟨0, Nat.zero_le _, rfl, Below.refl _ _⟩
      case round =>
       obtain ⟨j, hj, rfl, HB⟩ := hrel
       by_cases hlt : j < outs.length
       ·
        obtain ⟨b1, o1, rfl, _, a0, a1, a2, a3, a4, a5, a6, a7⟩ := (OU.out.below HB.out).at hlt
        obtain ⟨hyq, HOP, HFQ, hyX, hyd, hyv⟩ := HTa.out.all outs[j] (List.getElem_mem hlt)
        replace HOP := Lib.hid HOP
        replace HFQ := Lib.hid HFQ
        have B0' := Lib.hid (B0.out.keep HB.out)
        have B1' := Lib.hid (B1.out.keep HB.out)
        have B2' := Lib.hid (B2.out.keep HB.out)
        have HP := Lib.hid (show ∀ i, (h : i + 1 = j) → ∃ z : Int, z < outs[j].q ∧ wr.cell? ⟨b1, o1 + i * 8, none⟩ = some (.int .i64 z) from fun i h => by
         subst h
         obtain ⟨b2, o2, eb, _, e0, _⟩ := (OU.out.below HB.out).at (Nat.lt_of_succ_lt hlt)
         cases eb
         exact ⟨_, HTa.out.rise i hlt, e0⟩)
        generalize outs[j] = y at *
        obtain ⟨yq, yd, ys, yg, yp, yv, yt, yb⟩ := y
        simp only at a0 a1 a2 a3 a4 a5 a6 a7 hyq HOP HFQ hyX hyd hyv HP
        have hyX' := hyX.symm
        have hyd' := hyd.symm
        subst hyX' hyd'
        clear hyX hyd
        have eq1 : (yq == q) = false := by simpa using hyq
        have eX : (X.toList == X.toList) = true := by simp
        have eX3 : (X.toList != X.toList) = false := by simp
        have eD : (d == d) = true := by simp
        have eD2 : (d != d) = false := by simp
        have eV : (V == V) = true := by simp
        have eV2 : (V != V) = false := by simp
        have hX9 := Bx.box_below wr (oo ⟨yq, d, ys, yg, yp, yv, yt, X⟩)
        have OX := Lib.hid (Bx.Blk.new wr [.int .i64 yq, .int .u64 d, .int .u64 ys, .bool yg, .int .i64 yp, .int .i64 yv, .int .i64 yt, .string X] 45)
        have bel := Bx.bel_box HB.out (oo ⟨yq, d, ys, yg, yp, yv, yt, X⟩)
        replace B0' := Lib.hid (B0'.out.keep hX9)
        replace B1' := Lib.hid (B1'.out.keep hX9)
        replace B2' := Lib.hid (B2'.out.keep hX9)
        obtain ⟨c0_0, c0_1, c0_2⟩ := B0'.out.all3
        have c2_0 := B2'.out.at 0 rfl
        have c2_6 := B2'.out.at 6 rfl
        obtain ⟨x0, x1, x2, x3, x4, x5, x6, x7⟩ := OX.out.all8
        clear OX
        by_cases h0 : j = 0
        ·
         subst h0
         have hz0 : decide (0 < (0 : Nat)) = false := rfl
         simp only [Nat.zero_mul, Nat.add_zero] at a0 a1 a2 a3 a4 a5 a6 a7
         cases yg with
         | false =>
          as_aux_lemma =>
           go_wp2_with fail
           simp only [List.append_eq, List.cons_append, List.nil_append]
           refine wp_region_noPanic ?_
           refine wp_region_held_drew (S := fun w' => Bx.Blk w' m7 (Mem.pc o k AP n c) ∧ w'.cell? ⟨w.heap.size + 1, 0, none⟩ = some (.int .i64 q) ∧ w'.cell? ⟨w.heap.size + 1, 2, none⟩ = some (.int .i64 op) ∧ w'.cell? ⟨wr.heap.size, 0, none⟩ = some (.int .i64 yq) ∧ w'.cell? ⟨wr.heap.size, 1, none⟩ = some (.int .u64 d) ∧ w'.cell? ⟨wr.heap.size, 3, none⟩ = some (.bool false) ∧ w'.cell? ⟨wr.heap.size, 5, none⟩ = some (.int .i64 yv) ∧ w'.cell? ⟨wr.heap.size, 7, none⟩ = some (.string X) ∧ w'.cell? ⟨m8, 0, none⟩ = some (.int .u64 d) ∧ w'.cell? ⟨m8, 6, none⟩ = some (.string X)) (by kernel_rfl) (by exact ⟨B1'.out, c0_0, c0_2, x0, x1, x3, x5, x7, c2_0, c2_6⟩) (fun hHeld => ?_)
           replace bel := Bx.bel_drewn bel
           refine wpAnyH_take (i := 0) (oi := ?o0pf) (v := ?v0pf) ?hi0pf (by kernel_rfl) (by kernel_rfl) (by kernel_rfl) (fun _ _ _ h => h) ?y0pf (by assumption) ?r0pf
           case hi0pf => (simp only [List.getElem?_toArray, List.getElem?_cons_zero]; rfl)
           case y0pf => (refine Or.inl ⟨by rfl, ?_⟩; intro w' hSw; (try dsimp only at hSw); go_simp; (try with_reducible rfl))
           try simp only [Act.put, List.setIfInBounds_toArray, List.set_cons_zero, List.set_cons_succ]
           refine wpAnyH_take (i := 1) (oi := ?o1pf) (v := ?v1pf) ?hi1pf (by kernel_rfl) (by kernel_rfl) (by kernel_rfl) (fun _ _ _ h => h) ?y1pf (by assumption) ?r1pf
           case hi1pf => (simp only [List.getElem?_toArray, List.getElem?_cons_succ, List.getElem?_cons_zero]; rfl)
           case y1pf => (refine Or.inl ⟨by rfl, ?_⟩; intro w' hSw; (try dsimp only at hSw); go_simp; (try with_reducible rfl))
           try simp only [Act.put, List.setIfInBounds_toArray, List.set_cons_zero, List.set_cons_succ]
           refine wpAnyH_take (i := 2) (oi := ?o2pf) (v := ?v2pf) ?hi2pf (by kernel_rfl) (by kernel_rfl) (by kernel_rfl) (fun _ _ _ h => h) ?y2pf (by assumption) ?r2pf
           case hi2pf => (simp only [List.getElem?_toArray, List.getElem?_cons_succ, List.getElem?_cons_zero]; rfl)
           case y2pf => (refine Or.inl ⟨by rfl, ?_⟩; intro w' hSw; (try dsimp only at hSw); go_simp; (try with_reducible rfl))
           try simp only [Act.put, List.setIfInBounds_toArray, List.set_cons_zero, List.set_cons_succ]
           refine wpAnyH_take (i := 3) (oi := ?o3pf) (v := ?v3pf) ?hi3pf (by kernel_rfl) (by kernel_rfl) (by kernel_rfl) (fun _ _ _ h => h) ?y3pf (by assumption) ?r3pf
           case hi3pf => (simp only [List.getElem?_toArray, List.getElem?_cons_succ, List.getElem?_cons_zero]; rfl)
           case y3pf => (refine Or.inl ⟨by rfl, ?_⟩; intro w' hSw; (try dsimp only at hSw); go_simp; (try with_reducible rfl))
           try simp only [Act.put, List.setIfInBounds_toArray, List.set_cons_zero, List.set_cons_succ]
           refine wpAnyH_take (i := 4) (oi := ?o4pf) (v := ?v4pf) ?hi4pf (by kernel_rfl) (by kernel_rfl) (by kernel_rfl) (fun _ _ _ h => h) ?y4pf (by assumption) ?r4pf
           case hi4pf => (simp only [List.getElem?_toArray, List.getElem?_cons_succ, List.getElem?_cons_zero]; rfl)
           case y4pf => (refine Or.inl ⟨by rfl, ?_⟩; intro w' hSw; (try dsimp only at hSw); go_simp; (try with_reducible rfl))
           try simp only [Act.put, List.setIfInBounds_toArray, List.set_cons_zero, List.set_cons_succ]
           try rw [eq1]
           refine wpAnyH_take (i := 5) (oi := ?o5pf) (v := ?v5pf) ?hi5pf (by kernel_rfl) (by kernel_rfl) (by kernel_rfl) (fun _ _ _ h => h) ?y5pf (by assumption) ?r5pf
           case hi5pf => (simp only [List.getElem?_toArray, List.getElem?_cons_succ, List.getElem?_cons_zero]; rfl)
           case y5pf => (refine Or.inl ⟨by rfl, ?_⟩; intro w' hSw; (try dsimp only at hSw); go_simp; (try with_reducible rfl))
           try simp only [Act.put, List.setIfInBounds_toArray, List.set_cons_zero, List.set_cons_succ]
           refine wpAnyH_take (i := 6) (oi := ?o6pf) (v := ?v6pf) ?hi6pf (by kernel_rfl) (by kernel_rfl) (by kernel_rfl) (fun _ _ _ h => h) ?y6pf (by assumption) ?r6pf
           case hi6pf => (simp only [List.getElem?_toArray, List.getElem?_cons_succ, List.getElem?_cons_zero]; rfl)
           case y6pf => (refine Or.inl ⟨by rfl, ?_⟩; intro w' hSw; (try dsimp only at hSw); go_simp; (try with_reducible rfl))
           try simp only [Act.put, List.setIfInBounds_toArray, List.set_cons_zero, List.set_cons_succ]
           refine wpAnyH_take (i := 7) (oi := ?o7pf) (v := ?v7pf) ?hi7pf (by kernel_rfl) (by kernel_rfl) (by kernel_rfl) (fun _ _ _ h => h) ?y7pf (by assumption) ?r7pf
           case hi7pf => (simp only [List.getElem?_toArray, List.getElem?_cons_succ, List.getElem?_cons_zero]; rfl)
           case y7pf => (refine Or.inl ⟨by rfl, ?_⟩; intro w' hSw; (try dsimp only at hSw); go_simp; (try with_reducible rfl))
           try simp only [Act.put, List.setIfInBounds_toArray, List.set_cons_zero, List.set_cons_succ]
           refine wpAnyH_take (i := 8) (oi := ?o8pf) (v := ?v8pf) ?hi8pf (by kernel_rfl) (by kernel_rfl) (by kernel_rfl) (fun _ _ _ h => h) ?y8pf (by assumption) ?r8pf
           case hi8pf => (simp only [List.getElem?_toArray, List.getElem?_cons_succ, List.getElem?_cons_zero]; rfl)
           case y8pf => (refine Or.inl ⟨by rfl, ?_⟩; intro w' hSw; (try dsimp only at hSw); go_simp; (try with_reducible rfl))
           try simp only [Act.put, List.setIfInBounds_toArray, List.set_cons_zero, List.set_cons_succ]
           refine wpAnyH_take (i := 9) (oi := ?o9pf) (v := ?v9pf) ?hi9pf (by kernel_rfl) (by kernel_rfl) (by kernel_rfl) (fun _ _ _ h => h) ?y9pf (by assumption) ?r9pf
           case hi9pf => (simp only [List.getElem?_toArray, List.getElem?_cons_succ, List.getElem?_cons_zero]; rfl)
           case y9pf => (refine Or.inl ⟨by rfl, ?_⟩; intro w' hSw; (try dsimp only at hSw); go_simp; (try with_reducible rfl))
           try simp only [Act.put, List.setIfInBounds_toArray, List.set_cons_zero, List.set_cons_succ]
           refine wpAnyH_ready (rs := [10]) (by kernel_rfl) (by simp) ?_
           refine AllReadyH.cons (o := ?o10pf) ?hi10pf ?hst10pf AllReadyH.nil
           case hi10pf => (simp only [List.getElem?_toArray, List.getElem?_cons_succ, List.getElem?_cons_zero]; rfl)
           intro K hK
           go_simp
           (go_at_call 22; (with_reducible refine (HOP.out _ (Bx.then_below BW.out bel)).mono ?_); rintro e w6 ⟨rfl, hb6⟩)
           go_wp2_with fail
           refine hK.out _ _ (⟨Bx.Blk.keep hHeld.1 hb6, Bx.keep_cell hb6 hHeld.2.1, Bx.keep_cell hb6 hHeld.2.2.1, Bx.keep_cell hb6 hHeld.2.2.2.1, Bx.keep_cell hb6 hHeld.2.2.2.2.1, Bx.keep_cell hb6 hHeld.2.2.2.2.2.1, Bx.keep_cell hb6 hHeld.2.2.2.2.2.2.1, Bx.keep_cell hb6 hHeld.2.2.2.2.2.2.2.1, Bx.keep_cell hb6 hHeld.2.2.2.2.2.2.2.2.1, Bx.keep_cell hb6 hHeld.2.2.2.2.2.2.2.2.2⟩) (fun hNew => ?_)
           clear hHeld
           have hHeld := hNew
           clear hNew hK K
           replace bel := Bx.then_below bel hb6
           clear hb6
           refine wpAnyH_take (i := 11) (oi := ?o11pf) (v := ?v11pf) ?hi11pf (by kernel_rfl) (by kernel_rfl) (by kernel_rfl) (fun _ _ _ h => h) ?y11pf (by assumption) ?r11pf
           case hi11pf => (simp only [List.getElem?_toArray, List.getElem?_cons_succ, List.getElem?_cons_zero]; rfl)
           case y11pf => (refine Or.inl ⟨by rfl, ?_⟩; intro w' hSw; (try dsimp only at hSw); go_simp; (try with_reducible rfl))
           try simp only [Act.put, List.setIfInBounds_toArray, List.set_cons_zero, List.set_cons_succ]
           refine wpAnyH_take (i := 12) (oi := ?o12pf) (v := ?v12pf) ?hi12pf (by kernel_rfl) (by kernel_rfl) (by kernel_rfl) (fun _ _ _ h => h) ?y12pf (by assumption) ?r12pf
           case hi12pf => (simp only [List.getElem?_toArray, List.getElem?_cons_succ, List.getElem?_cons_zero]; rfl)
           case y12pf => (refine Or.inl ⟨by rfl, ?_⟩; intro w' hSw; (try dsimp only at hSw); go_simp; (try with_reducible rfl))
           try simp only [Act.put, List.setIfInBounds_toArray, List.set_cons_zero, List.set_cons_succ]
           refine wpAnyH_take (i := 13) (oi := ?o13pf) (v := ?v13pf) ?hi13pf (by kernel_rfl) (by kernel_rfl) (by kernel_rfl) (fun _ _ _ h => h) ?y13pf (by assumption) ?r13pf
           case hi13pf => (simp only [List.getElem?_toArray, List.getElem?_cons_succ, List.getElem?_cons_zero]; rfl)
           case y13pf => (refine Or.inl ⟨by rfl, ?_⟩; intro w' hSw; (try dsimp only at hSw); go_simp; (try with_reducible rfl))
           try simp only [Act.put, List.setIfInBounds_toArray, List.set_cons_zero, List.set_cons_succ]
           refine wpAnyH_take (i := 14) (oi := ?o14pf) (v := Mem.pv o k AP n c) ?hi14pf (by kernel_rfl) (by kernel_rfl) (by kernel_rfl) (fun _ _ _ h => h) ?y14pf (by assumption) ?r14pf
           case hi14pf => (simp only [List.getElem?_toArray, List.getElem?_cons_succ, List.getElem?_cons_zero]; rfl)
           case y14pf => (refine Mem.yields_pl rfl _ rfl (m7) rfl o k AP n c ?_; intro w' hS; exact hS.1)
           try simp only [Act.put, List.setIfInBounds_toArray, List.set_cons_zero, List.set_cons_succ]
           refine wpAnyH_take (i := 15) (oi := ?o15pf) (v := ?v15pf) ?hi15pf (by kernel_rfl) (by kernel_rfl) (by kernel_rfl) (fun _ _ _ h => h) ?y15pf (by assumption) ?r15pf
           case hi15pf => (simp only [List.getElem?_toArray, List.getElem?_cons_succ, List.getElem?_cons_zero]; rfl)
           case y15pf => (refine Or.inl ⟨by rfl, ?_⟩; intro w' hSw; (try dsimp only at hSw); go_simp; (try with_reducible rfl))
           try simp only [Act.put, List.setIfInBounds_toArray, List.set_cons_zero, List.set_cons_succ]
           refine wpAnyH_take (i := 17) (oi := ?o17pf) (v := ?v17pf) ?hi17pf (by kernel_rfl) (by kernel_rfl) (by kernel_rfl) (fun _ _ _ h => h) ?y17pf (by assumption) ?r17pf
           case hi17pf => (simp only [List.getElem?_toArray, List.getElem?_cons_succ, List.getElem?_cons_zero]; rfl)
           case y17pf => (refine Or.inl ⟨by rfl, ?_⟩; intro w' hSw; (try dsimp only at hSw); go_simp; (try with_reducible rfl))
           try simp only [Act.put, List.setIfInBounds_toArray, List.set_cons_zero, List.set_cons_succ]
           refine wpAnyH_take (i := 18) (oi := ?o18pf) (v := ?v18pf) ?hi18pf (by kernel_rfl) (by kernel_rfl) (by kernel_rfl) (fun _ _ _ h => h) ?y18pf (by assumption) ?r18pf
           case hi18pf => (simp only [List.getElem?_toArray, List.getElem?_cons_succ, List.getElem?_cons_zero]; rfl)
           case y18pf => (refine Or.inl ⟨by rfl, ?_⟩; intro w' hSw; (try dsimp only at hSw); go_simp; (try with_reducible rfl))
           try simp only [Act.put, List.setIfInBounds_toArray, List.set_cons_zero, List.set_cons_succ]
           refine wpAnyH_ready (rs := [16]) (by kernel_rfl) (by simp) ?_
           refine AllReadyH.cons (o := ?o16pf) ?hi16pf ?hst16pf AllReadyH.nil
           case hi16pf => (simp only [List.getElem?_toArray, List.getElem?_cons_succ, List.getElem?_cons_zero]; rfl)
           intro K hK
           go_simp
           (go_at_call 27; (with_reducible refine (HTa.out.of _ (Bx.then_below BW.out bel)).mono ?_); rintro e w7 ⟨rfl, hb7⟩)
           go_wp2_with fail
           refine hK.out _ _ (⟨Bx.Blk.keep hHeld.1 hb7, Bx.keep_cell hb7 hHeld.2.1, Bx.keep_cell hb7 hHeld.2.2.1, Bx.keep_cell hb7 hHeld.2.2.2.1, Bx.keep_cell hb7 hHeld.2.2.2.2.1, Bx.keep_cell hb7 hHeld.2.2.2.2.2.1, Bx.keep_cell hb7 hHeld.2.2.2.2.2.2.1, Bx.keep_cell hb7 hHeld.2.2.2.2.2.2.2.1, Bx.keep_cell hb7 hHeld.2.2.2.2.2.2.2.2.1, Bx.keep_cell hb7 hHeld.2.2.2.2.2.2.2.2.2⟩) (fun hNew => ?_)
           clear hHeld
           have hHeld := hNew
           clear hNew hK K
           replace bel := Bx.then_below bel hb7
           clear hb7
           refine wpAnyH_ready (rs := [19]) (by kernel_rfl) (by simp) ?_
           refine AllReadyH.cons (o := ?o19pf) ?hi19pf ?hst19pf AllReadyH.nil
           case hi19pf => (simp only [List.getElem?_toArray, List.getElem?_cons_succ, List.getElem?_cons_zero]; rfl)
           intro K hK
           go_simp
           (go_at_call 22; (with_reducible refine (HFQ.out _ (Bx.then_below BW.out bel)).mono ?_); rintro e w8 ⟨rfl, hb8⟩)
           go_wp2_with fail
           refine hK.out _ _ (⟨Bx.Blk.keep hHeld.1 hb8, Bx.keep_cell hb8 hHeld.2.1, Bx.keep_cell hb8 hHeld.2.2.1, Bx.keep_cell hb8 hHeld.2.2.2.1, Bx.keep_cell hb8 hHeld.2.2.2.2.1, Bx.keep_cell hb8 hHeld.2.2.2.2.2.1, Bx.keep_cell hb8 hHeld.2.2.2.2.2.2.1, Bx.keep_cell hb8 hHeld.2.2.2.2.2.2.2.1, Bx.keep_cell hb8 hHeld.2.2.2.2.2.2.2.2.1, Bx.keep_cell hb8 hHeld.2.2.2.2.2.2.2.2.2⟩) (fun hNew => ?_)
           clear hHeld
           have hHeld := hNew
           clear hNew hK K
           replace bel := Bx.then_below bel hb8
           clear hb8
           refine wpAnyH_take (i := 20) (oi := ?o20pf) (v := ?v20pf) ?hi20pf (by kernel_rfl) (by kernel_rfl) (by kernel_rfl) (fun _ _ _ h => h) ?y20pf (by assumption) ?r20pf
           case hi20pf => (simp only [List.getElem?_toArray, List.getElem?_cons_succ, List.getElem?_cons_zero]; rfl)
           case y20pf => (refine Or.inl ⟨by rfl, ?_⟩; intro w' hSw; (try dsimp only at hSw); go_simp; (try with_reducible rfl))
           try simp only [Act.put, List.setIfInBounds_toArray, List.set_cons_zero, List.set_cons_succ]
           refine wpAnyH_take (i := 21) (oi := ?o21pf) (v := ?v21pf) ?hi21pf (by kernel_rfl) (by kernel_rfl) (by kernel_rfl) (fun _ _ _ h => h) ?y21pf (by assumption) ?r21pf
           case hi21pf => (simp only [List.getElem?_toArray, List.getElem?_cons_succ, List.getElem?_cons_zero]; rfl)
           case y21pf => (refine Or.inl ⟨by rfl, ?_⟩; intro w' hSw; (try dsimp only at hSw); go_simp; (try with_reducible rfl))
           try simp only [Act.put, List.setIfInBounds_toArray, List.set_cons_zero, List.set_cons_succ]
           refine wpAnyH_take (i := 22) (oi := ?o22pf) (v := ?v22pf) ?hi22pf (by kernel_rfl) (by kernel_rfl) (by kernel_rfl) (fun _ _ _ h => h) ?y22pf (by assumption) ?r22pf
           case hi22pf => (simp only [List.getElem?_toArray, List.getElem?_cons_succ, List.getElem?_cons_zero]; rfl)
           case y22pf => (refine Or.inl ⟨by rfl, ?_⟩; intro w' hSw; (try dsimp only at hSw); go_simp; (try with_reducible rfl))
           try simp only [Act.put, List.setIfInBounds_toArray, List.set_cons_zero, List.set_cons_succ]
           refine wpAnyH_take (i := 23) (oi := ?o23pf) (v := ?v23pf) ?hi23pf (by kernel_rfl) (by kernel_rfl) (by kernel_rfl) (fun _ _ _ h => h) ?y23pf (by assumption) ?r23pf
           case hi23pf => (simp only [List.getElem?_toArray, List.getElem?_cons_succ, List.getElem?_cons_zero]; rfl)
           case y23pf => (refine Or.inl ⟨by rfl, ?_⟩; intro w' hSw; (try dsimp only at hSw); go_simp; (try with_reducible rfl))
           try simp only [Act.put, List.setIfInBounds_toArray, List.set_cons_zero, List.set_cons_succ]
           refine wpAnyH_take (i := 24) (oi := ?o24pf) (v := ?v24pf) ?hi24pf (by kernel_rfl) (by kernel_rfl) (by kernel_rfl) (fun _ _ _ h => h) ?y24pf (by assumption) ?r24pf
           case hi24pf => (simp only [List.getElem?_toArray, List.getElem?_cons_succ, List.getElem?_cons_zero]; rfl)
           case y24pf => (refine Or.inl ⟨by rfl, ?_⟩; intro w' hSw; (try dsimp only at hSw); go_simp; (try with_reducible rfl))
           try simp only [Act.put, List.setIfInBounds_toArray, List.set_cons_zero, List.set_cons_succ]
           try rw [hz0]
           refine wpAnyH_take (i := 25) (oi := ?o25pf) (v := ?v25pf) ?hi25pf (by kernel_rfl) (by kernel_rfl) (by kernel_rfl) (fun _ _ _ h => h) ?y25pf (by assumption) ?r25pf
           case hi25pf => (simp only [List.getElem?_toArray, List.getElem?_cons_succ, List.getElem?_cons_zero]; rfl)
           case y25pf => (refine Or.inl ⟨by rfl, ?_⟩; intro w' hSw; (try dsimp only at hSw); go_simp; (try with_reducible rfl))
           try simp only [Act.put, List.setIfInBounds_toArray, List.set_cons_zero, List.set_cons_succ]
           refine wpAnyH_take (i := 26) (oi := ?o26pf) (v := undef) ?hi26pf (by kernel_rfl) (by kernel_rfl) (by kernel_rfl) (fun _ _ _ h => h) ?y26pf (by assumption) ?r26pf
           case hi26pf => (simp only [List.getElem?_toArray, List.getElem?_cons_succ, List.getElem?_cons_zero]; rfl)
           case y26pf => exact Or.inr ⟨by rfl, rfl⟩
           try simp only [Act.put, List.setIfInBounds_toArray, List.set_cons_zero, List.set_cons_succ]
           refine wpAnyH_take (i := 27) (oi := ?o27pf) (v := undef) ?hi27pf (by kernel_rfl) (by kernel_rfl) (by kernel_rfl) (fun _ _ _ h => h) ?y27pf (by assumption) ?r27pf
           case hi27pf => (simp only [List.getElem?_toArray, List.getElem?_cons_succ, List.getElem?_cons_zero]; rfl)
           case y27pf => exact Or.inr ⟨by rfl, rfl⟩
           try simp only [Act.put, List.setIfInBounds_toArray, List.set_cons_zero, List.set_cons_succ]
           refine wpAnyH_take (i := 28) (oi := ?o28pf) (v := undef) ?hi28pf (by kernel_rfl) (by kernel_rfl) (by kernel_rfl) (fun _ _ _ h => h) ?y28pf (by assumption) ?r28pf
           case hi28pf => (simp only [List.getElem?_toArray, List.getElem?_cons_succ, List.getElem?_cons_zero]; rfl)
           case y28pf => exact Or.inr ⟨by rfl, rfl⟩
           try simp only [Act.put, List.setIfInBounds_toArray, List.set_cons_zero, List.set_cons_succ]
           refine wpAnyH_take (i := 29) (oi := ?o29pf) (v := undef) ?hi29pf (by kernel_rfl) (by kernel_rfl) (by kernel_rfl) (fun _ _ _ h => h) ?y29pf (by assumption) ?r29pf
           case hi29pf => (simp only [List.getElem?_toArray, List.getElem?_cons_succ, List.getElem?_cons_zero]; rfl)
           case y29pf => exact Or.inr ⟨by rfl, rfl⟩
           try simp only [Act.put, List.setIfInBounds_toArray, List.set_cons_zero, List.set_cons_succ]
           refine wpAnyH_take (i := 30) (oi := ?o30pf) (v := undef) ?hi30pf (by kernel_rfl) (by kernel_rfl) (by kernel_rfl) (fun _ _ _ h => h) ?y30pf (by assumption) ?r30pf
           case hi30pf => (simp only [List.getElem?_toArray, List.getElem?_cons_succ, List.getElem?_cons_zero]; rfl)
           case y30pf => exact Or.inr ⟨by rfl, rfl⟩
           try simp only [Act.put, List.setIfInBounds_toArray, List.set_cons_zero, List.set_cons_succ]
           refine wpAnyH_take (i := 31) (oi := ?o31pf) (v := undef) ?hi31pf (by kernel_rfl) (by kernel_rfl) (by kernel_rfl) (fun _ _ _ h => h) ?y31pf (by assumption) ?r31pf
           case hi31pf => (simp only [List.getElem?_toArray, List.getElem?_cons_succ, List.getElem?_cons_zero]; rfl)
           case y31pf => exact Or.inr ⟨by rfl, rfl⟩
           try simp only [Act.put, List.setIfInBounds_toArray, List.set_cons_zero, List.set_cons_succ]
           refine wpAnyH_take (i := 32) (oi := ?o32pf) (v := undef) ?hi32pf (by kernel_rfl) (by kernel_rfl) (by kernel_rfl) (fun _ _ _ h => h) ?y32pf (by assumption) ?r32pf
           case hi32pf => (simp only [List.getElem?_toArray, List.getElem?_cons_succ, List.getElem?_cons_zero]; rfl)
           case y32pf => exact Or.inr ⟨by rfl, rfl⟩
           try simp only [Act.put, List.setIfInBounds_toArray, List.set_cons_zero, List.set_cons_succ]
           refine wpAnyH_take (i := 33) (oi := ?o33pf) (v := undef) ?hi33pf (by kernel_rfl) (by kernel_rfl) (by kernel_rfl) (fun _ _ _ h => h) ?y33pf (by assumption) ?r33pf
           case hi33pf => (simp only [List.getElem?_toArray, List.getElem?_cons_succ, List.getElem?_cons_zero]; rfl)
           case y33pf => exact Or.inr ⟨by rfl, rfl⟩
           try simp only [Act.put, List.setIfInBounds_toArray, List.set_cons_zero, List.set_cons_succ]
           refine wpAnyH_take (i := 34) (oi := ?o34pf) (v := undef) ?hi34pf (by kernel_rfl) (by kernel_rfl) (by kernel_rfl) (fun _ _ _ h => h) ?y34pf (by assumption) ?r34pf
           case hi34pf => (simp only [List.getElem?_toArray, List.getElem?_cons_succ, List.getElem?_cons_zero]; rfl)
           case y34pf => exact Or.inr ⟨by rfl, rfl⟩
           try simp only [Act.put, List.setIfInBounds_toArray, List.set_cons_zero, List.set_cons_succ]
           try rw [hge]
           refine wpAnyH_take (i := 35) (oi := ?o35pf) (v := ?v35pf) ?hi35pf (by kernel_rfl) (by kernel_rfl) (by kernel_rfl) (fun _ _ _ h => h) ?y35pf (by assumption) ?r35pf
           case hi35pf => (simp only [List.getElem?_toArray, List.getElem?_cons_succ, List.getElem?_cons_zero]; rfl)
           case y35pf => (refine Or.inl ⟨by rfl, ?_⟩; intro w' hSw; (try dsimp only at hSw); go_simp; (try with_reducible rfl))
           try simp only [Act.put, List.setIfInBounds_toArray, List.set_cons_zero, List.set_cons_succ]
           refine wpAnyH_take (i := 36) (oi := ?o36pf) (v := ?v36pf) ?hi36pf (by kernel_rfl) (by kernel_rfl) (by kernel_rfl) (fun _ _ _ h => h) ?y36pf (by assumption) ?r36pf
           case hi36pf => (simp only [List.getElem?_toArray, List.getElem?_cons_succ, List.getElem?_cons_zero]; rfl)
           case y36pf => (refine Or.inl ⟨by rfl, ?_⟩; intro w' hSw; (try dsimp only at hSw); go_simp; (try with_reducible rfl))
           try simp only [Act.put, List.setIfInBounds_toArray, List.set_cons_zero, List.set_cons_succ]
           refine wpAnyH_take (i := 37) (oi := ?o37pf) (v := ?v37pf) ?hi37pf (by kernel_rfl) (by kernel_rfl) (by kernel_rfl) (fun _ _ _ h => h) ?y37pf (by assumption) ?r37pf
           case hi37pf => (simp only [List.getElem?_toArray, List.getElem?_cons_succ, List.getElem?_cons_zero]; rfl)
           case y37pf => (refine Or.inl ⟨by rfl, ?_⟩; intro w' hSw; (try dsimp only at hSw); go_simp; (try with_reducible rfl))
           try simp only [Act.put, List.setIfInBounds_toArray, List.set_cons_zero, List.set_cons_succ]
           refine wpAnyH_take (i := 38) (oi := ?o38pf) (v := ?v38pf) ?hi38pf (by kernel_rfl) (by kernel_rfl) (by kernel_rfl) (fun _ _ _ h => h) ?y38pf (by assumption) ?r38pf
           case hi38pf => (simp only [List.getElem?_toArray, List.getElem?_cons_succ, List.getElem?_cons_zero]; rfl)
           case y38pf => (refine Or.inl ⟨by rfl, ?_⟩; intro w' hSw; (try dsimp only at hSw); go_simp; (try with_reducible rfl))
           try simp only [Act.put, List.setIfInBounds_toArray, List.set_cons_zero, List.set_cons_succ]
           refine wpAnyH_take (i := 39) (oi := ?o39pf) (v := ?v39pf) ?hi39pf (by kernel_rfl) (by kernel_rfl) (by kernel_rfl) (fun _ _ _ h => h) ?y39pf (by assumption) ?r39pf
           case hi39pf => (simp only [List.getElem?_toArray, List.getElem?_cons_succ, List.getElem?_cons_zero]; rfl)
           case y39pf => (refine Or.inl ⟨by rfl, ?_⟩; intro w' hSw; (try dsimp only at hSw); go_simp; (try with_reducible rfl))
           try simp only [Act.put, List.setIfInBounds_toArray, List.set_cons_zero, List.set_cons_succ]
           refine wpAnyH_take (i := 40) (oi := ?o40pf) (v := ?v40pf) ?hi40pf (by kernel_rfl) (by kernel_rfl) (by kernel_rfl) (fun _ _ _ h => h) ?y40pf (by assumption) ?r40pf
           case hi40pf => (simp only [List.getElem?_toArray, List.getElem?_cons_succ, List.getElem?_cons_zero]; rfl)
           case y40pf => (refine Or.inl ⟨by rfl, ?_⟩; intro w' hSw; (try dsimp only at hSw); go_simp; (try with_reducible rfl))
           try simp only [Act.put, List.setIfInBounds_toArray, List.set_cons_zero, List.set_cons_succ]
           refine wpAnyH_take (i := 41) (oi := ?o41pf) (v := ?v41pf) ?hi41pf (by kernel_rfl) (by kernel_rfl) (by kernel_rfl) (fun _ _ _ h => h) ?y41pf (by assumption) ?r41pf
           case hi41pf => (simp only [List.getElem?_toArray, List.getElem?_cons_succ, List.getElem?_cons_zero]; rfl)
           case y41pf => (refine Or.inl ⟨by rfl, ?_⟩; intro w' hSw; (try dsimp only at hSw); go_simp; (try with_reducible rfl))
           try simp only [Act.put, List.setIfInBounds_toArray, List.set_cons_zero, List.set_cons_succ]
           refine wpAnyH_take (i := 42) (oi := ?o42pf) (v := ?v42pf) ?hi42pf (by kernel_rfl) (by kernel_rfl) (by kernel_rfl) (fun _ _ _ h => h) ?y42pf (by assumption) ?r42pf
           case hi42pf => (simp only [List.getElem?_toArray, List.getElem?_cons_succ, List.getElem?_cons_zero]; rfl)
           case y42pf => (refine Or.inl ⟨by rfl, ?_⟩; intro w' hSw; (try dsimp only at hSw); go_simp; (try with_reducible rfl))
           try simp only [Act.put, List.setIfInBounds_toArray, List.set_cons_zero, List.set_cons_succ]
           refine wpAnyH_take (i := 43) (oi := ?o43pf) (v := ?v43pf) ?hi43pf (by kernel_rfl) (by kernel_rfl) (by kernel_rfl) (fun _ _ _ h => h) ?y43pf (by assumption) ?r43pf
           case hi43pf => (simp only [List.getElem?_toArray, List.getElem?_cons_succ, List.getElem?_cons_zero]; rfl)
           case y43pf => (refine Or.inl ⟨by rfl, ?_⟩; intro w' hSw; (try dsimp only at hSw); go_simp; (try with_reducible rfl))
           try simp only [Act.put, List.setIfInBounds_toArray, List.set_cons_zero, List.set_cons_succ]
           try rw [eX]
           try rw [eX2]
           try rw [eX3]
           refine wpAnyH_take (i := 44) (oi := ?o44pf) (v := ?v44pf) ?hi44pf (by kernel_rfl) (by kernel_rfl) (by kernel_rfl) (fun _ _ _ h => h) ?y44pf (by assumption) ?r44pf
           case hi44pf => (simp only [List.getElem?_toArray, List.getElem?_cons_succ, List.getElem?_cons_zero]; rfl)
           case y44pf => (refine Or.inl ⟨by rfl, ?_⟩; intro w' hSw; (try dsimp only at hSw); go_simp; (try with_reducible rfl))
           try simp only [Act.put, List.setIfInBounds_toArray, List.set_cons_zero, List.set_cons_succ]
           refine wpAnyH_take (i := 45) (oi := ?o45pf) (v := ?v45pf) ?hi45pf (by kernel_rfl) (by kernel_rfl) (by kernel_rfl) (fun _ _ _ h => h) ?y45pf (by assumption) ?r45pf
           case hi45pf => (simp only [List.getElem?_toArray, List.getElem?_cons_succ, List.getElem?_cons_zero]; rfl)
           case y45pf => (refine Or.inl ⟨by rfl, ?_⟩; intro w' hSw; (try dsimp only at hSw); go_simp; (try with_reducible rfl))
           try simp only [Act.put, List.setIfInBounds_toArray, List.set_cons_zero, List.set_cons_succ]
           refine wpAnyH_take (i := 46) (oi := ?o46pf) (v := ?v46pf) ?hi46pf (by kernel_rfl) (by kernel_rfl) (by kernel_rfl) (fun _ _ _ h => h) ?y46pf (by assumption) ?r46pf
           case hi46pf => (simp only [List.getElem?_toArray, List.getElem?_cons_succ, List.getElem?_cons_zero]; rfl)
           case y46pf => (refine Or.inl ⟨by rfl, ?_⟩; intro w' hSw; (try dsimp only at hSw); go_simp; (try with_reducible rfl))
           try simp only [Act.put, List.setIfInBounds_toArray, List.set_cons_zero, List.set_cons_succ]
           refine wpAnyH_take (i := 47) (oi := ?o47pf) (v := ?v47pf) ?hi47pf (by kernel_rfl) (by kernel_rfl) (by kernel_rfl) (fun _ _ _ h => h) ?y47pf (by assumption) ?r47pf
           case hi47pf => (simp only [List.getElem?_toArray, List.getElem?_cons_succ, List.getElem?_cons_zero]; rfl)
           case y47pf => (refine Or.inl ⟨by rfl, ?_⟩; intro w' hSw; (try dsimp only at hSw); go_simp; (try with_reducible rfl))
           try simp only [Act.put, List.setIfInBounds_toArray, List.set_cons_zero, List.set_cons_succ]
           refine wpAnyH_take (i := 48) (oi := ?o48pf) (v := ?v48pf) ?hi48pf (by kernel_rfl) (by kernel_rfl) (by kernel_rfl) (fun _ _ _ h => h) ?y48pf (by assumption) ?r48pf
           case hi48pf => (simp only [List.getElem?_toArray, List.getElem?_cons_succ, List.getElem?_cons_zero]; rfl)
           case y48pf => (refine Or.inl ⟨by rfl, ?_⟩; intro w' hSw; (try dsimp only at hSw); go_simp; (try with_reducible rfl))
           try simp only [Act.put, List.setIfInBounds_toArray, List.set_cons_zero, List.set_cons_succ]
           refine wpAnyH_take (i := 49) (oi := ?o49pf) (v := ?v49pf) ?hi49pf (by kernel_rfl) (by kernel_rfl) (by kernel_rfl) (fun _ _ _ h => h) ?y49pf (by assumption) ?r49pf
           case hi49pf => (simp only [List.getElem?_toArray, List.getElem?_cons_succ, List.getElem?_cons_zero]; rfl)
           case y49pf => (refine Or.inl ⟨by rfl, ?_⟩; intro w' hSw; (try dsimp only at hSw); go_simp; (try with_reducible rfl))
           try simp only [Act.put, List.setIfInBounds_toArray, List.set_cons_zero, List.set_cons_succ]
           refine wpAnyH_take (i := 50) (oi := ?o50pf) (v := ?v50pf) ?hi50pf (by kernel_rfl) (by kernel_rfl) (by kernel_rfl) (fun _ _ _ h => h) ?y50pf (by assumption) ?r50pf
           case hi50pf => (simp only [List.getElem?_toArray, List.getElem?_cons_succ, List.getElem?_cons_zero]; rfl)
           case y50pf => (refine Or.inl ⟨by rfl, ?_⟩; intro w' hSw; (try dsimp only at hSw); go_simp; (try with_reducible rfl))
           try simp only [Act.put, List.setIfInBounds_toArray, List.set_cons_zero, List.set_cons_succ]
           refine wpAnyH_take (i := 51) (oi := ?o51pf) (v := ?v51pf) ?hi51pf (by kernel_rfl) (by kernel_rfl) (by kernel_rfl) (fun _ _ _ h => h) ?y51pf (by assumption) ?r51pf
           case hi51pf => (simp only [List.getElem?_toArray, List.getElem?_cons_succ, List.getElem?_cons_zero]; rfl)
           case y51pf => (refine Or.inl ⟨by rfl, ?_⟩; intro w' hSw; (try dsimp only at hSw); go_simp; (try with_reducible rfl))
           try simp only [Act.put, List.setIfInBounds_toArray, List.set_cons_zero, List.set_cons_succ]
           try rw [eD2]
           try rw [eD]
           refine wpAnyH_take (i := 52) (oi := ?o52pf) (v := ?v52pf) ?hi52pf (by kernel_rfl) (by kernel_rfl) (by kernel_rfl) (fun _ _ _ h => h) ?y52pf (by assumption) ?r52pf
           case hi52pf => (simp only [List.getElem?_toArray, List.getElem?_cons_succ, List.getElem?_cons_zero]; rfl)
           case y52pf => (refine Or.inl ⟨by rfl, ?_⟩; intro w' hSw; (try dsimp only at hSw); go_simp; (try with_reducible rfl))
           try simp only [Act.put, List.setIfInBounds_toArray, List.set_cons_zero, List.set_cons_succ]
           refine wpAnyH_take (i := 53) (oi := ?o53pf) (v := ?v53pf) ?hi53pf (by kernel_rfl) (by kernel_rfl) (by kernel_rfl) (fun _ _ _ h => h) ?y53pf (by assumption) ?r53pf
           case hi53pf => (simp only [List.getElem?_toArray, List.getElem?_cons_succ, List.getElem?_cons_zero]; rfl)
           case y53pf => (refine Or.inl ⟨by rfl, ?_⟩; intro w' hSw; (try dsimp only at hSw); go_simp; (try with_reducible rfl))
           try simp only [Act.put, List.setIfInBounds_toArray, List.set_cons_zero, List.set_cons_succ]
           refine wpAnyH_take (i := 54) (oi := ?o54pf) (v := ?v54pf) ?hi54pf (by kernel_rfl) (by kernel_rfl) (by kernel_rfl) (fun _ _ _ h => h) ?y54pf (by assumption) ?r54pf
           case hi54pf => (simp only [List.getElem?_toArray, List.getElem?_cons_succ, List.getElem?_cons_zero]; rfl)
           case y54pf => (refine Or.inl ⟨by rfl, ?_⟩; intro w' hSw; (try dsimp only at hSw); go_simp; (try with_reducible rfl))
           try simp only [Act.put, List.setIfInBounds_toArray, List.set_cons_zero, List.set_cons_succ]
           refine wpAnyH_take (i := 55) (oi := ?o55pf) (v := ?v55pf) ?hi55pf (by kernel_rfl) (by kernel_rfl) (by kernel_rfl) (fun _ _ _ h => h) ?y55pf (by assumption) ?r55pf
           case hi55pf => (simp only [List.getElem?_toArray, List.getElem?_cons_succ, List.getElem?_cons_zero]; rfl)
           case y55pf => (refine Or.inl ⟨by rfl, ?_⟩; intro w' hSw; (try dsimp only at hSw); go_simp; (try with_reducible rfl))
           try simp only [Act.put, List.setIfInBounds_toArray, List.set_cons_zero, List.set_cons_succ]
           refine wpAnyH_take (i := 56) (oi := ?o56pf) (v := ?v56pf) ?hi56pf (by kernel_rfl) (by kernel_rfl) (by kernel_rfl) (fun _ _ _ h => h) ?y56pf (by assumption) ?r56pf
           case hi56pf => (simp only [List.getElem?_toArray, List.getElem?_cons_succ, List.getElem?_cons_zero]; rfl)
           case y56pf => (refine Or.inl ⟨by rfl, ?_⟩; intro w' hSw; (try dsimp only at hSw); go_simp; (try with_reducible rfl))
           try simp only [Act.put, List.setIfInBounds_toArray, List.set_cons_zero, List.set_cons_succ]
           refine wpAnyH_take (i := 57) (oi := ?o57pf) (v := ?v57pf) ?hi57pf (by kernel_rfl) (by kernel_rfl) (by kernel_rfl) (fun _ _ _ h => h) ?y57pf (by assumption) ?r57pf
           case hi57pf => (simp only [List.getElem?_toArray, List.getElem?_cons_succ, List.getElem?_cons_zero]; rfl)
           case y57pf => (refine Or.inl ⟨by rfl, ?_⟩; intro w' hSw; (try dsimp only at hSw); go_simp; (try with_reducible rfl))
           try simp only [Act.put, List.setIfInBounds_toArray, List.set_cons_zero, List.set_cons_succ]
           refine wpAnyH_take (i := 58) (oi := ?o58pf) (v := undef) ?hi58pf (by kernel_rfl) (by kernel_rfl) (by kernel_rfl) (fun _ _ _ h => h) ?y58pf (by assumption) ?r58pf
           case hi58pf => (simp only [List.getElem?_toArray, List.getElem?_cons_succ, List.getElem?_cons_zero]; rfl)
           case y58pf => exact Or.inr ⟨by rfl, rfl⟩
           try simp only [Act.put, List.setIfInBounds_toArray, List.set_cons_zero, List.set_cons_succ]
           refine wpAnyH_take (i := 59) (oi := ?o59pf) (v := undef) ?hi59pf (by kernel_rfl) (by kernel_rfl) (by kernel_rfl) (fun _ _ _ h => h) ?y59pf (by assumption) ?r59pf
           case hi59pf => (simp only [List.getElem?_toArray, List.getElem?_cons_succ, List.getElem?_cons_zero]; rfl)
           case y59pf => exact Or.inr ⟨by rfl, rfl⟩
           try simp only [Act.put, List.setIfInBounds_toArray, List.set_cons_zero, List.set_cons_succ]
           refine wpAnyH_take (i := 60) (oi := ?o60pf) (v := undef) ?hi60pf (by kernel_rfl) (by kernel_rfl) (by kernel_rfl) (fun _ _ _ h => h) ?y60pf (by assumption) ?r60pf
           case hi60pf => (simp only [List.getElem?_toArray, List.getElem?_cons_succ, List.getElem?_cons_zero]; rfl)
           case y60pf => exact Or.inr ⟨by rfl, rfl⟩
           try simp only [Act.put, List.setIfInBounds_toArray, List.set_cons_zero, List.set_cons_succ]
           refine wpAnyH_take (i := 61) (oi := ?o61pf) (v := undef) ?hi61pf (by kernel_rfl) (by kernel_rfl) (by kernel_rfl) (fun _ _ _ h => h) ?y61pf (by assumption) ?r61pf
           case hi61pf => (simp only [List.getElem?_toArray, List.getElem?_cons_succ, List.getElem?_cons_zero]; rfl)
           case y61pf => exact Or.inr ⟨by rfl, rfl⟩
           try simp only [Act.put, List.setIfInBounds_toArray, List.set_cons_zero, List.set_cons_succ]
           refine wpAnyH_take (i := 62) (oi := ?o62pf) (v := undef) ?hi62pf (by kernel_rfl) (by kernel_rfl) (by kernel_rfl) (fun _ _ _ h => h) ?y62pf (by assumption) ?r62pf
           case hi62pf => (simp only [List.getElem?_toArray, List.getElem?_cons_succ, List.getElem?_cons_zero]; rfl)
           case y62pf => exact Or.inr ⟨by rfl, rfl⟩
           try simp only [Act.put, List.setIfInBounds_toArray, List.set_cons_zero, List.set_cons_succ]
           try rw [eV2]
           try rw [eV]
           refine wpAnyH_take (i := 63) (oi := ?o63pf) (v := ?v63pf) ?hi63pf (by kernel_rfl) (by kernel_rfl) (by kernel_rfl) (fun _ _ _ h => h) ?y63pf (by assumption) ?r63pf
           case hi63pf => (simp only [List.getElem?_toArray, List.getElem?_cons_succ, List.getElem?_cons_zero]; rfl)
           case y63pf => (refine Or.inl ⟨by rfl, ?_⟩; intro w' hSw; (try dsimp only at hSw); go_simp; (try with_reducible rfl))
           try simp only [Act.put, List.setIfInBounds_toArray, List.set_cons_zero, List.set_cons_succ]
           refine wpAnyH_take (i := 64) (oi := ?o64pf) (v := ?v64pf) ?hi64pf (by kernel_rfl) (by kernel_rfl) (by kernel_rfl) (fun _ _ _ h => h) ?y64pf (by assumption) ?r64pf
           case hi64pf => (simp only [List.getElem?_toArray, List.getElem?_cons_succ, List.getElem?_cons_zero]; rfl)
           case y64pf => (refine Or.inl ⟨by rfl, ?_⟩; intro w' hSw; (try dsimp only at hSw); go_simp; (try with_reducible rfl))
           try simp only [Act.put, List.setIfInBounds_toArray, List.set_cons_zero, List.set_cons_succ]
           refine wpAnyH_done (by kernel_rfl) ?_ _
           refine NoPanic.normal ?_
           clear hHeld
           go_wp2_with fail
           go_roundw
           case rel => exact ⟨0 + 1, by omega, by go_num, bel⟩
           case measure => simp [RowKit.intOf]; omega
         | true =>
          have hyv' := (hyv rfl).symm
          subst hyv'
          clear hyv
          as_aux_lemma =>
           go_wp2_with fail
           simp only [List.append_eq, List.cons_append, List.nil_append]
           refine wp_region_noPanic ?_
           refine wp_region_held_drew (S := fun w' => Bx.Blk w' m7 (Mem.pc o k AP n c) ∧ w'.cell? ⟨w.heap.size + 1, 0, none⟩ = some (.int .i64 q) ∧ w'.cell? ⟨w.heap.size + 1, 2, none⟩ = some (.int .i64 op) ∧ w'.cell? ⟨wr.heap.size, 0, none⟩ = some (.int .i64 yq) ∧ w'.cell? ⟨wr.heap.size, 1, none⟩ = some (.int .u64 d) ∧ w'.cell? ⟨wr.heap.size, 3, none⟩ = some (.bool true) ∧ w'.cell? ⟨wr.heap.size, 5, none⟩ = some (.int .i64 V) ∧ w'.cell? ⟨wr.heap.size, 7, none⟩ = some (.string X) ∧ w'.cell? ⟨m8, 0, none⟩ = some (.int .u64 d) ∧ w'.cell? ⟨m8, 6, none⟩ = some (.string X)) (by kernel_rfl) (by exact ⟨B1'.out, c0_0, c0_2, x0, x1, x3, x5, x7, c2_0, c2_6⟩) (fun hHeld => ?_)
           replace bel := Bx.bel_drewn bel
           refine wpAnyH_take (i := 0) (oi := ?o0pt) (v := ?v0pt) ?hi0pt (by kernel_rfl) (by kernel_rfl) (by kernel_rfl) (fun _ _ _ h => h) ?y0pt (by assumption) ?r0pt
           case hi0pt => (simp only [List.getElem?_toArray, List.getElem?_cons_zero]; rfl)
           case y0pt => (refine Or.inl ⟨by rfl, ?_⟩; intro w' hSw; (try dsimp only at hSw); go_simp; (try with_reducible rfl))
           try simp only [Act.put, List.setIfInBounds_toArray, List.set_cons_zero, List.set_cons_succ]
           refine wpAnyH_take (i := 1) (oi := ?o1pt) (v := ?v1pt) ?hi1pt (by kernel_rfl) (by kernel_rfl) (by kernel_rfl) (fun _ _ _ h => h) ?y1pt (by assumption) ?r1pt
           case hi1pt => (simp only [List.getElem?_toArray, List.getElem?_cons_succ, List.getElem?_cons_zero]; rfl)
           case y1pt => (refine Or.inl ⟨by rfl, ?_⟩; intro w' hSw; (try dsimp only at hSw); go_simp; (try with_reducible rfl))
           try simp only [Act.put, List.setIfInBounds_toArray, List.set_cons_zero, List.set_cons_succ]
           refine wpAnyH_take (i := 2) (oi := ?o2pt) (v := ?v2pt) ?hi2pt (by kernel_rfl) (by kernel_rfl) (by kernel_rfl) (fun _ _ _ h => h) ?y2pt (by assumption) ?r2pt
           case hi2pt => (simp only [List.getElem?_toArray, List.getElem?_cons_succ, List.getElem?_cons_zero]; rfl)
           case y2pt => (refine Or.inl ⟨by rfl, ?_⟩; intro w' hSw; (try dsimp only at hSw); go_simp; (try with_reducible rfl))
           try simp only [Act.put, List.setIfInBounds_toArray, List.set_cons_zero, List.set_cons_succ]
           refine wpAnyH_take (i := 3) (oi := ?o3pt) (v := ?v3pt) ?hi3pt (by kernel_rfl) (by kernel_rfl) (by kernel_rfl) (fun _ _ _ h => h) ?y3pt (by assumption) ?r3pt
           case hi3pt => (simp only [List.getElem?_toArray, List.getElem?_cons_succ, List.getElem?_cons_zero]; rfl)
           case y3pt => (refine Or.inl ⟨by rfl, ?_⟩; intro w' hSw; (try dsimp only at hSw); go_simp; (try with_reducible rfl))
           try simp only [Act.put, List.setIfInBounds_toArray, List.set_cons_zero, List.set_cons_succ]
           refine wpAnyH_take (i := 4) (oi := ?o4pt) (v := ?v4pt) ?hi4pt (by kernel_rfl) (by kernel_rfl) (by kernel_rfl) (fun _ _ _ h => h) ?y4pt (by assumption) ?r4pt
           case hi4pt => (simp only [List.getElem?_toArray, List.getElem?_cons_succ, List.getElem?_cons_zero]; rfl)
           case y4pt => (refine Or.inl ⟨by rfl, ?_⟩; intro w' hSw; (try dsimp only at hSw); go_simp; (try with_reducible rfl))
           try simp only [Act.put, List.setIfInBounds_toArray, List.set_cons_zero, List.set_cons_succ]
           try rw [eq1]
           refine wpAnyH_take (i := 5) (oi := ?o5pt) (v := ?v5pt) ?hi5pt (by kernel_rfl) (by kernel_rfl) (by kernel_rfl) (fun _ _ _ h => h) ?y5pt (by assumption) ?r5pt
           case hi5pt => (simp only [List.getElem?_toArray, List.getElem?_cons_succ, List.getElem?_cons_zero]; rfl)
           case y5pt => (refine Or.inl ⟨by rfl, ?_⟩; intro w' hSw; (try dsimp only at hSw); go_simp; (try with_reducible rfl))
           try simp only [Act.put, List.setIfInBounds_toArray, List.set_cons_zero, List.set_cons_succ]
           refine wpAnyH_take (i := 6) (oi := ?o6pt) (v := ?v6pt) ?hi6pt (by kernel_rfl) (by kernel_rfl) (by kernel_rfl) (fun _ _ _ h => h) ?y6pt (by assumption) ?r6pt
           case hi6pt => (simp only [List.getElem?_toArray, List.getElem?_cons_succ, List.getElem?_cons_zero]; rfl)
           case y6pt => (refine Or.inl ⟨by rfl, ?_⟩; intro w' hSw; (try dsimp only at hSw); go_simp; (try with_reducible rfl))
           try simp only [Act.put, List.setIfInBounds_toArray, List.set_cons_zero, List.set_cons_succ]
           refine wpAnyH_take (i := 7) (oi := ?o7pt) (v := ?v7pt) ?hi7pt (by kernel_rfl) (by kernel_rfl) (by kernel_rfl) (fun _ _ _ h => h) ?y7pt (by assumption) ?r7pt
           case hi7pt => (simp only [List.getElem?_toArray, List.getElem?_cons_succ, List.getElem?_cons_zero]; rfl)
           case y7pt => (refine Or.inl ⟨by rfl, ?_⟩; intro w' hSw; (try dsimp only at hSw); go_simp; (try with_reducible rfl))
           try simp only [Act.put, List.setIfInBounds_toArray, List.set_cons_zero, List.set_cons_succ]
           refine wpAnyH_take (i := 8) (oi := ?o8pt) (v := ?v8pt) ?hi8pt (by kernel_rfl) (by kernel_rfl) (by kernel_rfl) (fun _ _ _ h => h) ?y8pt (by assumption) ?r8pt
           case hi8pt => (simp only [List.getElem?_toArray, List.getElem?_cons_succ, List.getElem?_cons_zero]; rfl)
           case y8pt => (refine Or.inl ⟨by rfl, ?_⟩; intro w' hSw; (try dsimp only at hSw); go_simp; (try with_reducible rfl))
           try simp only [Act.put, List.setIfInBounds_toArray, List.set_cons_zero, List.set_cons_succ]
           refine wpAnyH_take (i := 9) (oi := ?o9pt) (v := ?v9pt) ?hi9pt (by kernel_rfl) (by kernel_rfl) (by kernel_rfl) (fun _ _ _ h => h) ?y9pt (by assumption) ?r9pt
           case hi9pt => (simp only [List.getElem?_toArray, List.getElem?_cons_succ, List.getElem?_cons_zero]; rfl)
           case y9pt => (refine Or.inl ⟨by rfl, ?_⟩; intro w' hSw; (try dsimp only at hSw); go_simp; (try with_reducible rfl))
           try simp only [Act.put, List.setIfInBounds_toArray, List.set_cons_zero, List.set_cons_succ]
           refine wpAnyH_ready (rs := [10]) (by kernel_rfl) (by simp) ?_
           refine AllReadyH.cons (o := ?o10pt) ?hi10pt ?hst10pt AllReadyH.nil
           case hi10pt => (simp only [List.getElem?_toArray, List.getElem?_cons_succ, List.getElem?_cons_zero]; rfl)
           intro K hK
           go_simp
           (go_at_call 22; (with_reducible refine (HOP.out _ (Bx.then_below BW.out bel)).mono ?_); rintro e w6 ⟨rfl, hb6⟩)
           go_wp2_with fail
           refine hK.out _ _ (⟨Bx.Blk.keep hHeld.1 hb6, Bx.keep_cell hb6 hHeld.2.1, Bx.keep_cell hb6 hHeld.2.2.1, Bx.keep_cell hb6 hHeld.2.2.2.1, Bx.keep_cell hb6 hHeld.2.2.2.2.1, Bx.keep_cell hb6 hHeld.2.2.2.2.2.1, Bx.keep_cell hb6 hHeld.2.2.2.2.2.2.1, Bx.keep_cell hb6 hHeld.2.2.2.2.2.2.2.1, Bx.keep_cell hb6 hHeld.2.2.2.2.2.2.2.2.1, Bx.keep_cell hb6 hHeld.2.2.2.2.2.2.2.2.2⟩) (fun hNew => ?_)
           clear hHeld
           have hHeld := hNew
           clear hNew hK K
           replace bel := Bx.then_below bel hb6
           clear hb6
           refine wpAnyH_take (i := 11) (oi := ?o11pt) (v := ?v11pt) ?hi11pt (by kernel_rfl) (by kernel_rfl) (by kernel_rfl) (fun _ _ _ h => h) ?y11pt (by assumption) ?r11pt
           case hi11pt => (simp only [List.getElem?_toArray, List.getElem?_cons_succ, List.getElem?_cons_zero]; rfl)
           case y11pt => (refine Or.inl ⟨by rfl, ?_⟩; intro w' hSw; (try dsimp only at hSw); go_simp; (try with_reducible rfl))
           try simp only [Act.put, List.setIfInBounds_toArray, List.set_cons_zero, List.set_cons_succ]
           refine wpAnyH_take (i := 12) (oi := ?o12pt) (v := ?v12pt) ?hi12pt (by kernel_rfl) (by kernel_rfl) (by kernel_rfl) (fun _ _ _ h => h) ?y12pt (by assumption) ?r12pt
           case hi12pt => (simp only [List.getElem?_toArray, List.getElem?_cons_succ, List.getElem?_cons_zero]; rfl)
           case y12pt => (refine Or.inl ⟨by rfl, ?_⟩; intro w' hSw; (try dsimp only at hSw); go_simp; (try with_reducible rfl))
           try simp only [Act.put, List.setIfInBounds_toArray, List.set_cons_zero, List.set_cons_succ]
           refine wpAnyH_take (i := 13) (oi := ?o13pt) (v := ?v13pt) ?hi13pt (by kernel_rfl) (by kernel_rfl) (by kernel_rfl) (fun _ _ _ h => h) ?y13pt (by assumption) ?r13pt
           case hi13pt => (simp only [List.getElem?_toArray, List.getElem?_cons_succ, List.getElem?_cons_zero]; rfl)
           case y13pt => (refine Or.inl ⟨by rfl, ?_⟩; intro w' hSw; (try dsimp only at hSw); go_simp; (try with_reducible rfl))
           try simp only [Act.put, List.setIfInBounds_toArray, List.set_cons_zero, List.set_cons_succ]
           refine wpAnyH_take (i := 14) (oi := ?o14pt) (v := Mem.pv o k AP n c) ?hi14pt (by kernel_rfl) (by kernel_rfl) (by kernel_rfl) (fun _ _ _ h => h) ?y14pt (by assumption) ?r14pt
           case hi14pt => (simp only [List.getElem?_toArray, List.getElem?_cons_succ, List.getElem?_cons_zero]; rfl)
           case y14pt => (refine Mem.yields_pl rfl _ rfl (m7) rfl o k AP n c ?_; intro w' hS; exact hS.1)
           try simp only [Act.put, List.setIfInBounds_toArray, List.set_cons_zero, List.set_cons_succ]
           refine wpAnyH_take (i := 15) (oi := ?o15pt) (v := ?v15pt) ?hi15pt (by kernel_rfl) (by kernel_rfl) (by kernel_rfl) (fun _ _ _ h => h) ?y15pt (by assumption) ?r15pt
           case hi15pt => (simp only [List.getElem?_toArray, List.getElem?_cons_succ, List.getElem?_cons_zero]; rfl)
           case y15pt => (refine Or.inl ⟨by rfl, ?_⟩; intro w' hSw; (try dsimp only at hSw); go_simp; (try with_reducible rfl))
           try simp only [Act.put, List.setIfInBounds_toArray, List.set_cons_zero, List.set_cons_succ]
           refine wpAnyH_take (i := 17) (oi := ?o17pt) (v := ?v17pt) ?hi17pt (by kernel_rfl) (by kernel_rfl) (by kernel_rfl) (fun _ _ _ h => h) ?y17pt (by assumption) ?r17pt
           case hi17pt => (simp only [List.getElem?_toArray, List.getElem?_cons_succ, List.getElem?_cons_zero]; rfl)
           case y17pt => (refine Or.inl ⟨by rfl, ?_⟩; intro w' hSw; (try dsimp only at hSw); go_simp; (try with_reducible rfl))
           try simp only [Act.put, List.setIfInBounds_toArray, List.set_cons_zero, List.set_cons_succ]
           refine wpAnyH_take (i := 18) (oi := ?o18pt) (v := ?v18pt) ?hi18pt (by kernel_rfl) (by kernel_rfl) (by kernel_rfl) (fun _ _ _ h => h) ?y18pt (by assumption) ?r18pt
           case hi18pt => (simp only [List.getElem?_toArray, List.getElem?_cons_succ, List.getElem?_cons_zero]; rfl)
           case y18pt => (refine Or.inl ⟨by rfl, ?_⟩; intro w' hSw; (try dsimp only at hSw); go_simp; (try with_reducible rfl))
           try simp only [Act.put, List.setIfInBounds_toArray, List.set_cons_zero, List.set_cons_succ]
           refine wpAnyH_ready (rs := [16]) (by kernel_rfl) (by simp) ?_
           refine AllReadyH.cons (o := ?o16pt) ?hi16pt ?hst16pt AllReadyH.nil
           case hi16pt => (simp only [List.getElem?_toArray, List.getElem?_cons_succ, List.getElem?_cons_zero]; rfl)
           intro K hK
           go_simp
           (go_at_call 27; (with_reducible refine (HTa.out.of _ (Bx.then_below BW.out bel)).mono ?_); rintro e w7 ⟨rfl, hb7⟩)
           go_wp2_with fail
           refine hK.out _ _ (⟨Bx.Blk.keep hHeld.1 hb7, Bx.keep_cell hb7 hHeld.2.1, Bx.keep_cell hb7 hHeld.2.2.1, Bx.keep_cell hb7 hHeld.2.2.2.1, Bx.keep_cell hb7 hHeld.2.2.2.2.1, Bx.keep_cell hb7 hHeld.2.2.2.2.2.1, Bx.keep_cell hb7 hHeld.2.2.2.2.2.2.1, Bx.keep_cell hb7 hHeld.2.2.2.2.2.2.2.1, Bx.keep_cell hb7 hHeld.2.2.2.2.2.2.2.2.1, Bx.keep_cell hb7 hHeld.2.2.2.2.2.2.2.2.2⟩) (fun hNew => ?_)
           clear hHeld
           have hHeld := hNew
           clear hNew hK K
           replace bel := Bx.then_below bel hb7
           clear hb7
           refine wpAnyH_ready (rs := [19]) (by kernel_rfl) (by simp) ?_
           refine AllReadyH.cons (o := ?o19pt) ?hi19pt ?hst19pt AllReadyH.nil
           case hi19pt => (simp only [List.getElem?_toArray, List.getElem?_cons_succ, List.getElem?_cons_zero]; rfl)
           intro K hK
           go_simp
           (go_at_call 22; (with_reducible refine (HFQ.out _ (Bx.then_below BW.out bel)).mono ?_); rintro e w8 ⟨rfl, hb8⟩)
           go_wp2_with fail
           refine hK.out _ _ (⟨Bx.Blk.keep hHeld.1 hb8, Bx.keep_cell hb8 hHeld.2.1, Bx.keep_cell hb8 hHeld.2.2.1, Bx.keep_cell hb8 hHeld.2.2.2.1, Bx.keep_cell hb8 hHeld.2.2.2.2.1, Bx.keep_cell hb8 hHeld.2.2.2.2.2.1, Bx.keep_cell hb8 hHeld.2.2.2.2.2.2.1, Bx.keep_cell hb8 hHeld.2.2.2.2.2.2.2.1, Bx.keep_cell hb8 hHeld.2.2.2.2.2.2.2.2.1, Bx.keep_cell hb8 hHeld.2.2.2.2.2.2.2.2.2⟩) (fun hNew => ?_)
           clear hHeld
           have hHeld := hNew
           clear hNew hK K
           replace bel := Bx.then_below bel hb8
           clear hb8
           refine wpAnyH_take (i := 20) (oi := ?o20pt) (v := ?v20pt) ?hi20pt (by kernel_rfl) (by kernel_rfl) (by kernel_rfl) (fun _ _ _ h => h) ?y20pt (by assumption) ?r20pt
           case hi20pt => (simp only [List.getElem?_toArray, List.getElem?_cons_succ, List.getElem?_cons_zero]; rfl)
           case y20pt => (refine Or.inl ⟨by rfl, ?_⟩; intro w' hSw; (try dsimp only at hSw); go_simp; (try with_reducible rfl))
           try simp only [Act.put, List.setIfInBounds_toArray, List.set_cons_zero, List.set_cons_succ]
           refine wpAnyH_take (i := 21) (oi := ?o21pt) (v := ?v21pt) ?hi21pt (by kernel_rfl) (by kernel_rfl) (by kernel_rfl) (fun _ _ _ h => h) ?y21pt (by assumption) ?r21pt
           case hi21pt => (simp only [List.getElem?_toArray, List.getElem?_cons_succ, List.getElem?_cons_zero]; rfl)
           case y21pt => (refine Or.inl ⟨by rfl, ?_⟩; intro w' hSw; (try dsimp only at hSw); go_simp; (try with_reducible rfl))
           try simp only [Act.put, List.setIfInBounds_toArray, List.set_cons_zero, List.set_cons_succ]
           refine wpAnyH_take (i := 22) (oi := ?o22pt) (v := ?v22pt) ?hi22pt (by kernel_rfl) (by kernel_rfl) (by kernel_rfl) (fun _ _ _ h => h) ?y22pt (by assumption) ?r22pt
           case hi22pt => (simp only [List.getElem?_toArray, List.getElem?_cons_succ, List.getElem?_cons_zero]; rfl)
           case y22pt => (refine Or.inl ⟨by rfl, ?_⟩; intro w' hSw; (try dsimp only at hSw); go_simp; (try with_reducible rfl))
           try simp only [Act.put, List.setIfInBounds_toArray, List.set_cons_zero, List.set_cons_succ]
           refine wpAnyH_take (i := 23) (oi := ?o23pt) (v := ?v23pt) ?hi23pt (by kernel_rfl) (by kernel_rfl) (by kernel_rfl) (fun _ _ _ h => h) ?y23pt (by assumption) ?r23pt
           case hi23pt => (simp only [List.getElem?_toArray, List.getElem?_cons_succ, List.getElem?_cons_zero]; rfl)
           case y23pt => (refine Or.inl ⟨by rfl, ?_⟩; intro w' hSw; (try dsimp only at hSw); go_simp; (try with_reducible rfl))
           try simp only [Act.put, List.setIfInBounds_toArray, List.set_cons_zero, List.set_cons_succ]
           refine wpAnyH_take (i := 24) (oi := ?o24pt) (v := ?v24pt) ?hi24pt (by kernel_rfl) (by kernel_rfl) (by kernel_rfl) (fun _ _ _ h => h) ?y24pt (by assumption) ?r24pt
           case hi24pt => (simp only [List.getElem?_toArray, List.getElem?_cons_succ, List.getElem?_cons_zero]; rfl)
           case y24pt => (refine Or.inl ⟨by rfl, ?_⟩; intro w' hSw; (try dsimp only at hSw); go_simp; (try with_reducible rfl))
           try simp only [Act.put, List.setIfInBounds_toArray, List.set_cons_zero, List.set_cons_succ]
           try rw [hz0]
           refine wpAnyH_take (i := 25) (oi := ?o25pt) (v := ?v25pt) ?hi25pt (by kernel_rfl) (by kernel_rfl) (by kernel_rfl) (fun _ _ _ h => h) ?y25pt (by assumption) ?r25pt
           case hi25pt => (simp only [List.getElem?_toArray, List.getElem?_cons_succ, List.getElem?_cons_zero]; rfl)
           case y25pt => (refine Or.inl ⟨by rfl, ?_⟩; intro w' hSw; (try dsimp only at hSw); go_simp; (try with_reducible rfl))
           try simp only [Act.put, List.setIfInBounds_toArray, List.set_cons_zero, List.set_cons_succ]
           refine wpAnyH_take (i := 26) (oi := ?o26pt) (v := undef) ?hi26pt (by kernel_rfl) (by kernel_rfl) (by kernel_rfl) (fun _ _ _ h => h) ?y26pt (by assumption) ?r26pt
           case hi26pt => (simp only [List.getElem?_toArray, List.getElem?_cons_succ, List.getElem?_cons_zero]; rfl)
           case y26pt => exact Or.inr ⟨by rfl, rfl⟩
           try simp only [Act.put, List.setIfInBounds_toArray, List.set_cons_zero, List.set_cons_succ]
           refine wpAnyH_take (i := 27) (oi := ?o27pt) (v := undef) ?hi27pt (by kernel_rfl) (by kernel_rfl) (by kernel_rfl) (fun _ _ _ h => h) ?y27pt (by assumption) ?r27pt
           case hi27pt => (simp only [List.getElem?_toArray, List.getElem?_cons_succ, List.getElem?_cons_zero]; rfl)
           case y27pt => exact Or.inr ⟨by rfl, rfl⟩
           try simp only [Act.put, List.setIfInBounds_toArray, List.set_cons_zero, List.set_cons_succ]
           refine wpAnyH_take (i := 28) (oi := ?o28pt) (v := undef) ?hi28pt (by kernel_rfl) (by kernel_rfl) (by kernel_rfl) (fun _ _ _ h => h) ?y28pt (by assumption) ?r28pt
           case hi28pt => (simp only [List.getElem?_toArray, List.getElem?_cons_succ, List.getElem?_cons_zero]; rfl)
           case y28pt => exact Or.inr ⟨by rfl, rfl⟩
           try simp only [Act.put, List.setIfInBounds_toArray, List.set_cons_zero, List.set_cons_succ]
           refine wpAnyH_take (i := 29) (oi := ?o29pt) (v := undef) ?hi29pt (by kernel_rfl) (by kernel_rfl) (by kernel_rfl) (fun _ _ _ h => h) ?y29pt (by assumption) ?r29pt
           case hi29pt => (simp only [List.getElem?_toArray, List.getElem?_cons_succ, List.getElem?_cons_zero]; rfl)
           case y29pt => exact Or.inr ⟨by rfl, rfl⟩
           try simp only [Act.put, List.setIfInBounds_toArray, List.set_cons_zero, List.set_cons_succ]
           refine wpAnyH_take (i := 30) (oi := ?o30pt) (v := undef) ?hi30pt (by kernel_rfl) (by kernel_rfl) (by kernel_rfl) (fun _ _ _ h => h) ?y30pt (by assumption) ?r30pt
           case hi30pt => (simp only [List.getElem?_toArray, List.getElem?_cons_succ, List.getElem?_cons_zero]; rfl)
           case y30pt => exact Or.inr ⟨by rfl, rfl⟩
           try simp only [Act.put, List.setIfInBounds_toArray, List.set_cons_zero, List.set_cons_succ]
           refine wpAnyH_take (i := 31) (oi := ?o31pt) (v := undef) ?hi31pt (by kernel_rfl) (by kernel_rfl) (by kernel_rfl) (fun _ _ _ h => h) ?y31pt (by assumption) ?r31pt
           case hi31pt => (simp only [List.getElem?_toArray, List.getElem?_cons_succ, List.getElem?_cons_zero]; rfl)
           case y31pt => exact Or.inr ⟨by rfl, rfl⟩
           try simp only [Act.put, List.setIfInBounds_toArray, List.set_cons_zero, List.set_cons_succ]
           refine wpAnyH_take (i := 32) (oi := ?o32pt) (v := undef) ?hi32pt (by kernel_rfl) (by kernel_rfl) (by kernel_rfl) (fun _ _ _ h => h) ?y32pt (by assumption) ?r32pt
           case hi32pt => (simp only [List.getElem?_toArray, List.getElem?_cons_succ, List.getElem?_cons_zero]; rfl)
           case y32pt => exact Or.inr ⟨by rfl, rfl⟩
           try simp only [Act.put, List.setIfInBounds_toArray, List.set_cons_zero, List.set_cons_succ]
           refine wpAnyH_take (i := 33) (oi := ?o33pt) (v := undef) ?hi33pt (by kernel_rfl) (by kernel_rfl) (by kernel_rfl) (fun _ _ _ h => h) ?y33pt (by assumption) ?r33pt
           case hi33pt => (simp only [List.getElem?_toArray, List.getElem?_cons_succ, List.getElem?_cons_zero]; rfl)
           case y33pt => exact Or.inr ⟨by rfl, rfl⟩
           try simp only [Act.put, List.setIfInBounds_toArray, List.set_cons_zero, List.set_cons_succ]
           refine wpAnyH_take (i := 34) (oi := ?o34pt) (v := undef) ?hi34pt (by kernel_rfl) (by kernel_rfl) (by kernel_rfl) (fun _ _ _ h => h) ?y34pt (by assumption) ?r34pt
           case hi34pt => (simp only [List.getElem?_toArray, List.getElem?_cons_succ, List.getElem?_cons_zero]; rfl)
           case y34pt => exact Or.inr ⟨by rfl, rfl⟩
           try simp only [Act.put, List.setIfInBounds_toArray, List.set_cons_zero, List.set_cons_succ]
           try rw [hge]
           refine wpAnyH_take (i := 35) (oi := ?o35pt) (v := ?v35pt) ?hi35pt (by kernel_rfl) (by kernel_rfl) (by kernel_rfl) (fun _ _ _ h => h) ?y35pt (by assumption) ?r35pt
           case hi35pt => (simp only [List.getElem?_toArray, List.getElem?_cons_succ, List.getElem?_cons_zero]; rfl)
           case y35pt => (refine Or.inl ⟨by rfl, ?_⟩; intro w' hSw; (try dsimp only at hSw); go_simp; (try with_reducible rfl))
           try simp only [Act.put, List.setIfInBounds_toArray, List.set_cons_zero, List.set_cons_succ]
           refine wpAnyH_take (i := 36) (oi := ?o36pt) (v := ?v36pt) ?hi36pt (by kernel_rfl) (by kernel_rfl) (by kernel_rfl) (fun _ _ _ h => h) ?y36pt (by assumption) ?r36pt
           case hi36pt => (simp only [List.getElem?_toArray, List.getElem?_cons_succ, List.getElem?_cons_zero]; rfl)
           case y36pt => (refine Or.inl ⟨by rfl, ?_⟩; intro w' hSw; (try dsimp only at hSw); go_simp; (try with_reducible rfl))
           try simp only [Act.put, List.setIfInBounds_toArray, List.set_cons_zero, List.set_cons_succ]
           refine wpAnyH_take (i := 37) (oi := ?o37pt) (v := ?v37pt) ?hi37pt (by kernel_rfl) (by kernel_rfl) (by kernel_rfl) (fun _ _ _ h => h) ?y37pt (by assumption) ?r37pt
           case hi37pt => (simp only [List.getElem?_toArray, List.getElem?_cons_succ, List.getElem?_cons_zero]; rfl)
           case y37pt => (refine Or.inl ⟨by rfl, ?_⟩; intro w' hSw; (try dsimp only at hSw); go_simp; (try with_reducible rfl))
           try simp only [Act.put, List.setIfInBounds_toArray, List.set_cons_zero, List.set_cons_succ]
           refine wpAnyH_take (i := 38) (oi := ?o38pt) (v := ?v38pt) ?hi38pt (by kernel_rfl) (by kernel_rfl) (by kernel_rfl) (fun _ _ _ h => h) ?y38pt (by assumption) ?r38pt
           case hi38pt => (simp only [List.getElem?_toArray, List.getElem?_cons_succ, List.getElem?_cons_zero]; rfl)
           case y38pt => (refine Or.inl ⟨by rfl, ?_⟩; intro w' hSw; (try dsimp only at hSw); go_simp; (try with_reducible rfl))
           try simp only [Act.put, List.setIfInBounds_toArray, List.set_cons_zero, List.set_cons_succ]
           refine wpAnyH_take (i := 39) (oi := ?o39pt) (v := ?v39pt) ?hi39pt (by kernel_rfl) (by kernel_rfl) (by kernel_rfl) (fun _ _ _ h => h) ?y39pt (by assumption) ?r39pt
           case hi39pt => (simp only [List.getElem?_toArray, List.getElem?_cons_succ, List.getElem?_cons_zero]; rfl)
           case y39pt => (refine Or.inl ⟨by rfl, ?_⟩; intro w' hSw; (try dsimp only at hSw); go_simp; (try with_reducible rfl))
           try simp only [Act.put, List.setIfInBounds_toArray, List.set_cons_zero, List.set_cons_succ]
           refine wpAnyH_take (i := 40) (oi := ?o40pt) (v := ?v40pt) ?hi40pt (by kernel_rfl) (by kernel_rfl) (by kernel_rfl) (fun _ _ _ h => h) ?y40pt (by assumption) ?r40pt
           case hi40pt => (simp only [List.getElem?_toArray, List.getElem?_cons_succ, List.getElem?_cons_zero]; rfl)
           case y40pt => (refine Or.inl ⟨by rfl, ?_⟩; intro w' hSw; (try dsimp only at hSw); go_simp; (try with_reducible rfl))
           try simp only [Act.put, List.setIfInBounds_toArray, List.set_cons_zero, List.set_cons_succ]
           refine wpAnyH_take (i := 41) (oi := ?o41pt) (v := ?v41pt) ?hi41pt (by kernel_rfl) (by kernel_rfl) (by kernel_rfl) (fun _ _ _ h => h) ?y41pt (by assumption) ?r41pt
           case hi41pt => (simp only [List.getElem?_toArray, List.getElem?_cons_succ, List.getElem?_cons_zero]; rfl)
           case y41pt => (refine Or.inl ⟨by rfl, ?_⟩; intro w' hSw; (try dsimp only at hSw); go_simp; (try with_reducible rfl))
           try simp only [Act.put, List.setIfInBounds_toArray, List.set_cons_zero, List.set_cons_succ]
           refine wpAnyH_take (i := 42) (oi := ?o42pt) (v := ?v42pt) ?hi42pt (by kernel_rfl) (by kernel_rfl) (by kernel_rfl) (fun _ _ _ h => h) ?y42pt (by assumption) ?r42pt
           case hi42pt => (simp only [List.getElem?_toArray, List.getElem?_cons_succ, List.getElem?_cons_zero]; rfl)
           case y42pt => (refine Or.inl ⟨by rfl, ?_⟩; intro w' hSw; (try dsimp only at hSw); go_simp; (try with_reducible rfl))
           try simp only [Act.put, List.setIfInBounds_toArray, List.set_cons_zero, List.set_cons_succ]
           refine wpAnyH_take (i := 43) (oi := ?o43pt) (v := ?v43pt) ?hi43pt (by kernel_rfl) (by kernel_rfl) (by kernel_rfl) (fun _ _ _ h => h) ?y43pt (by assumption) ?r43pt
           case hi43pt => (simp only [List.getElem?_toArray, List.getElem?_cons_succ, List.getElem?_cons_zero]; rfl)
           case y43pt => (refine Or.inl ⟨by rfl, ?_⟩; intro w' hSw; (try dsimp only at hSw); go_simp; (try with_reducible rfl))
           try simp only [Act.put, List.setIfInBounds_toArray, List.set_cons_zero, List.set_cons_succ]
           try rw [eX]
           try rw [eX2]
           try rw [eX3]
           refine wpAnyH_take (i := 44) (oi := ?o44pt) (v := ?v44pt) ?hi44pt (by kernel_rfl) (by kernel_rfl) (by kernel_rfl) (fun _ _ _ h => h) ?y44pt (by assumption) ?r44pt
           case hi44pt => (simp only [List.getElem?_toArray, List.getElem?_cons_succ, List.getElem?_cons_zero]; rfl)
           case y44pt => (refine Or.inl ⟨by rfl, ?_⟩; intro w' hSw; (try dsimp only at hSw); go_simp; (try with_reducible rfl))
           try simp only [Act.put, List.setIfInBounds_toArray, List.set_cons_zero, List.set_cons_succ]
           refine wpAnyH_take (i := 45) (oi := ?o45pt) (v := ?v45pt) ?hi45pt (by kernel_rfl) (by kernel_rfl) (by kernel_rfl) (fun _ _ _ h => h) ?y45pt (by assumption) ?r45pt
           case hi45pt => (simp only [List.getElem?_toArray, List.getElem?_cons_succ, List.getElem?_cons_zero]; rfl)
           case y45pt => (refine Or.inl ⟨by rfl, ?_⟩; intro w' hSw; (try dsimp only at hSw); go_simp; (try with_reducible rfl))
           try simp only [Act.put, List.setIfInBounds_toArray, List.set_cons_zero, List.set_cons_succ]
           refine wpAnyH_take (i := 46) (oi := ?o46pt) (v := ?v46pt) ?hi46pt (by kernel_rfl) (by kernel_rfl) (by kernel_rfl) (fun _ _ _ h => h) ?y46pt (by assumption) ?r46pt
           case hi46pt => (simp only [List.getElem?_toArray, List.getElem?_cons_succ, List.getElem?_cons_zero]; rfl)
           case y46pt => (refine Or.inl ⟨by rfl, ?_⟩; intro w' hSw; (try dsimp only at hSw); go_simp; (try with_reducible rfl))
           try simp only [Act.put, List.setIfInBounds_toArray, List.set_cons_zero, List.set_cons_succ]
           refine wpAnyH_take (i := 47) (oi := ?o47pt) (v := ?v47pt) ?hi47pt (by kernel_rfl) (by kernel_rfl) (by kernel_rfl) (fun _ _ _ h => h) ?y47pt (by assumption) ?r47pt
           case hi47pt => (simp only [List.getElem?_toArray, List.getElem?_cons_succ, List.getElem?_cons_zero]; rfl)
           case y47pt => (refine Or.inl ⟨by rfl, ?_⟩; intro w' hSw; (try dsimp only at hSw); go_simp; (try with_reducible rfl))
           try simp only [Act.put, List.setIfInBounds_toArray, List.set_cons_zero, List.set_cons_succ]
           refine wpAnyH_take (i := 48) (oi := ?o48pt) (v := ?v48pt) ?hi48pt (by kernel_rfl) (by kernel_rfl) (by kernel_rfl) (fun _ _ _ h => h) ?y48pt (by assumption) ?r48pt
           case hi48pt => (simp only [List.getElem?_toArray, List.getElem?_cons_succ, List.getElem?_cons_zero]; rfl)
           case y48pt => (refine Or.inl ⟨by rfl, ?_⟩; intro w' hSw; (try dsimp only at hSw); go_simp; (try with_reducible rfl))
           try simp only [Act.put, List.setIfInBounds_toArray, List.set_cons_zero, List.set_cons_succ]
           refine wpAnyH_take (i := 49) (oi := ?o49pt) (v := ?v49pt) ?hi49pt (by kernel_rfl) (by kernel_rfl) (by kernel_rfl) (fun _ _ _ h => h) ?y49pt (by assumption) ?r49pt
           case hi49pt => (simp only [List.getElem?_toArray, List.getElem?_cons_succ, List.getElem?_cons_zero]; rfl)
           case y49pt => (refine Or.inl ⟨by rfl, ?_⟩; intro w' hSw; (try dsimp only at hSw); go_simp; (try with_reducible rfl))
           try simp only [Act.put, List.setIfInBounds_toArray, List.set_cons_zero, List.set_cons_succ]
           refine wpAnyH_take (i := 50) (oi := ?o50pt) (v := ?v50pt) ?hi50pt (by kernel_rfl) (by kernel_rfl) (by kernel_rfl) (fun _ _ _ h => h) ?y50pt (by assumption) ?r50pt
           case hi50pt => (simp only [List.getElem?_toArray, List.getElem?_cons_succ, List.getElem?_cons_zero]; rfl)
           case y50pt => (refine Or.inl ⟨by rfl, ?_⟩; intro w' hSw; (try dsimp only at hSw); go_simp; (try with_reducible rfl))
           try simp only [Act.put, List.setIfInBounds_toArray, List.set_cons_zero, List.set_cons_succ]
           refine wpAnyH_take (i := 51) (oi := ?o51pt) (v := ?v51pt) ?hi51pt (by kernel_rfl) (by kernel_rfl) (by kernel_rfl) (fun _ _ _ h => h) ?y51pt (by assumption) ?r51pt
           case hi51pt => (simp only [List.getElem?_toArray, List.getElem?_cons_succ, List.getElem?_cons_zero]; rfl)
           case y51pt => (refine Or.inl ⟨by rfl, ?_⟩; intro w' hSw; (try dsimp only at hSw); go_simp; (try with_reducible rfl))
           try simp only [Act.put, List.setIfInBounds_toArray, List.set_cons_zero, List.set_cons_succ]
           try rw [eD2]
           try rw [eD]
           refine wpAnyH_take (i := 52) (oi := ?o52pt) (v := ?v52pt) ?hi52pt (by kernel_rfl) (by kernel_rfl) (by kernel_rfl) (fun _ _ _ h => h) ?y52pt (by assumption) ?r52pt
           case hi52pt => (simp only [List.getElem?_toArray, List.getElem?_cons_succ, List.getElem?_cons_zero]; rfl)
           case y52pt => (refine Or.inl ⟨by rfl, ?_⟩; intro w' hSw; (try dsimp only at hSw); go_simp; (try with_reducible rfl))
           try simp only [Act.put, List.setIfInBounds_toArray, List.set_cons_zero, List.set_cons_succ]
           refine wpAnyH_take (i := 53) (oi := ?o53pt) (v := ?v53pt) ?hi53pt (by kernel_rfl) (by kernel_rfl) (by kernel_rfl) (fun _ _ _ h => h) ?y53pt (by assumption) ?r53pt
           case hi53pt => (simp only [List.getElem?_toArray, List.getElem?_cons_succ, List.getElem?_cons_zero]; rfl)
           case y53pt => (refine Or.inl ⟨by rfl, ?_⟩; intro w' hSw; (try dsimp only at hSw); go_simp; (try with_reducible rfl))
           try simp only [Act.put, List.setIfInBounds_toArray, List.set_cons_zero, List.set_cons_succ]
           refine wpAnyH_take (i := 54) (oi := ?o54pt) (v := ?v54pt) ?hi54pt (by kernel_rfl) (by kernel_rfl) (by kernel_rfl) (fun _ _ _ h => h) ?y54pt (by assumption) ?r54pt
           case hi54pt => (simp only [List.getElem?_toArray, List.getElem?_cons_succ, List.getElem?_cons_zero]; rfl)
           case y54pt => (refine Or.inl ⟨by rfl, ?_⟩; intro w' hSw; (try dsimp only at hSw); go_simp; (try with_reducible rfl))
           try simp only [Act.put, List.setIfInBounds_toArray, List.set_cons_zero, List.set_cons_succ]
           refine wpAnyH_take (i := 55) (oi := ?o55pt) (v := ?v55pt) ?hi55pt (by kernel_rfl) (by kernel_rfl) (by kernel_rfl) (fun _ _ _ h => h) ?y55pt (by assumption) ?r55pt
           case hi55pt => (simp only [List.getElem?_toArray, List.getElem?_cons_succ, List.getElem?_cons_zero]; rfl)
           case y55pt => (refine Or.inl ⟨by rfl, ?_⟩; intro w' hSw; (try dsimp only at hSw); go_simp; (try with_reducible rfl))
           try simp only [Act.put, List.setIfInBounds_toArray, List.set_cons_zero, List.set_cons_succ]
           refine wpAnyH_take (i := 56) (oi := ?o56pt) (v := ?v56pt) ?hi56pt (by kernel_rfl) (by kernel_rfl) (by kernel_rfl) (fun _ _ _ h => h) ?y56pt (by assumption) ?r56pt
           case hi56pt => (simp only [List.getElem?_toArray, List.getElem?_cons_succ, List.getElem?_cons_zero]; rfl)
           case y56pt => (refine Or.inl ⟨by rfl, ?_⟩; intro w' hSw; (try dsimp only at hSw); go_simp; (try with_reducible rfl))
           try simp only [Act.put, List.setIfInBounds_toArray, List.set_cons_zero, List.set_cons_succ]
           refine wpAnyH_take (i := 57) (oi := ?o57pt) (v := ?v57pt) ?hi57pt (by kernel_rfl) (by kernel_rfl) (by kernel_rfl) (fun _ _ _ h => h) ?y57pt (by assumption) ?r57pt
           case hi57pt => (simp only [List.getElem?_toArray, List.getElem?_cons_succ, List.getElem?_cons_zero]; rfl)
           case y57pt => (refine Or.inl ⟨by rfl, ?_⟩; intro w' hSw; (try dsimp only at hSw); go_simp; (try with_reducible rfl))
           try simp only [Act.put, List.setIfInBounds_toArray, List.set_cons_zero, List.set_cons_succ]
           refine wpAnyH_take (i := 58) (oi := ?o58pt) (v := ?v58pt) ?hi58pt (by kernel_rfl) (by kernel_rfl) (by kernel_rfl) (fun _ _ _ h => h) ?y58pt (by assumption) ?r58pt
           case hi58pt => (simp only [List.getElem?_toArray, List.getElem?_cons_succ, List.getElem?_cons_zero]; rfl)
           case y58pt => (refine Or.inl ⟨by rfl, ?_⟩; intro w' hSw; (try dsimp only at hSw); go_simp; (try with_reducible rfl))
           try simp only [Act.put, List.setIfInBounds_toArray, List.set_cons_zero, List.set_cons_succ]
           refine wpAnyH_take (i := 59) (oi := ?o59pt) (v := ?v59pt) ?hi59pt (by kernel_rfl) (by kernel_rfl) (by kernel_rfl) (fun _ _ _ h => h) ?y59pt (by assumption) ?r59pt
           case hi59pt => (simp only [List.getElem?_toArray, List.getElem?_cons_succ, List.getElem?_cons_zero]; rfl)
           case y59pt => (refine Or.inl ⟨by rfl, ?_⟩; intro w' hSw; (try dsimp only at hSw); go_simp; (try with_reducible rfl))
           try simp only [Act.put, List.setIfInBounds_toArray, List.set_cons_zero, List.set_cons_succ]
           refine wpAnyH_take (i := 60) (oi := ?o60pt) (v := ?v60pt) ?hi60pt (by kernel_rfl) (by kernel_rfl) (by kernel_rfl) (fun _ _ _ h => h) ?y60pt (by assumption) ?r60pt
           case hi60pt => (simp only [List.getElem?_toArray, List.getElem?_cons_succ, List.getElem?_cons_zero]; rfl)
           case y60pt => (refine Or.inl ⟨by rfl, ?_⟩; intro w' hSw; (try dsimp only at hSw); go_simp; (try with_reducible rfl))
           try simp only [Act.put, List.setIfInBounds_toArray, List.set_cons_zero, List.set_cons_succ]
           refine wpAnyH_take (i := 61) (oi := ?o61pt) (v := ?v61pt) ?hi61pt (by kernel_rfl) (by kernel_rfl) (by kernel_rfl) (fun _ _ _ h => h) ?y61pt (by assumption) ?r61pt
           case hi61pt => (simp only [List.getElem?_toArray, List.getElem?_cons_succ, List.getElem?_cons_zero]; rfl)
           case y61pt => (refine Or.inl ⟨by rfl, ?_⟩; intro w' hSw; (try dsimp only at hSw); go_simp; (try with_reducible rfl))
           try simp only [Act.put, List.setIfInBounds_toArray, List.set_cons_zero, List.set_cons_succ]
           refine wpAnyH_take (i := 62) (oi := ?o62pt) (v := ?v62pt) ?hi62pt (by kernel_rfl) (by kernel_rfl) (by kernel_rfl) (fun _ _ _ h => h) ?y62pt (by assumption) ?r62pt
           case hi62pt => (simp only [List.getElem?_toArray, List.getElem?_cons_succ, List.getElem?_cons_zero]; rfl)
           case y62pt => (refine Or.inl ⟨by rfl, ?_⟩; intro w' hSw; (try dsimp only at hSw); go_simp; (try with_reducible rfl))
           try simp only [Act.put, List.setIfInBounds_toArray, List.set_cons_zero, List.set_cons_succ]
           try rw [eV2]
           try rw [eV]
           refine wpAnyH_take (i := 63) (oi := ?o63pt) (v := ?v63pt) ?hi63pt (by kernel_rfl) (by kernel_rfl) (by kernel_rfl) (fun _ _ _ h => h) ?y63pt (by assumption) ?r63pt
           case hi63pt => (simp only [List.getElem?_toArray, List.getElem?_cons_succ, List.getElem?_cons_zero]; rfl)
           case y63pt => (refine Or.inl ⟨by rfl, ?_⟩; intro w' hSw; (try dsimp only at hSw); go_simp; (try with_reducible rfl))
           try simp only [Act.put, List.setIfInBounds_toArray, List.set_cons_zero, List.set_cons_succ]
           refine wpAnyH_take (i := 64) (oi := ?o64pt) (v := ?v64pt) ?hi64pt (by kernel_rfl) (by kernel_rfl) (by kernel_rfl) (fun _ _ _ h => h) ?y64pt (by assumption) ?r64pt
           case hi64pt => (simp only [List.getElem?_toArray, List.getElem?_cons_succ, List.getElem?_cons_zero]; rfl)
           case y64pt => (refine Or.inl ⟨by rfl, ?_⟩; intro w' hSw; (try dsimp only at hSw); go_simp; (try with_reducible rfl))
           try simp only [Act.put, List.setIfInBounds_toArray, List.set_cons_zero, List.set_cons_succ]
           refine wpAnyH_done (by kernel_rfl) ?_ _
           refine NoPanic.normal ?_
           clear hHeld
           go_wp2_with fail
           go_roundw
           case rel => exact ⟨0 + 1, by omega, by go_num, bel⟩
           case measure => simp [RowKit.intOf]; omega
        ·
         obtain ⟨i, hi⟩ : ∃ i, j = i + 1 := ⟨j - 1, by omega⟩
         obtain ⟨z, hz, cz⟩ := HP.out i hi.symm
         replace cz := Bx.keep_cell hX9 cz
         subst hi
         have hz0 : decide (0 < i + 1) = true := decide_eq_true (by omega)
         have hge : decide (yq ≤ z) = false := decide_eq_false (by omega)
         have hj1 : IntKind.i64.wrap (((i + 1 : Nat) : Int) - 1) = (i : Int) := by rw [IntKind.wrap_i64]; omega
         have hj4 : wrap64 (((i + 1 : Nat) : Int) - 1) = (i : Int) := by unfold wrap64; omega
         have hj5 : IntKind.i64.wrap (i : Int) = (i : Int) := by rw [IntKind.wrap_i64]; omega
         have hj2 : (i : Int) < (outs.length : Int) := by omega
         cases yg with
         | false =>
          as_aux_lemma =>
           go_wp2_with fail
           simp only [List.append_eq, List.cons_append, List.nil_append]
           refine wp_region_noPanic ?_
           refine wp_region_held_drew (S := fun w' => Bx.Blk w' m7 (Mem.pc o k AP n c) ∧ w'.cell? ⟨w.heap.size + 1, 0, none⟩ = some (.int .i64 q) ∧ w'.cell? ⟨w.heap.size + 1, 2, none⟩ = some (.int .i64 op) ∧ w'.cell? ⟨wr.heap.size, 0, none⟩ = some (.int .i64 yq) ∧ w'.cell? ⟨wr.heap.size, 1, none⟩ = some (.int .u64 d) ∧ w'.cell? ⟨wr.heap.size, 3, none⟩ = some (.bool false) ∧ w'.cell? ⟨wr.heap.size, 5, none⟩ = some (.int .i64 yv) ∧ w'.cell? ⟨wr.heap.size, 7, none⟩ = some (.string X) ∧ w'.cell? ⟨m8, 0, none⟩ = some (.int .u64 d) ∧ w'.cell? ⟨m8, 6, none⟩ = some (.string X) ∧ w'.cell? ⟨b1, o1 + i * 8, none⟩ = some (.int .i64 z)) (by kernel_rfl) (by exact ⟨B1'.out, c0_0, c0_2, x0, x1, x3, x5, x7, c2_0, c2_6, cz⟩) (fun hHeld => ?_)
           replace bel := Bx.bel_drewn bel
           refine wpAnyH_take (i := 0) (oi := ?o0sf) (v := ?v0sf) ?hi0sf (by kernel_rfl) (by kernel_rfl) (by kernel_rfl) (fun _ _ _ h => h) ?y0sf (by assumption) ?r0sf
           case hi0sf => (simp only [List.getElem?_toArray, List.getElem?_cons_zero]; rfl)
           case y0sf => (refine Or.inl ⟨by rfl, ?_⟩; intro w' hSw; (try dsimp only at hSw); go_simp; (try with_reducible rfl))
           try simp only [Act.put, List.setIfInBounds_toArray, List.set_cons_zero, List.set_cons_succ]
           refine wpAnyH_take (i := 1) (oi := ?o1sf) (v := ?v1sf) ?hi1sf (by kernel_rfl) (by kernel_rfl) (by kernel_rfl) (fun _ _ _ h => h) ?y1sf (by assumption) ?r1sf
           case hi1sf => (simp only [List.getElem?_toArray, List.getElem?_cons_succ, List.getElem?_cons_zero]; rfl)
           case y1sf => (refine Or.inl ⟨by rfl, ?_⟩; intro w' hSw; (try dsimp only at hSw); go_simp; (try with_reducible rfl))
           try simp only [Act.put, List.setIfInBounds_toArray, List.set_cons_zero, List.set_cons_succ]
           refine wpAnyH_take (i := 2) (oi := ?o2sf) (v := ?v2sf) ?hi2sf (by kernel_rfl) (by kernel_rfl) (by kernel_rfl) (fun _ _ _ h => h) ?y2sf (by assumption) ?r2sf
           case hi2sf => (simp only [List.getElem?_toArray, List.getElem?_cons_succ, List.getElem?_cons_zero]; rfl)
           case y2sf => (refine Or.inl ⟨by rfl, ?_⟩; intro w' hSw; (try dsimp only at hSw); go_simp; (try with_reducible rfl))
           try simp only [Act.put, List.setIfInBounds_toArray, List.set_cons_zero, List.set_cons_succ]
           refine wpAnyH_take (i := 3) (oi := ?o3sf) (v := ?v3sf) ?hi3sf (by kernel_rfl) (by kernel_rfl) (by kernel_rfl) (fun _ _ _ h => h) ?y3sf (by assumption) ?r3sf
           case hi3sf => (simp only [List.getElem?_toArray, List.getElem?_cons_succ, List.getElem?_cons_zero]; rfl)
           case y3sf => (refine Or.inl ⟨by rfl, ?_⟩; intro w' hSw; (try dsimp only at hSw); go_simp; (try with_reducible rfl))
           try simp only [Act.put, List.setIfInBounds_toArray, List.set_cons_zero, List.set_cons_succ]
           refine wpAnyH_take (i := 4) (oi := ?o4sf) (v := ?v4sf) ?hi4sf (by kernel_rfl) (by kernel_rfl) (by kernel_rfl) (fun _ _ _ h => h) ?y4sf (by assumption) ?r4sf
           case hi4sf => (simp only [List.getElem?_toArray, List.getElem?_cons_succ, List.getElem?_cons_zero]; rfl)
           case y4sf => (refine Or.inl ⟨by rfl, ?_⟩; intro w' hSw; (try dsimp only at hSw); go_simp; (try with_reducible rfl))
           try simp only [Act.put, List.setIfInBounds_toArray, List.set_cons_zero, List.set_cons_succ]
           try rw [eq1]
           refine wpAnyH_take (i := 5) (oi := ?o5sf) (v := ?v5sf) ?hi5sf (by kernel_rfl) (by kernel_rfl) (by kernel_rfl) (fun _ _ _ h => h) ?y5sf (by assumption) ?r5sf
           case hi5sf => (simp only [List.getElem?_toArray, List.getElem?_cons_succ, List.getElem?_cons_zero]; rfl)
           case y5sf => (refine Or.inl ⟨by rfl, ?_⟩; intro w' hSw; (try dsimp only at hSw); go_simp; (try with_reducible rfl))
           try simp only [Act.put, List.setIfInBounds_toArray, List.set_cons_zero, List.set_cons_succ]
           refine wpAnyH_take (i := 6) (oi := ?o6sf) (v := ?v6sf) ?hi6sf (by kernel_rfl) (by kernel_rfl) (by kernel_rfl) (fun _ _ _ h => h) ?y6sf (by assumption) ?r6sf
           case hi6sf => (simp only [List.getElem?_toArray, List.getElem?_cons_succ, List.getElem?_cons_zero]; rfl)
           case y6sf => (refine Or.inl ⟨by rfl, ?_⟩; intro w' hSw; (try dsimp only at hSw); go_simp; (try with_reducible rfl))
           try simp only [Act.put, List.setIfInBounds_toArray, List.set_cons_zero, List.set_cons_succ]
           refine wpAnyH_take (i := 7) (oi := ?o7sf) (v := ?v7sf) ?hi7sf (by kernel_rfl) (by kernel_rfl) (by kernel_rfl) (fun _ _ _ h => h) ?y7sf (by assumption) ?r7sf
           case hi7sf => (simp only [List.getElem?_toArray, List.getElem?_cons_succ, List.getElem?_cons_zero]; rfl)
           case y7sf => (refine Or.inl ⟨by rfl, ?_⟩; intro w' hSw; (try dsimp only at hSw); go_simp; (try with_reducible rfl))
           try simp only [Act.put, List.setIfInBounds_toArray, List.set_cons_zero, List.set_cons_succ]
           refine wpAnyH_take (i := 8) (oi := ?o8sf) (v := ?v8sf) ?hi8sf (by kernel_rfl) (by kernel_rfl) (by kernel_rfl) (fun _ _ _ h => h) ?y8sf (by assumption) ?r8sf
           case hi8sf => (simp only [List.getElem?_toArray, List.getElem?_cons_succ, List.getElem?_cons_zero]; rfl)
           case y8sf => (refine Or.inl ⟨by rfl, ?_⟩; intro w' hSw; (try dsimp only at hSw); go_simp; (try with_reducible rfl))
           try simp only [Act.put, List.setIfInBounds_toArray, List.set_cons_zero, List.set_cons_succ]
           refine wpAnyH_take (i := 9) (oi := ?o9sf) (v := ?v9sf) ?hi9sf (by kernel_rfl) (by kernel_rfl) (by kernel_rfl) (fun _ _ _ h => h) ?y9sf (by assumption) ?r9sf
           case hi9sf => (simp only [List.getElem?_toArray, List.getElem?_cons_succ, List.getElem?_cons_zero]; rfl)
           case y9sf => (refine Or.inl ⟨by rfl, ?_⟩; intro w' hSw; (try dsimp only at hSw); go_simp; (try with_reducible rfl))
           try simp only [Act.put, List.setIfInBounds_toArray, List.set_cons_zero, List.set_cons_succ]
           refine wpAnyH_ready (rs := [10]) (by kernel_rfl) (by simp) ?_
           refine AllReadyH.cons (o := ?o10sf) ?hi10sf ?hst10sf AllReadyH.nil
           case hi10sf => (simp only [List.getElem?_toArray, List.getElem?_cons_succ, List.getElem?_cons_zero]; rfl)
           intro K hK
           go_simp
           (go_at_call 22; (with_reducible refine (HOP.out _ (Bx.then_below BW.out bel)).mono ?_); rintro e w6 ⟨rfl, hb6⟩)
           go_wp2_with fail
           refine hK.out _ _ (⟨Bx.Blk.keep hHeld.1 hb6, Bx.keep_cell hb6 hHeld.2.1, Bx.keep_cell hb6 hHeld.2.2.1, Bx.keep_cell hb6 hHeld.2.2.2.1, Bx.keep_cell hb6 hHeld.2.2.2.2.1, Bx.keep_cell hb6 hHeld.2.2.2.2.2.1, Bx.keep_cell hb6 hHeld.2.2.2.2.2.2.1, Bx.keep_cell hb6 hHeld.2.2.2.2.2.2.2.1, Bx.keep_cell hb6 hHeld.2.2.2.2.2.2.2.2.1, Bx.keep_cell hb6 hHeld.2.2.2.2.2.2.2.2.2.1, Bx.keep_cell hb6 hHeld.2.2.2.2.2.2.2.2.2.2⟩) (fun hNew => ?_)
           clear hHeld
           have hHeld := hNew
           clear hNew hK K
           replace bel := Bx.then_below bel hb6
           clear hb6
           refine wpAnyH_take (i := 11) (oi := ?o11sf) (v := ?v11sf) ?hi11sf (by kernel_rfl) (by kernel_rfl) (by kernel_rfl) (fun _ _ _ h => h) ?y11sf (by assumption) ?r11sf
           case hi11sf => (simp only [List.getElem?_toArray, List.getElem?_cons_succ, List.getElem?_cons_zero]; rfl)
           case y11sf => (refine Or.inl ⟨by rfl, ?_⟩; intro w' hSw; (try dsimp only at hSw); go_simp; (try with_reducible rfl))
           try simp only [Act.put, List.setIfInBounds_toArray, List.set_cons_zero, List.set_cons_succ]
           refine wpAnyH_take (i := 12) (oi := ?o12sf) (v := ?v12sf) ?hi12sf (by kernel_rfl) (by kernel_rfl) (by kernel_rfl) (fun _ _ _ h => h) ?y12sf (by assumption) ?r12sf
           case hi12sf => (simp only [List.getElem?_toArray, List.getElem?_cons_succ, List.getElem?_cons_zero]; rfl)
           case y12sf => (refine Or.inl ⟨by rfl, ?_⟩; intro w' hSw; (try dsimp only at hSw); go_simp; (try with_reducible rfl))
           try simp only [Act.put, List.setIfInBounds_toArray, List.set_cons_zero, List.set_cons_succ]
           refine wpAnyH_take (i := 13) (oi := ?o13sf) (v := ?v13sf) ?hi13sf (by kernel_rfl) (by kernel_rfl) (by kernel_rfl) (fun _ _ _ h => h) ?y13sf (by assumption) ?r13sf
           case hi13sf => (simp only [List.getElem?_toArray, List.getElem?_cons_succ, List.getElem?_cons_zero]; rfl)
           case y13sf => (refine Or.inl ⟨by rfl, ?_⟩; intro w' hSw; (try dsimp only at hSw); go_simp; (try with_reducible rfl))
           try simp only [Act.put, List.setIfInBounds_toArray, List.set_cons_zero, List.set_cons_succ]
           refine wpAnyH_take (i := 14) (oi := ?o14sf) (v := Mem.pv o k AP n c) ?hi14sf (by kernel_rfl) (by kernel_rfl) (by kernel_rfl) (fun _ _ _ h => h) ?y14sf (by assumption) ?r14sf
           case hi14sf => (simp only [List.getElem?_toArray, List.getElem?_cons_succ, List.getElem?_cons_zero]; rfl)
           case y14sf => (refine Mem.yields_pl rfl _ rfl (m7) rfl o k AP n c ?_; intro w' hS; exact hS.1)
           try simp only [Act.put, List.setIfInBounds_toArray, List.set_cons_zero, List.set_cons_succ]
           refine wpAnyH_take (i := 15) (oi := ?o15sf) (v := ?v15sf) ?hi15sf (by kernel_rfl) (by kernel_rfl) (by kernel_rfl) (fun _ _ _ h => h) ?y15sf (by assumption) ?r15sf
           case hi15sf => (simp only [List.getElem?_toArray, List.getElem?_cons_succ, List.getElem?_cons_zero]; rfl)
           case y15sf => (refine Or.inl ⟨by rfl, ?_⟩; intro w' hSw; (try dsimp only at hSw); go_simp; (try with_reducible rfl))
           try simp only [Act.put, List.setIfInBounds_toArray, List.set_cons_zero, List.set_cons_succ]
           refine wpAnyH_take (i := 17) (oi := ?o17sf) (v := ?v17sf) ?hi17sf (by kernel_rfl) (by kernel_rfl) (by kernel_rfl) (fun _ _ _ h => h) ?y17sf (by assumption) ?r17sf
           case hi17sf => (simp only [List.getElem?_toArray, List.getElem?_cons_succ, List.getElem?_cons_zero]; rfl)
           case y17sf => (refine Or.inl ⟨by rfl, ?_⟩; intro w' hSw; (try dsimp only at hSw); go_simp; (try with_reducible rfl))
           try simp only [Act.put, List.setIfInBounds_toArray, List.set_cons_zero, List.set_cons_succ]
           refine wpAnyH_take (i := 18) (oi := ?o18sf) (v := ?v18sf) ?hi18sf (by kernel_rfl) (by kernel_rfl) (by kernel_rfl) (fun _ _ _ h => h) ?y18sf (by assumption) ?r18sf
           case hi18sf => (simp only [List.getElem?_toArray, List.getElem?_cons_succ, List.getElem?_cons_zero]; rfl)
           case y18sf => (refine Or.inl ⟨by rfl, ?_⟩; intro w' hSw; (try dsimp only at hSw); go_simp; (try with_reducible rfl))
           try simp only [Act.put, List.setIfInBounds_toArray, List.set_cons_zero, List.set_cons_succ]
           refine wpAnyH_ready (rs := [16]) (by kernel_rfl) (by simp) ?_
           refine AllReadyH.cons (o := ?o16sf) ?hi16sf ?hst16sf AllReadyH.nil
           case hi16sf => (simp only [List.getElem?_toArray, List.getElem?_cons_succ, List.getElem?_cons_zero]; rfl)
           intro K hK
           go_simp
           (go_at_call 27; (with_reducible refine (HTa.out.of _ (Bx.then_below BW.out bel)).mono ?_); rintro e w7 ⟨rfl, hb7⟩)
           go_wp2_with fail
           refine hK.out _ _ (⟨Bx.Blk.keep hHeld.1 hb7, Bx.keep_cell hb7 hHeld.2.1, Bx.keep_cell hb7 hHeld.2.2.1, Bx.keep_cell hb7 hHeld.2.2.2.1, Bx.keep_cell hb7 hHeld.2.2.2.2.1, Bx.keep_cell hb7 hHeld.2.2.2.2.2.1, Bx.keep_cell hb7 hHeld.2.2.2.2.2.2.1, Bx.keep_cell hb7 hHeld.2.2.2.2.2.2.2.1, Bx.keep_cell hb7 hHeld.2.2.2.2.2.2.2.2.1, Bx.keep_cell hb7 hHeld.2.2.2.2.2.2.2.2.2.1, Bx.keep_cell hb7 hHeld.2.2.2.2.2.2.2.2.2.2⟩) (fun hNew => ?_)
           clear hHeld
           have hHeld := hNew
           clear hNew hK K
           replace bel := Bx.then_below bel hb7
           clear hb7
           refine wpAnyH_ready (rs := [19]) (by kernel_rfl) (by simp) ?_
           refine AllReadyH.cons (o := ?o19sf) ?hi19sf ?hst19sf AllReadyH.nil
           case hi19sf => (simp only [List.getElem?_toArray, List.getElem?_cons_succ, List.getElem?_cons_zero]; rfl)
           intro K hK
           go_simp
           (go_at_call 22; (with_reducible refine (HFQ.out _ (Bx.then_below BW.out bel)).mono ?_); rintro e w8 ⟨rfl, hb8⟩)
           go_wp2_with fail
           refine hK.out _ _ (⟨Bx.Blk.keep hHeld.1 hb8, Bx.keep_cell hb8 hHeld.2.1, Bx.keep_cell hb8 hHeld.2.2.1, Bx.keep_cell hb8 hHeld.2.2.2.1, Bx.keep_cell hb8 hHeld.2.2.2.2.1, Bx.keep_cell hb8 hHeld.2.2.2.2.2.1, Bx.keep_cell hb8 hHeld.2.2.2.2.2.2.1, Bx.keep_cell hb8 hHeld.2.2.2.2.2.2.2.1, Bx.keep_cell hb8 hHeld.2.2.2.2.2.2.2.2.1, Bx.keep_cell hb8 hHeld.2.2.2.2.2.2.2.2.2.1, Bx.keep_cell hb8 hHeld.2.2.2.2.2.2.2.2.2.2⟩) (fun hNew => ?_)
           clear hHeld
           have hHeld := hNew
           clear hNew hK K
           replace bel := Bx.then_below bel hb8
           clear hb8
           refine wpAnyH_take (i := 20) (oi := ?o20sf) (v := ?v20sf) ?hi20sf (by kernel_rfl) (by kernel_rfl) (by kernel_rfl) (fun _ _ _ h => h) ?y20sf (by assumption) ?r20sf
           case hi20sf => (simp only [List.getElem?_toArray, List.getElem?_cons_succ, List.getElem?_cons_zero]; rfl)
           case y20sf => (refine Or.inl ⟨by rfl, ?_⟩; intro w' hSw; (try dsimp only at hSw); go_simp; (try with_reducible rfl))
           try simp only [Act.put, List.setIfInBounds_toArray, List.set_cons_zero, List.set_cons_succ]
           refine wpAnyH_take (i := 21) (oi := ?o21sf) (v := ?v21sf) ?hi21sf (by kernel_rfl) (by kernel_rfl) (by kernel_rfl) (fun _ _ _ h => h) ?y21sf (by assumption) ?r21sf
           case hi21sf => (simp only [List.getElem?_toArray, List.getElem?_cons_succ, List.getElem?_cons_zero]; rfl)
           case y21sf => (refine Or.inl ⟨by rfl, ?_⟩; intro w' hSw; (try dsimp only at hSw); go_simp; (try with_reducible rfl))
           try simp only [Act.put, List.setIfInBounds_toArray, List.set_cons_zero, List.set_cons_succ]
           refine wpAnyH_take (i := 22) (oi := ?o22sf) (v := ?v22sf) ?hi22sf (by kernel_rfl) (by kernel_rfl) (by kernel_rfl) (fun _ _ _ h => h) ?y22sf (by assumption) ?r22sf
           case hi22sf => (simp only [List.getElem?_toArray, List.getElem?_cons_succ, List.getElem?_cons_zero]; rfl)
           case y22sf => (refine Or.inl ⟨by rfl, ?_⟩; intro w' hSw; (try dsimp only at hSw); go_simp; (try with_reducible rfl))
           try simp only [Act.put, List.setIfInBounds_toArray, List.set_cons_zero, List.set_cons_succ]
           refine wpAnyH_take (i := 23) (oi := ?o23sf) (v := ?v23sf) ?hi23sf (by kernel_rfl) (by kernel_rfl) (by kernel_rfl) (fun _ _ _ h => h) ?y23sf (by assumption) ?r23sf
           case hi23sf => (simp only [List.getElem?_toArray, List.getElem?_cons_succ, List.getElem?_cons_zero]; rfl)
           case y23sf => (refine Or.inl ⟨by rfl, ?_⟩; intro w' hSw; (try dsimp only at hSw); go_simp; (try with_reducible rfl))
           try simp only [Act.put, List.setIfInBounds_toArray, List.set_cons_zero, List.set_cons_succ]
           refine wpAnyH_take (i := 24) (oi := ?o24sf) (v := ?v24sf) ?hi24sf (by kernel_rfl) (by kernel_rfl) (by kernel_rfl) (fun _ _ _ h => h) ?y24sf (by assumption) ?r24sf
           case hi24sf => (simp only [List.getElem?_toArray, List.getElem?_cons_succ, List.getElem?_cons_zero]; rfl)
           case y24sf => (refine Or.inl ⟨by rfl, ?_⟩; intro w' hSw; (try dsimp only at hSw); go_simp; (try with_reducible rfl))
           try simp only [Act.put, List.setIfInBounds_toArray, List.set_cons_zero, List.set_cons_succ]
           try rw [hz0]
           refine wpAnyH_take (i := 25) (oi := ?o25sf) (v := ?v25sf) ?hi25sf (by kernel_rfl) (by kernel_rfl) (by kernel_rfl) (fun _ _ _ h => h) ?y25sf (by assumption) ?r25sf
           case hi25sf => (simp only [List.getElem?_toArray, List.getElem?_cons_succ, List.getElem?_cons_zero]; rfl)
           case y25sf => (refine Or.inl ⟨by rfl, ?_⟩; intro w' hSw; (try dsimp only at hSw); go_simp; (try with_reducible rfl))
           try simp only [Act.put, List.setIfInBounds_toArray, List.set_cons_zero, List.set_cons_succ]
           refine wpAnyH_take (i := 26) (oi := ?o26sf) (v := ?v26sf) ?hi26sf (by kernel_rfl) (by kernel_rfl) (by kernel_rfl) (fun _ _ _ h => h) ?y26sf (by assumption) ?r26sf
           case hi26sf => (simp only [List.getElem?_toArray, List.getElem?_cons_succ, List.getElem?_cons_zero]; rfl)
           case y26sf => (refine Or.inl ⟨by rfl, ?_⟩; intro w' hSw; (try dsimp only at hSw); go_simp; (try with_reducible rfl))
           try simp only [Act.put, List.setIfInBounds_toArray, List.set_cons_zero, List.set_cons_succ]
           refine wpAnyH_take (i := 27) (oi := ?o27sf) (v := ?v27sf) ?hi27sf (by kernel_rfl) (by kernel_rfl) (by kernel_rfl) (fun _ _ _ h => h) ?y27sf (by assumption) ?r27sf
           case hi27sf => (simp only [List.getElem?_toArray, List.getElem?_cons_succ, List.getElem?_cons_zero]; rfl)
           case y27sf => (refine Or.inl ⟨by rfl, ?_⟩; intro w' hSw; (try dsimp only at hSw); go_simp; (try with_reducible rfl))
           try simp only [Act.put, List.setIfInBounds_toArray, List.set_cons_zero, List.set_cons_succ]
           refine wpAnyH_take (i := 28) (oi := ?o28sf) (v := ?v28sf) ?hi28sf (by kernel_rfl) (by kernel_rfl) (by kernel_rfl) (fun _ _ _ h => h) ?y28sf (by assumption) ?r28sf
           case hi28sf => (simp only [List.getElem?_toArray, List.getElem?_cons_succ, List.getElem?_cons_zero]; rfl)
           case y28sf => (refine Or.inl ⟨by rfl, ?_⟩; intro w' hSw; (try dsimp only at hSw); go_simp; (try with_reducible rfl))
           try simp only [Act.put, List.setIfInBounds_toArray, List.set_cons_zero, List.set_cons_succ]
           refine wpAnyH_take (i := 29) (oi := ?o29sf) (v := ?v29sf) ?hi29sf (by kernel_rfl) (by kernel_rfl) (by kernel_rfl) (fun _ _ _ h => h) ?y29sf (by assumption) ?r29sf
           case hi29sf => (simp only [List.getElem?_toArray, List.getElem?_cons_succ, List.getElem?_cons_zero]; rfl)
           case y29sf => (refine Or.inl ⟨by rfl, ?_⟩; intro w' hSw; (try dsimp only at hSw); go_simp; (try with_reducible rfl))
           try simp only [Act.put, List.setIfInBounds_toArray, List.set_cons_zero, List.set_cons_succ]
           refine wpAnyH_take (i := 30) (oi := ?o30sf) (v := ?v30sf) ?hi30sf (by kernel_rfl) (by kernel_rfl) (by kernel_rfl) (fun _ _ _ h => h) ?y30sf (by assumption) ?r30sf
           case hi30sf => (simp only [List.getElem?_toArray, List.getElem?_cons_succ, List.getElem?_cons_zero]; rfl)
           case y30sf => (refine Or.inl ⟨by rfl, ?_⟩; intro w' hSw; (try dsimp only at hSw); go_simp; (try with_reducible rfl))
           try simp only [Act.put, List.setIfInBounds_toArray, List.set_cons_zero, List.set_cons_succ]
           refine wpAnyH_take (i := 31) (oi := ?o31sf) (v := ?v31sf) ?hi31sf (by kernel_rfl) (by kernel_rfl) (by kernel_rfl) (fun _ _ _ h => h) ?y31sf (by assumption) ?r31sf
           case hi31sf => (simp only [List.getElem?_toArray, List.getElem?_cons_succ, List.getElem?_cons_zero]; rfl)
           case y31sf => (refine Or.inl ⟨by rfl, ?_⟩; intro w' hSw; (try dsimp only at hSw); go_simp; (try with_reducible rfl))
           try simp only [Act.put, List.setIfInBounds_toArray, List.set_cons_zero, List.set_cons_succ]
           refine wpAnyH_take (i := 32) (oi := ?o32sf) (v := ?v32sf) ?hi32sf (by kernel_rfl) (by kernel_rfl) (by kernel_rfl) (fun _ _ _ h => h) ?y32sf (by assumption) ?r32sf
           case hi32sf => (simp only [List.getElem?_toArray, List.getElem?_cons_succ, List.getElem?_cons_zero]; rfl)
           case y32sf => (refine Or.inl ⟨by rfl, ?_⟩; intro w' hSw; (try dsimp only at hSw); go_simp; (try with_reducible rfl))
           try simp only [Act.put, List.setIfInBounds_toArray, List.set_cons_zero, List.set_cons_succ]
           refine wpAnyH_take (i := 33) (oi := ?o33sf) (v := ?v33sf) ?hi33sf (by kernel_rfl) (by kernel_rfl) (by kernel_rfl) (fun _ _ _ h => h) ?y33sf (by assumption) ?r33sf
           case hi33sf => (simp only [List.getElem?_toArray, List.getElem?_cons_succ, List.getElem?_cons_zero]; rfl)
           case y33sf => (refine Or.inl ⟨by rfl, ?_⟩; intro w' hSw; (try dsimp only at hSw); go_simp; (try with_reducible rfl))
           try simp only [Act.put, List.setIfInBounds_toArray, List.set_cons_zero, List.set_cons_succ]
           refine wpAnyH_take (i := 34) (oi := ?o34sf) (v := ?v34sf) ?hi34sf (by kernel_rfl) (by kernel_rfl) (by kernel_rfl) (fun _ _ _ h => h) ?y34sf (by assumption) ?r34sf
           case hi34sf => (simp only [List.getElem?_toArray, List.getElem?_cons_succ, List.getElem?_cons_zero]; rfl)
           case y34sf => (refine Or.inl ⟨by rfl, ?_⟩; intro w' hSw; (try dsimp only at hSw); go_simp; (try with_reducible rfl))
           try simp only [Act.put, List.setIfInBounds_toArray, List.set_cons_zero, List.set_cons_succ]
           try rw [hge]
           refine wpAnyH_take (i := 35) (oi := ?o35sf) (v := ?v35sf) ?hi35sf (by kernel_rfl) (by kernel_rfl) (by kernel_rfl) (fun _ _ _ h => h) ?y35sf (by assumption) ?r35sf
           case hi35sf => (simp only [List.getElem?_toArray, List.getElem?_cons_succ, List.getElem?_cons_zero]; rfl)
           case y35sf => (refine Or.inl ⟨by rfl, ?_⟩; intro w' hSw; (try dsimp only at hSw); go_simp; (try with_reducible rfl))
           try simp only [Act.put, List.setIfInBounds_toArray, List.set_cons_zero, List.set_cons_succ]
           refine wpAnyH_take (i := 36) (oi := ?o36sf) (v := ?v36sf) ?hi36sf (by kernel_rfl) (by kernel_rfl) (by kernel_rfl) (fun _ _ _ h => h) ?y36sf (by assumption) ?r36sf
           case hi36sf => (simp only [List.getElem?_toArray, List.getElem?_cons_succ, List.getElem?_cons_zero]; rfl)
           case y36sf => (refine Or.inl ⟨by rfl, ?_⟩; intro w' hSw; (try dsimp only at hSw); go_simp; (try with_reducible rfl))
           try simp only [Act.put, List.setIfInBounds_toArray, List.set_cons_zero, List.set_cons_succ]
           refine wpAnyH_take (i := 37) (oi := ?o37sf) (v := ?v37sf) ?hi37sf (by kernel_rfl) (by kernel_rfl) (by kernel_rfl) (fun _ _ _ h => h) ?y37sf (by assumption) ?r37sf
           case hi37sf => (simp only [List.getElem?_toArray, List.getElem?_cons_succ, List.getElem?_cons_zero]; rfl)
           case y37sf => (refine Or.inl ⟨by rfl, ?_⟩; intro w' hSw; (try dsimp only at hSw); go_simp; (try with_reducible rfl))
           try simp only [Act.put, List.setIfInBounds_toArray, List.set_cons_zero, List.set_cons_succ]
           refine wpAnyH_take (i := 38) (oi := ?o38sf) (v := ?v38sf) ?hi38sf (by kernel_rfl) (by kernel_rfl) (by kernel_rfl) (fun _ _ _ h => h) ?y38sf (by assumption) ?r38sf
           case hi38sf => (simp only [List.getElem?_toArray, List.getElem?_cons_succ, List.getElem?_cons_zero]; rfl)
           case y38sf => (refine Or.inl ⟨by rfl, ?_⟩; intro w' hSw; (try dsimp only at hSw); go_simp; (try with_reducible rfl))
           try simp only [Act.put, List.setIfInBounds_toArray, List.set_cons_zero, List.set_cons_succ]
           refine wpAnyH_take (i := 39) (oi := ?o39sf) (v := ?v39sf) ?hi39sf (by kernel_rfl) (by kernel_rfl) (by kernel_rfl) (fun _ _ _ h => h) ?y39sf (by assumption) ?r39sf
           case hi39sf => (simp only [List.getElem?_toArray, List.getElem?_cons_succ, List.getElem?_cons_zero]; rfl)
           case y39sf => (refine Or.inl ⟨by rfl, ?_⟩; intro w' hSw; (try dsimp only at hSw); go_simp; (try with_reducible rfl))
           try simp only [Act.put, List.setIfInBounds_toArray, List.set_cons_zero, List.set_cons_succ]
           refine wpAnyH_take (i := 40) (oi := ?o40sf) (v := ?v40sf) ?hi40sf (by kernel_rfl) (by kernel_rfl) (by kernel_rfl) (fun _ _ _ h => h) ?y40sf (by assumption) ?r40sf
           case hi40sf => (simp only [List.getElem?_toArray, List.getElem?_cons_succ, List.getElem?_cons_zero]; rfl)
           case y40sf => (refine Or.inl ⟨by rfl, ?_⟩; intro w' hSw; (try dsimp only at hSw); go_simp; (try with_reducible rfl))
           try simp only [Act.put, List.setIfInBounds_toArray, List.set_cons_zero, List.set_cons_succ]
           refine wpAnyH_take (i := 41) (oi := ?o41sf) (v := ?v41sf) ?hi41sf (by kernel_rfl) (by kernel_rfl) (by kernel_rfl) (fun _ _ _ h => h) ?y41sf (by assumption) ?r41sf
           case hi41sf => (simp only [List.getElem?_toArray, List.getElem?_cons_succ, List.getElem?_cons_zero]; rfl)
           case y41sf => (refine Or.inl ⟨by rfl, ?_⟩; intro w' hSw; (try dsimp only at hSw); go_simp; (try with_reducible rfl))
           try simp only [Act.put, List.setIfInBounds_toArray, List.set_cons_zero, List.set_cons_succ]
           refine wpAnyH_take (i := 42) (oi := ?o42sf) (v := ?v42sf) ?hi42sf (by kernel_rfl) (by kernel_rfl) (by kernel_rfl) (fun _ _ _ h => h) ?y42sf (by assumption) ?r42sf
           case hi42sf => (simp only [List.getElem?_toArray, List.getElem?_cons_succ, List.getElem?_cons_zero]; rfl)
           case y42sf => (refine Or.inl ⟨by rfl, ?_⟩; intro w' hSw; (try dsimp only at hSw); go_simp; (try with_reducible rfl))
           try simp only [Act.put, List.setIfInBounds_toArray, List.set_cons_zero, List.set_cons_succ]
           refine wpAnyH_take (i := 43) (oi := ?o43sf) (v := ?v43sf) ?hi43sf (by kernel_rfl) (by kernel_rfl) (by kernel_rfl) (fun _ _ _ h => h) ?y43sf (by assumption) ?r43sf
           case hi43sf => (simp only [List.getElem?_toArray, List.getElem?_cons_succ, List.getElem?_cons_zero]; rfl)
           case y43sf => (refine Or.inl ⟨by rfl, ?_⟩; intro w' hSw; (try dsimp only at hSw); go_simp; (try with_reducible rfl))
           try simp only [Act.put, List.setIfInBounds_toArray, List.set_cons_zero, List.set_cons_succ]
           try rw [eX]
           try rw [eX2]
           try rw [eX3]
           refine wpAnyH_take (i := 44) (oi := ?o44sf) (v := ?v44sf) ?hi44sf (by kernel_rfl) (by kernel_rfl) (by kernel_rfl) (fun _ _ _ h => h) ?y44sf (by assumption) ?r44sf
           case hi44sf => (simp only [List.getElem?_toArray, List.getElem?_cons_succ, List.getElem?_cons_zero]; rfl)
           case y44sf => (refine Or.inl ⟨by rfl, ?_⟩; intro w' hSw; (try dsimp only at hSw); go_simp; (try with_reducible rfl))
           try simp only [Act.put, List.setIfInBounds_toArray, List.set_cons_zero, List.set_cons_succ]
           refine wpAnyH_take (i := 45) (oi := ?o45sf) (v := ?v45sf) ?hi45sf (by kernel_rfl) (by kernel_rfl) (by kernel_rfl) (fun _ _ _ h => h) ?y45sf (by assumption) ?r45sf
           case hi45sf => (simp only [List.getElem?_toArray, List.getElem?_cons_succ, List.getElem?_cons_zero]; rfl)
           case y45sf => (refine Or.inl ⟨by rfl, ?_⟩; intro w' hSw; (try dsimp only at hSw); go_simp; (try with_reducible rfl))
           try simp only [Act.put, List.setIfInBounds_toArray, List.set_cons_zero, List.set_cons_succ]
           refine wpAnyH_take (i := 46) (oi := ?o46sf) (v := ?v46sf) ?hi46sf (by kernel_rfl) (by kernel_rfl) (by kernel_rfl) (fun _ _ _ h => h) ?y46sf (by assumption) ?r46sf
           case hi46sf => (simp only [List.getElem?_toArray, List.getElem?_cons_succ, List.getElem?_cons_zero]; rfl)
           case y46sf => (refine Or.inl ⟨by rfl, ?_⟩; intro w' hSw; (try dsimp only at hSw); go_simp; (try with_reducible rfl))
           try simp only [Act.put, List.setIfInBounds_toArray, List.set_cons_zero, List.set_cons_succ]
           refine wpAnyH_take (i := 47) (oi := ?o47sf) (v := ?v47sf) ?hi47sf (by kernel_rfl) (by kernel_rfl) (by kernel_rfl) (fun _ _ _ h => h) ?y47sf (by assumption) ?r47sf
           case hi47sf => (simp only [List.getElem?_toArray, List.getElem?_cons_succ, List.getElem?_cons_zero]; rfl)
           case y47sf => (refine Or.inl ⟨by rfl, ?_⟩; intro w' hSw; (try dsimp only at hSw); go_simp; (try with_reducible rfl))
           try simp only [Act.put, List.setIfInBounds_toArray, List.set_cons_zero, List.set_cons_succ]
           refine wpAnyH_take (i := 48) (oi := ?o48sf) (v := ?v48sf) ?hi48sf (by kernel_rfl) (by kernel_rfl) (by kernel_rfl) (fun _ _ _ h => h) ?y48sf (by assumption) ?r48sf
           case hi48sf => (simp only [List.getElem?_toArray, List.getElem?_cons_succ, List.getElem?_cons_zero]; rfl)
           case y48sf => (refine Or.inl ⟨by rfl, ?_⟩; intro w' hSw; (try dsimp only at hSw); go_simp; (try with_reducible rfl))
           try simp only [Act.put, List.setIfInBounds_toArray, List.set_cons_zero, List.set_cons_succ]
           refine wpAnyH_take (i := 49) (oi := ?o49sf) (v := ?v49sf) ?hi49sf (by kernel_rfl) (by kernel_rfl) (by kernel_rfl) (fun _ _ _ h => h) ?y49sf (by assumption) ?r49sf
           case hi49sf => (simp only [List.getElem?_toArray, List.getElem?_cons_succ, List.getElem?_cons_zero]; rfl)
           case y49sf => (refine Or.inl ⟨by rfl, ?_⟩; intro w' hSw; (try dsimp only at hSw); go_simp; (try with_reducible rfl))
           try simp only [Act.put, List.setIfInBounds_toArray, List.set_cons_zero, List.set_cons_succ]
           refine wpAnyH_take (i := 50) (oi := ?o50sf) (v := ?v50sf) ?hi50sf (by kernel_rfl) (by kernel_rfl) (by kernel_rfl) (fun _ _ _ h => h) ?y50sf (by assumption) ?r50sf
           case hi50sf => (simp only [List.getElem?_toArray, List.getElem?_cons_succ, List.getElem?_cons_zero]; rfl)
           case y50sf => (refine Or.inl ⟨by rfl, ?_⟩; intro w' hSw; (try dsimp only at hSw); go_simp; (try with_reducible rfl))
           try simp only [Act.put, List.setIfInBounds_toArray, List.set_cons_zero, List.set_cons_succ]
           refine wpAnyH_take (i := 51) (oi := ?o51sf) (v := ?v51sf) ?hi51sf (by kernel_rfl) (by kernel_rfl) (by kernel_rfl) (fun _ _ _ h => h) ?y51sf (by assumption) ?r51sf
           case hi51sf => (simp only [List.getElem?_toArray, List.getElem?_cons_succ, List.getElem?_cons_zero]; rfl)
           case y51sf => (refine Or.inl ⟨by rfl, ?_⟩; intro w' hSw; (try dsimp only at hSw); go_simp; (try with_reducible rfl))
           try simp only [Act.put, List.setIfInBounds_toArray, List.set_cons_zero, List.set_cons_succ]
           try rw [eD2]
           try rw [eD]
           refine wpAnyH_take (i := 52) (oi := ?o52sf) (v := ?v52sf) ?hi52sf (by kernel_rfl) (by kernel_rfl) (by kernel_rfl) (fun _ _ _ h => h) ?y52sf (by assumption) ?r52sf
           case hi52sf => (simp only [List.getElem?_toArray, List.getElem?_cons_succ, List.getElem?_cons_zero]; rfl)
           case y52sf => (refine Or.inl ⟨by rfl, ?_⟩; intro w' hSw; (try dsimp only at hSw); go_simp; (try with_reducible rfl))
           try simp only [Act.put, List.setIfInBounds_toArray, List.set_cons_zero, List.set_cons_succ]
           refine wpAnyH_take (i := 53) (oi := ?o53sf) (v := ?v53sf) ?hi53sf (by kernel_rfl) (by kernel_rfl) (by kernel_rfl) (fun _ _ _ h => h) ?y53sf (by assumption) ?r53sf
           case hi53sf => (simp only [List.getElem?_toArray, List.getElem?_cons_succ, List.getElem?_cons_zero]; rfl)
           case y53sf => (refine Or.inl ⟨by rfl, ?_⟩; intro w' hSw; (try dsimp only at hSw); go_simp; (try with_reducible rfl))
           try simp only [Act.put, List.setIfInBounds_toArray, List.set_cons_zero, List.set_cons_succ]
           refine wpAnyH_take (i := 54) (oi := ?o54sf) (v := ?v54sf) ?hi54sf (by kernel_rfl) (by kernel_rfl) (by kernel_rfl) (fun _ _ _ h => h) ?y54sf (by assumption) ?r54sf
           case hi54sf => (simp only [List.getElem?_toArray, List.getElem?_cons_succ, List.getElem?_cons_zero]; rfl)
           case y54sf => (refine Or.inl ⟨by rfl, ?_⟩; intro w' hSw; (try dsimp only at hSw); go_simp; (try with_reducible rfl))
           try simp only [Act.put, List.setIfInBounds_toArray, List.set_cons_zero, List.set_cons_succ]
           refine wpAnyH_take (i := 55) (oi := ?o55sf) (v := ?v55sf) ?hi55sf (by kernel_rfl) (by kernel_rfl) (by kernel_rfl) (fun _ _ _ h => h) ?y55sf (by assumption) ?r55sf
           case hi55sf => (simp only [List.getElem?_toArray, List.getElem?_cons_succ, List.getElem?_cons_zero]; rfl)
           case y55sf => (refine Or.inl ⟨by rfl, ?_⟩; intro w' hSw; (try dsimp only at hSw); go_simp; (try with_reducible rfl))
           try simp only [Act.put, List.setIfInBounds_toArray, List.set_cons_zero, List.set_cons_succ]
           refine wpAnyH_take (i := 56) (oi := ?o56sf) (v := ?v56sf) ?hi56sf (by kernel_rfl) (by kernel_rfl) (by kernel_rfl) (fun _ _ _ h => h) ?y56sf (by assumption) ?r56sf
           case hi56sf => (simp only [List.getElem?_toArray, List.getElem?_cons_succ, List.getElem?_cons_zero]; rfl)
           case y56sf => (refine Or.inl ⟨by rfl, ?_⟩; intro w' hSw; (try dsimp only at hSw); go_simp; (try with_reducible rfl))
           try simp only [Act.put, List.setIfInBounds_toArray, List.set_cons_zero, List.set_cons_succ]
           refine wpAnyH_take (i := 57) (oi := ?o57sf) (v := ?v57sf) ?hi57sf (by kernel_rfl) (by kernel_rfl) (by kernel_rfl) (fun _ _ _ h => h) ?y57sf (by assumption) ?r57sf
           case hi57sf => (simp only [List.getElem?_toArray, List.getElem?_cons_succ, List.getElem?_cons_zero]; rfl)
           case y57sf => (refine Or.inl ⟨by rfl, ?_⟩; intro w' hSw; (try dsimp only at hSw); go_simp; (try with_reducible rfl))
           try simp only [Act.put, List.setIfInBounds_toArray, List.set_cons_zero, List.set_cons_succ]
           refine wpAnyH_take (i := 58) (oi := ?o58sf) (v := undef) ?hi58sf (by kernel_rfl) (by kernel_rfl) (by kernel_rfl) (fun _ _ _ h => h) ?y58sf (by assumption) ?r58sf
           case hi58sf => (simp only [List.getElem?_toArray, List.getElem?_cons_succ, List.getElem?_cons_zero]; rfl)
           case y58sf => exact Or.inr ⟨by rfl, rfl⟩
           try simp only [Act.put, List.setIfInBounds_toArray, List.set_cons_zero, List.set_cons_succ]
           refine wpAnyH_take (i := 59) (oi := ?o59sf) (v := undef) ?hi59sf (by kernel_rfl) (by kernel_rfl) (by kernel_rfl) (fun _ _ _ h => h) ?y59sf (by assumption) ?r59sf
           case hi59sf => (simp only [List.getElem?_toArray, List.getElem?_cons_succ, List.getElem?_cons_zero]; rfl)
           case y59sf => exact Or.inr ⟨by rfl, rfl⟩
           try simp only [Act.put, List.setIfInBounds_toArray, List.set_cons_zero, List.set_cons_succ]
           refine wpAnyH_take (i := 60) (oi := ?o60sf) (v := undef) ?hi60sf (by kernel_rfl) (by kernel_rfl) (by kernel_rfl) (fun _ _ _ h => h) ?y60sf (by assumption) ?r60sf
           case hi60sf => (simp only [List.getElem?_toArray, List.getElem?_cons_succ, List.getElem?_cons_zero]; rfl)
           case y60sf => exact Or.inr ⟨by rfl, rfl⟩
           try simp only [Act.put, List.setIfInBounds_toArray, List.set_cons_zero, List.set_cons_succ]
           refine wpAnyH_take (i := 61) (oi := ?o61sf) (v := undef) ?hi61sf (by kernel_rfl) (by kernel_rfl) (by kernel_rfl) (fun _ _ _ h => h) ?y61sf (by assumption) ?r61sf
           case hi61sf => (simp only [List.getElem?_toArray, List.getElem?_cons_succ, List.getElem?_cons_zero]; rfl)
           case y61sf => exact Or.inr ⟨by rfl, rfl⟩
           try simp only [Act.put, List.setIfInBounds_toArray, List.set_cons_zero, List.set_cons_succ]
           refine wpAnyH_take (i := 62) (oi := ?o62sf) (v := undef) ?hi62sf (by kernel_rfl) (by kernel_rfl) (by kernel_rfl) (fun _ _ _ h => h) ?y62sf (by assumption) ?r62sf
           case hi62sf => (simp only [List.getElem?_toArray, List.getElem?_cons_succ, List.getElem?_cons_zero]; rfl)
           case y62sf => exact Or.inr ⟨by rfl, rfl⟩
           try simp only [Act.put, List.setIfInBounds_toArray, List.set_cons_zero, List.set_cons_succ]
           try rw [eV2]
           try rw [eV]
           refine wpAnyH_take (i := 63) (oi := ?o63sf) (v := ?v63sf) ?hi63sf (by kernel_rfl) (by kernel_rfl) (by kernel_rfl) (fun _ _ _ h => h) ?y63sf (by assumption) ?r63sf
           case hi63sf => (simp only [List.getElem?_toArray, List.getElem?_cons_succ, List.getElem?_cons_zero]; rfl)
           case y63sf => (refine Or.inl ⟨by rfl, ?_⟩; intro w' hSw; (try dsimp only at hSw); go_simp; (try with_reducible rfl))
           try simp only [Act.put, List.setIfInBounds_toArray, List.set_cons_zero, List.set_cons_succ]
           refine wpAnyH_take (i := 64) (oi := ?o64sf) (v := ?v64sf) ?hi64sf (by kernel_rfl) (by kernel_rfl) (by kernel_rfl) (fun _ _ _ h => h) ?y64sf (by assumption) ?r64sf
           case hi64sf => (simp only [List.getElem?_toArray, List.getElem?_cons_succ, List.getElem?_cons_zero]; rfl)
           case y64sf => (refine Or.inl ⟨by rfl, ?_⟩; intro w' hSw; (try dsimp only at hSw); go_simp; (try with_reducible rfl))
           try simp only [Act.put, List.setIfInBounds_toArray, List.set_cons_zero, List.set_cons_succ]
           refine wpAnyH_done (by kernel_rfl) ?_ _
           refine NoPanic.normal ?_
           clear hHeld
           go_wp2_with fail
           go_roundw
           case rel => exact ⟨(i + 1) + 1, by omega, by go_num, bel⟩
           case measure => simp [RowKit.intOf]; omega
         | true =>
          have hyv' := (hyv rfl).symm
          subst hyv'
          clear hyv
          as_aux_lemma =>
           go_wp2_with fail
           simp only [List.append_eq, List.cons_append, List.nil_append]
           refine wp_region_noPanic ?_
           refine wp_region_held_drew (S := fun w' => Bx.Blk w' m7 (Mem.pc o k AP n c) ∧ w'.cell? ⟨w.heap.size + 1, 0, none⟩ = some (.int .i64 q) ∧ w'.cell? ⟨w.heap.size + 1, 2, none⟩ = some (.int .i64 op) ∧ w'.cell? ⟨wr.heap.size, 0, none⟩ = some (.int .i64 yq) ∧ w'.cell? ⟨wr.heap.size, 1, none⟩ = some (.int .u64 d) ∧ w'.cell? ⟨wr.heap.size, 3, none⟩ = some (.bool true) ∧ w'.cell? ⟨wr.heap.size, 5, none⟩ = some (.int .i64 V) ∧ w'.cell? ⟨wr.heap.size, 7, none⟩ = some (.string X) ∧ w'.cell? ⟨m8, 0, none⟩ = some (.int .u64 d) ∧ w'.cell? ⟨m8, 6, none⟩ = some (.string X) ∧ w'.cell? ⟨b1, o1 + i * 8, none⟩ = some (.int .i64 z)) (by kernel_rfl) (by exact ⟨B1'.out, c0_0, c0_2, x0, x1, x3, x5, x7, c2_0, c2_6, cz⟩) (fun hHeld => ?_)
           replace bel := Bx.bel_drewn bel
           refine wpAnyH_take (i := 0) (oi := ?o0st) (v := ?v0st) ?hi0st (by kernel_rfl) (by kernel_rfl) (by kernel_rfl) (fun _ _ _ h => h) ?y0st (by assumption) ?r0st
           case hi0st => (simp only [List.getElem?_toArray, List.getElem?_cons_zero]; rfl)
           case y0st => (refine Or.inl ⟨by rfl, ?_⟩; intro w' hSw; (try dsimp only at hSw); go_simp; (try with_reducible rfl))
           try simp only [Act.put, List.setIfInBounds_toArray, List.set_cons_zero, List.set_cons_succ]
           refine wpAnyH_take (i := 1) (oi := ?o1st) (v := ?v1st) ?hi1st (by kernel_rfl) (by kernel_rfl) (by kernel_rfl) (fun _ _ _ h => h) ?y1st (by assumption) ?r1st
           case hi1st => (simp only [List.getElem?_toArray, List.getElem?_cons_succ, List.getElem?_cons_zero]; rfl)
           case y1st => (refine Or.inl ⟨by rfl, ?_⟩; intro w' hSw; (try dsimp only at hSw); go_simp; (try with_reducible rfl))
           try simp only [Act.put, List.setIfInBounds_toArray, List.set_cons_zero, List.set_cons_succ]
           refine wpAnyH_take (i := 2) (oi := ?o2st) (v := ?v2st) ?hi2st (by kernel_rfl) (by kernel_rfl) (by kernel_rfl) (fun _ _ _ h => h) ?y2st (by assumption) ?r2st
           case hi2st => (simp only [List.getElem?_toArray, List.getElem?_cons_succ, List.getElem?_cons_zero]; rfl)
           case y2st => (refine Or.inl ⟨by rfl, ?_⟩; intro w' hSw; (try dsimp only at hSw); go_simp; (try with_reducible rfl))
           try simp only [Act.put, List.setIfInBounds_toArray, List.set_cons_zero, List.set_cons_succ]
           refine wpAnyH_take (i := 3) (oi := ?o3st) (v := ?v3st) ?hi3st (by kernel_rfl) (by kernel_rfl) (by kernel_rfl) (fun _ _ _ h => h) ?y3st (by assumption) ?r3st
           case hi3st => (simp only [List.getElem?_toArray, List.getElem?_cons_succ, List.getElem?_cons_zero]; rfl)
           case y3st => (refine Or.inl ⟨by rfl, ?_⟩; intro w' hSw; (try dsimp only at hSw); go_simp; (try with_reducible rfl))
           try simp only [Act.put, List.setIfInBounds_toArray, List.set_cons_zero, List.set_cons_succ]
           refine wpAnyH_take (i := 4) (oi := ?o4st) (v := ?v4st) ?hi4st (by kernel_rfl) (by kernel_rfl) (by kernel_rfl) (fun _ _ _ h => h) ?y4st (by assumption) ?r4st
           case hi4st => (simp only [List.getElem?_toArray, List.getElem?_cons_succ, List.getElem?_cons_zero]; rfl)
           case y4st => (refine Or.inl ⟨by rfl, ?_⟩; intro w' hSw; (try dsimp only at hSw); go_simp; (try with_reducible rfl))
           try simp only [Act.put, List.setIfInBounds_toArray, List.set_cons_zero, List.set_cons_succ]
           try rw [eq1]
           refine wpAnyH_take (i := 5) (oi := ?o5st) (v := ?v5st) ?hi5st (by kernel_rfl) (by kernel_rfl) (by kernel_rfl) (fun _ _ _ h => h) ?y5st (by assumption) ?r5st
           case hi5st => (simp only [List.getElem?_toArray, List.getElem?_cons_succ, List.getElem?_cons_zero]; rfl)
           case y5st => (refine Or.inl ⟨by rfl, ?_⟩; intro w' hSw; (try dsimp only at hSw); go_simp; (try with_reducible rfl))
           try simp only [Act.put, List.setIfInBounds_toArray, List.set_cons_zero, List.set_cons_succ]
           refine wpAnyH_take (i := 6) (oi := ?o6st) (v := ?v6st) ?hi6st (by kernel_rfl) (by kernel_rfl) (by kernel_rfl) (fun _ _ _ h => h) ?y6st (by assumption) ?r6st
           case hi6st => (simp only [List.getElem?_toArray, List.getElem?_cons_succ, List.getElem?_cons_zero]; rfl)
           case y6st => (refine Or.inl ⟨by rfl, ?_⟩; intro w' hSw; (try dsimp only at hSw); go_simp; (try with_reducible rfl))
           try simp only [Act.put, List.setIfInBounds_toArray, List.set_cons_zero, List.set_cons_succ]
           refine wpAnyH_take (i := 7) (oi := ?o7st) (v := ?v7st) ?hi7st (by kernel_rfl) (by kernel_rfl) (by kernel_rfl) (fun _ _ _ h => h) ?y7st (by assumption) ?r7st
           case hi7st => (simp only [List.getElem?_toArray, List.getElem?_cons_succ, List.getElem?_cons_zero]; rfl)
           case y7st => (refine Or.inl ⟨by rfl, ?_⟩; intro w' hSw; (try dsimp only at hSw); go_simp; (try with_reducible rfl))
           try simp only [Act.put, List.setIfInBounds_toArray, List.set_cons_zero, List.set_cons_succ]
           refine wpAnyH_take (i := 8) (oi := ?o8st) (v := ?v8st) ?hi8st (by kernel_rfl) (by kernel_rfl) (by kernel_rfl) (fun _ _ _ h => h) ?y8st (by assumption) ?r8st
           case hi8st => (simp only [List.getElem?_toArray, List.getElem?_cons_succ, List.getElem?_cons_zero]; rfl)
           case y8st => (refine Or.inl ⟨by rfl, ?_⟩; intro w' hSw; (try dsimp only at hSw); go_simp; (try with_reducible rfl))
           try simp only [Act.put, List.setIfInBounds_toArray, List.set_cons_zero, List.set_cons_succ]
           refine wpAnyH_take (i := 9) (oi := ?o9st) (v := ?v9st) ?hi9st (by kernel_rfl) (by kernel_rfl) (by kernel_rfl) (fun _ _ _ h => h) ?y9st (by assumption) ?r9st
           case hi9st => (simp only [List.getElem?_toArray, List.getElem?_cons_succ, List.getElem?_cons_zero]; rfl)
           case y9st => (refine Or.inl ⟨by rfl, ?_⟩; intro w' hSw; (try dsimp only at hSw); go_simp; (try with_reducible rfl))
           try simp only [Act.put, List.setIfInBounds_toArray, List.set_cons_zero, List.set_cons_succ]
           refine wpAnyH_ready (rs := [10]) (by kernel_rfl) (by simp) ?_
           refine AllReadyH.cons (o := ?o10st) ?hi10st ?hst10st AllReadyH.nil
           case hi10st => (simp only [List.getElem?_toArray, List.getElem?_cons_succ, List.getElem?_cons_zero]; rfl)
           intro K hK
           go_simp
           (go_at_call 22; (with_reducible refine (HOP.out _ (Bx.then_below BW.out bel)).mono ?_); rintro e w6 ⟨rfl, hb6⟩)
           go_wp2_with fail
           refine hK.out _ _ (⟨Bx.Blk.keep hHeld.1 hb6, Bx.keep_cell hb6 hHeld.2.1, Bx.keep_cell hb6 hHeld.2.2.1, Bx.keep_cell hb6 hHeld.2.2.2.1, Bx.keep_cell hb6 hHeld.2.2.2.2.1, Bx.keep_cell hb6 hHeld.2.2.2.2.2.1, Bx.keep_cell hb6 hHeld.2.2.2.2.2.2.1, Bx.keep_cell hb6 hHeld.2.2.2.2.2.2.2.1, Bx.keep_cell hb6 hHeld.2.2.2.2.2.2.2.2.1, Bx.keep_cell hb6 hHeld.2.2.2.2.2.2.2.2.2.1, Bx.keep_cell hb6 hHeld.2.2.2.2.2.2.2.2.2.2⟩) (fun hNew => ?_)
           clear hHeld
           have hHeld := hNew
           clear hNew hK K
           replace bel := Bx.then_below bel hb6
           clear hb6
           refine wpAnyH_take (i := 11) (oi := ?o11st) (v := ?v11st) ?hi11st (by kernel_rfl) (by kernel_rfl) (by kernel_rfl) (fun _ _ _ h => h) ?y11st (by assumption) ?r11st
           case hi11st => (simp only [List.getElem?_toArray, List.getElem?_cons_succ, List.getElem?_cons_zero]; rfl)
           case y11st => (refine Or.inl ⟨by rfl, ?_⟩; intro w' hSw; (try dsimp only at hSw); go_simp; (try with_reducible rfl))
           try simp only [Act.put, List.setIfInBounds_toArray, List.set_cons_zero, List.set_cons_succ]
           refine wpAnyH_take (i := 12) (oi := ?o12st) (v := ?v12st) ?hi12st (by kernel_rfl) (by kernel_rfl) (by kernel_rfl) (fun _ _ _ h => h) ?y12st (by assumption) ?r12st
           case hi12st => (simp only [List.getElem?_toArray, List.getElem?_cons_succ, List.getElem?_cons_zero]; rfl)
           case y12st => (refine Or.inl ⟨by rfl, ?_⟩; intro w' hSw; (try dsimp only at hSw); go_simp; (try with_reducible rfl))
           try simp only [Act.put, List.setIfInBounds_toArray, List.set_cons_zero, List.set_cons_succ]
           refine wpAnyH_take (i := 13) (oi := ?o13st) (v := ?v13st) ?hi13st (by kernel_rfl) (by kernel_rfl) (by kernel_rfl) (fun _ _ _ h => h) ?y13st (by assumption) ?r13st
           case hi13st => (simp only [List.getElem?_toArray, List.getElem?_cons_succ, List.getElem?_cons_zero]; rfl)
           case y13st => (refine Or.inl ⟨by rfl, ?_⟩; intro w' hSw; (try dsimp only at hSw); go_simp; (try with_reducible rfl))
           try simp only [Act.put, List.setIfInBounds_toArray, List.set_cons_zero, List.set_cons_succ]
           refine wpAnyH_take (i := 14) (oi := ?o14st) (v := Mem.pv o k AP n c) ?hi14st (by kernel_rfl) (by kernel_rfl) (by kernel_rfl) (fun _ _ _ h => h) ?y14st (by assumption) ?r14st
           case hi14st => (simp only [List.getElem?_toArray, List.getElem?_cons_succ, List.getElem?_cons_zero]; rfl)
           case y14st => (refine Mem.yields_pl rfl _ rfl (m7) rfl o k AP n c ?_; intro w' hS; exact hS.1)
           try simp only [Act.put, List.setIfInBounds_toArray, List.set_cons_zero, List.set_cons_succ]
           refine wpAnyH_take (i := 15) (oi := ?o15st) (v := ?v15st) ?hi15st (by kernel_rfl) (by kernel_rfl) (by kernel_rfl) (fun _ _ _ h => h) ?y15st (by assumption) ?r15st
           case hi15st => (simp only [List.getElem?_toArray, List.getElem?_cons_succ, List.getElem?_cons_zero]; rfl)
           case y15st => (refine Or.inl ⟨by rfl, ?_⟩; intro w' hSw; (try dsimp only at hSw); go_simp; (try with_reducible rfl))
           try simp only [Act.put, List.setIfInBounds_toArray, List.set_cons_zero, List.set_cons_succ]
           refine wpAnyH_take (i := 17) (oi := ?o17st) (v := ?v17st) ?hi17st (by kernel_rfl) (by kernel_rfl) (by kernel_rfl) (fun _ _ _ h => h) ?y17st (by assumption) ?r17st
           case hi17st => (simp only [List.getElem?_toArray, List.getElem?_cons_succ, List.getElem?_cons_zero]; rfl)
           case y17st => (refine Or.inl ⟨by rfl, ?_⟩; intro w' hSw; (try dsimp only at hSw); go_simp; (try with_reducible rfl))
           try simp only [Act.put, List.setIfInBounds_toArray, List.set_cons_zero, List.set_cons_succ]
           refine wpAnyH_take (i := 18) (oi := ?o18st) (v := ?v18st) ?hi18st (by kernel_rfl) (by kernel_rfl) (by kernel_rfl) (fun _ _ _ h => h) ?y18st (by assumption) ?r18st
           case hi18st => (simp only [List.getElem?_toArray, List.getElem?_cons_succ, List.getElem?_cons_zero]; rfl)
           case y18st => (refine Or.inl ⟨by rfl, ?_⟩; intro w' hSw; (try dsimp only at hSw); go_simp; (try with_reducible rfl))
           try simp only [Act.put, List.setIfInBounds_toArray, List.set_cons_zero, List.set_cons_succ]
           refine wpAnyH_ready (rs := [16]) (by kernel_rfl) (by simp) ?_
           refine AllReadyH.cons (o := ?o16st) ?hi16st ?hst16st AllReadyH.nil
           case hi16st => (simp only [List.getElem?_toArray, List.getElem?_cons_succ, List.getElem?_cons_zero]; rfl)
           intro K hK
           go_simp
           (go_at_call 27; (with_reducible refine (HTa.out.of _ (Bx.then_below BW.out bel)).mono ?_); rintro e w7 ⟨rfl, hb7⟩)
           go_wp2_with fail
           refine hK.out _ _ (⟨Bx.Blk.keep hHeld.1 hb7, Bx.keep_cell hb7 hHeld.2.1, Bx.keep_cell hb7 hHeld.2.2.1, Bx.keep_cell hb7 hHeld.2.2.2.1, Bx.keep_cell hb7 hHeld.2.2.2.2.1, Bx.keep_cell hb7 hHeld.2.2.2.2.2.1, Bx.keep_cell hb7 hHeld.2.2.2.2.2.2.1, Bx.keep_cell hb7 hHeld.2.2.2.2.2.2.2.1, Bx.keep_cell hb7 hHeld.2.2.2.2.2.2.2.2.1, Bx.keep_cell hb7 hHeld.2.2.2.2.2.2.2.2.2.1, Bx.keep_cell hb7 hHeld.2.2.2.2.2.2.2.2.2.2⟩) (fun hNew => ?_)
           clear hHeld
           have hHeld := hNew
           clear hNew hK K
           replace bel := Bx.then_below bel hb7
           clear hb7
           refine wpAnyH_ready (rs := [19]) (by kernel_rfl) (by simp) ?_
           refine AllReadyH.cons (o := ?o19st) ?hi19st ?hst19st AllReadyH.nil
           case hi19st => (simp only [List.getElem?_toArray, List.getElem?_cons_succ, List.getElem?_cons_zero]; rfl)
           intro K hK
           go_simp
           (go_at_call 22; (with_reducible refine (HFQ.out _ (Bx.then_below BW.out bel)).mono ?_); rintro e w8 ⟨rfl, hb8⟩)
           go_wp2_with fail
           refine hK.out _ _ (⟨Bx.Blk.keep hHeld.1 hb8, Bx.keep_cell hb8 hHeld.2.1, Bx.keep_cell hb8 hHeld.2.2.1, Bx.keep_cell hb8 hHeld.2.2.2.1, Bx.keep_cell hb8 hHeld.2.2.2.2.1, Bx.keep_cell hb8 hHeld.2.2.2.2.2.1, Bx.keep_cell hb8 hHeld.2.2.2.2.2.2.1, Bx.keep_cell hb8 hHeld.2.2.2.2.2.2.2.1, Bx.keep_cell hb8 hHeld.2.2.2.2.2.2.2.2.1, Bx.keep_cell hb8 hHeld.2.2.2.2.2.2.2.2.2.1, Bx.keep_cell hb8 hHeld.2.2.2.2.2.2.2.2.2.2⟩) (fun hNew => ?_)
           clear hHeld
           have hHeld := hNew
           clear hNew hK K
           replace bel := Bx.then_below bel hb8
           clear hb8
           refine wpAnyH_take (i := 20) (oi := ?o20st) (v := ?v20st) ?hi20st (by kernel_rfl) (by kernel_rfl) (by kernel_rfl) (fun _ _ _ h => h) ?y20st (by assumption) ?r20st
           case hi20st => (simp only [List.getElem?_toArray, List.getElem?_cons_succ, List.getElem?_cons_zero]; rfl)
           case y20st => (refine Or.inl ⟨by rfl, ?_⟩; intro w' hSw; (try dsimp only at hSw); go_simp; (try with_reducible rfl))
           try simp only [Act.put, List.setIfInBounds_toArray, List.set_cons_zero, List.set_cons_succ]
           refine wpAnyH_take (i := 21) (oi := ?o21st) (v := ?v21st) ?hi21st (by kernel_rfl) (by kernel_rfl) (by kernel_rfl) (fun _ _ _ h => h) ?y21st (by assumption) ?r21st
           case hi21st => (simp only [List.getElem?_toArray, List.getElem?_cons_succ, List.getElem?_cons_zero]; rfl)
           case y21st => (refine Or.inl ⟨by rfl, ?_⟩; intro w' hSw; (try dsimp only at hSw); go_simp; (try with_reducible rfl))
           try simp only [Act.put, List.setIfInBounds_toArray, List.set_cons_zero, List.set_cons_succ]
           refine wpAnyH_take (i := 22) (oi := ?o22st) (v := ?v22st) ?hi22st (by kernel_rfl) (by kernel_rfl) (by kernel_rfl) (fun _ _ _ h => h) ?y22st (by assumption) ?r22st
           case hi22st => (simp only [List.getElem?_toArray, List.getElem?_cons_succ, List.getElem?_cons_zero]; rfl)
           case y22st => (refine Or.inl ⟨by rfl, ?_⟩; intro w' hSw; (try dsimp only at hSw); go_simp; (try with_reducible rfl))
           try simp only [Act.put, List.setIfInBounds_toArray, List.set_cons_zero, List.set_cons_succ]
           refine wpAnyH_take (i := 23) (oi := ?o23st) (v := ?v23st) ?hi23st (by kernel_rfl) (by kernel_rfl) (by kernel_rfl) (fun _ _ _ h => h) ?y23st (by assumption) ?r23st
           case hi23st => (simp only [List.getElem?_toArray, List.getElem?_cons_succ, List.getElem?_cons_zero]; rfl)
           case y23st => (refine Or.inl ⟨by rfl, ?_⟩; intro w' hSw; (try dsimp only at hSw); go_simp; (try with_reducible rfl))
           try simp only [Act.put, List.setIfInBounds_toArray, List.set_cons_zero, List.set_cons_succ]
           refine wpAnyH_take (i := 24) (oi := ?o24st) (v := ?v24st) ?hi24st (by kernel_rfl) (by kernel_rfl) (by kernel_rfl) (fun _ _ _ h => h) ?y24st (by assumption) ?r24st
           case hi24st => (simp only [List.getElem?_toArray, List.getElem?_cons_succ, List.getElem?_cons_zero]; rfl)
           case y24st => (refine Or.inl ⟨by rfl, ?_⟩; intro w' hSw; (try dsimp only at hSw); go_simp; (try with_reducible rfl))
           try simp only [Act.put, List.setIfInBounds_toArray, List.set_cons_zero, List.set_cons_succ]
           try rw [hz0]
           refine wpAnyH_take (i := 25) (oi := ?o25st) (v := ?v25st) ?hi25st (by kernel_rfl) (by kernel_rfl) (by kernel_rfl) (fun _ _ _ h => h) ?y25st (by assumption) ?r25st
           case hi25st => (simp only [List.getElem?_toArray, List.getElem?_cons_succ, List.getElem?_cons_zero]; rfl)
           case y25st => (refine Or.inl ⟨by rfl, ?_⟩; intro w' hSw; (try dsimp only at hSw); go_simp; (try with_reducible rfl))
           try simp only [Act.put, List.setIfInBounds_toArray, List.set_cons_zero, List.set_cons_succ]
           refine wpAnyH_take (i := 26) (oi := ?o26st) (v := ?v26st) ?hi26st (by kernel_rfl) (by kernel_rfl) (by kernel_rfl) (fun _ _ _ h => h) ?y26st (by assumption) ?r26st
           case hi26st => (simp only [List.getElem?_toArray, List.getElem?_cons_succ, List.getElem?_cons_zero]; rfl)
           case y26st => (refine Or.inl ⟨by rfl, ?_⟩; intro w' hSw; (try dsimp only at hSw); go_simp; (try with_reducible rfl))
           try simp only [Act.put, List.setIfInBounds_toArray, List.set_cons_zero, List.set_cons_succ]
           refine wpAnyH_take (i := 27) (oi := ?o27st) (v := ?v27st) ?hi27st (by kernel_rfl) (by kernel_rfl) (by kernel_rfl) (fun _ _ _ h => h) ?y27st (by assumption) ?r27st
           case hi27st => (simp only [List.getElem?_toArray, List.getElem?_cons_succ, List.getElem?_cons_zero]; rfl)
           case y27st => (refine Or.inl ⟨by rfl, ?_⟩; intro w' hSw; (try dsimp only at hSw); go_simp; (try with_reducible rfl))
           try simp only [Act.put, List.setIfInBounds_toArray, List.set_cons_zero, List.set_cons_succ]
           refine wpAnyH_take (i := 28) (oi := ?o28st) (v := ?v28st) ?hi28st (by kernel_rfl) (by kernel_rfl) (by kernel_rfl) (fun _ _ _ h => h) ?y28st (by assumption) ?r28st
           case hi28st => (simp only [List.getElem?_toArray, List.getElem?_cons_succ, List.getElem?_cons_zero]; rfl)
           case y28st => (refine Or.inl ⟨by rfl, ?_⟩; intro w' hSw; (try dsimp only at hSw); go_simp; (try with_reducible rfl))
           try simp only [Act.put, List.setIfInBounds_toArray, List.set_cons_zero, List.set_cons_succ]
           refine wpAnyH_take (i := 29) (oi := ?o29st) (v := ?v29st) ?hi29st (by kernel_rfl) (by kernel_rfl) (by kernel_rfl) (fun _ _ _ h => h) ?y29st (by assumption) ?r29st
           case hi29st => (simp only [List.getElem?_toArray, List.getElem?_cons_succ, List.getElem?_cons_zero]; rfl)
           case y29st => (refine Or.inl ⟨by rfl, ?_⟩; intro w' hSw; (try dsimp only at hSw); go_simp; (try with_reducible rfl))
           try simp only [Act.put, List.setIfInBounds_toArray, List.set_cons_zero, List.set_cons_succ]
           refine wpAnyH_take (i := 30) (oi := ?o30st) (v := ?v30st) ?hi30st (by kernel_rfl) (by kernel_rfl) (by kernel_rfl) (fun _ _ _ h => h) ?y30st (by assumption) ?r30st
           case hi30st => (simp only [List.getElem?_toArray, List.getElem?_cons_succ, List.getElem?_cons_zero]; rfl)
           case y30st => (refine Or.inl ⟨by rfl, ?_⟩; intro w' hSw; (try dsimp only at hSw); go_simp; (try with_reducible rfl))
           try simp only [Act.put, List.setIfInBounds_toArray, List.set_cons_zero, List.set_cons_succ]
           refine wpAnyH_take (i := 31) (oi := ?o31st) (v := ?v31st) ?hi31st (by kernel_rfl) (by kernel_rfl) (by kernel_rfl) (fun _ _ _ h => h) ?y31st (by assumption) ?r31st
           case hi31st => (simp only [List.getElem?_toArray, List.getElem?_cons_succ, List.getElem?_cons_zero]; rfl)
           case y31st => (refine Or.inl ⟨by rfl, ?_⟩; intro w' hSw; (try dsimp only at hSw); go_simp; (try with_reducible rfl))
           try simp only [Act.put, List.setIfInBounds_toArray, List.set_cons_zero, List.set_cons_succ]
           refine wpAnyH_take (i := 32) (oi := ?o32st) (v := ?v32st) ?hi32st (by kernel_rfl) (by kernel_rfl) (by kernel_rfl) (fun _ _ _ h => h) ?y32st (by assumption) ?r32st
           case hi32st => (simp only [List.getElem?_toArray, List.getElem?_cons_succ, List.getElem?_cons_zero]; rfl)
           case y32st => (refine Or.inl ⟨by rfl, ?_⟩; intro w' hSw; (try dsimp only at hSw); go_simp; (try with_reducible rfl))
           try simp only [Act.put, List.setIfInBounds_toArray, List.set_cons_zero, List.set_cons_succ]
           refine wpAnyH_take (i := 33) (oi := ?o33st) (v := ?v33st) ?hi33st (by kernel_rfl) (by kernel_rfl) (by kernel_rfl) (fun _ _ _ h => h) ?y33st (by assumption) ?r33st
           case hi33st => (simp only [List.getElem?_toArray, List.getElem?_cons_succ, List.getElem?_cons_zero]; rfl)
           case y33st => (refine Or.inl ⟨by rfl, ?_⟩; intro w' hSw; (try dsimp only at hSw); go_simp; (try with_reducible rfl))
           try simp only [Act.put, List.setIfInBounds_toArray, List.set_cons_zero, List.set_cons_succ]
           refine wpAnyH_take (i := 34) (oi := ?o34st) (v := ?v34st) ?hi34st (by kernel_rfl) (by kernel_rfl) (by kernel_rfl) (fun _ _ _ h => h) ?y34st (by assumption) ?r34st
           case hi34st => (simp only [List.getElem?_toArray, List.getElem?_cons_succ, List.getElem?_cons_zero]; rfl)
           case y34st => (refine Or.inl ⟨by rfl, ?_⟩; intro w' hSw; (try dsimp only at hSw); go_simp; (try with_reducible rfl))
           try simp only [Act.put, List.setIfInBounds_toArray, List.set_cons_zero, List.set_cons_succ]
           try rw [hge]
           refine wpAnyH_take (i := 35) (oi := ?o35st) (v := ?v35st) ?hi35st (by kernel_rfl) (by kernel_rfl) (by kernel_rfl) (fun _ _ _ h => h) ?y35st (by assumption) ?r35st
           case hi35st => (simp only [List.getElem?_toArray, List.getElem?_cons_succ, List.getElem?_cons_zero]; rfl)
           case y35st => (refine Or.inl ⟨by rfl, ?_⟩; intro w' hSw; (try dsimp only at hSw); go_simp; (try with_reducible rfl))
           try simp only [Act.put, List.setIfInBounds_toArray, List.set_cons_zero, List.set_cons_succ]
           refine wpAnyH_take (i := 36) (oi := ?o36st) (v := ?v36st) ?hi36st (by kernel_rfl) (by kernel_rfl) (by kernel_rfl) (fun _ _ _ h => h) ?y36st (by assumption) ?r36st
           case hi36st => (simp only [List.getElem?_toArray, List.getElem?_cons_succ, List.getElem?_cons_zero]; rfl)
           case y36st => (refine Or.inl ⟨by rfl, ?_⟩; intro w' hSw; (try dsimp only at hSw); go_simp; (try with_reducible rfl))
           try simp only [Act.put, List.setIfInBounds_toArray, List.set_cons_zero, List.set_cons_succ]
           refine wpAnyH_take (i := 37) (oi := ?o37st) (v := ?v37st) ?hi37st (by kernel_rfl) (by kernel_rfl) (by kernel_rfl) (fun _ _ _ h => h) ?y37st (by assumption) ?r37st
           case hi37st => (simp only [List.getElem?_toArray, List.getElem?_cons_succ, List.getElem?_cons_zero]; rfl)
           case y37st => (refine Or.inl ⟨by rfl, ?_⟩; intro w' hSw; (try dsimp only at hSw); go_simp; (try with_reducible rfl))
           try simp only [Act.put, List.setIfInBounds_toArray, List.set_cons_zero, List.set_cons_succ]
           refine wpAnyH_take (i := 38) (oi := ?o38st) (v := ?v38st) ?hi38st (by kernel_rfl) (by kernel_rfl) (by kernel_rfl) (fun _ _ _ h => h) ?y38st (by assumption) ?r38st
           case hi38st => (simp only [List.getElem?_toArray, List.getElem?_cons_succ, List.getElem?_cons_zero]; rfl)
           case y38st => (refine Or.inl ⟨by rfl, ?_⟩; intro w' hSw; (try dsimp only at hSw); go_simp; (try with_reducible rfl))
           try simp only [Act.put, List.setIfInBounds_toArray, List.set_cons_zero, List.set_cons_succ]
           refine wpAnyH_take (i := 39) (oi := ?o39st) (v := ?v39st) ?hi39st (by kernel_rfl) (by kernel_rfl) (by kernel_rfl) (fun _ _ _ h => h) ?y39st (by assumption) ?r39st
           case hi39st => (simp only [List.getElem?_toArray, List.getElem?_cons_succ, List.getElem?_cons_zero]; rfl)
           case y39st => (refine Or.inl ⟨by rfl, ?_⟩; intro w' hSw; (try dsimp only at hSw); go_simp; (try with_reducible rfl))
           try simp only [Act.put, List.setIfInBounds_toArray, List.set_cons_zero, List.set_cons_succ]
           refine wpAnyH_take (i := 40) (oi := ?o40st) (v := ?v40st) ?hi40st (by kernel_rfl) (by kernel_rfl) (by kernel_rfl) (fun _ _ _ h => h) ?y40st (by assumption) ?r40st
           case hi40st => (simp only [List.getElem?_toArray, List.getElem?_cons_succ, List.getElem?_cons_zero]; rfl)
           case y40st => (refine Or.inl ⟨by rfl, ?_⟩; intro w' hSw; (try dsimp only at hSw); go_simp; (try with_reducible rfl))
           try simp only [Act.put, List.setIfInBounds_toArray, List.set_cons_zero, List.set_cons_succ]
           refine wpAnyH_take (i := 41) (oi := ?o41st) (v := ?v41st) ?hi41st (by kernel_rfl) (by kernel_rfl) (by kernel_rfl) (fun _ _ _ h => h) ?y41st (by assumption) ?r41st
           case hi41st => (simp only [List.getElem?_toArray, List.getElem?_cons_succ, List.getElem?_cons_zero]; rfl)
           case y41st => (refine Or.inl ⟨by rfl, ?_⟩; intro w' hSw; (try dsimp only at hSw); go_simp; (try with_reducible rfl))
           try simp only [Act.put, List.setIfInBounds_toArray, List.set_cons_zero, List.set_cons_succ]
           refine wpAnyH_take (i := 42) (oi := ?o42st) (v := ?v42st) ?hi42st (by kernel_rfl) (by kernel_rfl) (by kernel_rfl) (fun _ _ _ h => h) ?y42st (by assumption) ?r42st
           case hi42st => (simp only [List.getElem?_toArray, List.getElem?_cons_succ, List.getElem?_cons_zero]; rfl)
           case y42st => (refine Or.inl ⟨by rfl, ?_⟩; intro w' hSw; (try dsimp only at hSw); go_simp; (try with_reducible rfl))
           try simp only [Act.put, List.setIfInBounds_toArray, List.set_cons_zero, List.set_cons_succ]
           refine wpAnyH_take (i := 43) (oi := ?o43st) (v := ?v43st) ?hi43st (by kernel_rfl) (by kernel_rfl) (by kernel_rfl) (fun _ _ _ h => h) ?y43st (by assumption) ?r43st
           case hi43st => (simp only [List.getElem?_toArray, List.getElem?_cons_succ, List.getElem?_cons_zero]; rfl)
           case y43st => (refine Or.inl ⟨by rfl, ?_⟩; intro w' hSw; (try dsimp only at hSw); go_simp; (try with_reducible rfl))
           try simp only [Act.put, List.setIfInBounds_toArray, List.set_cons_zero, List.set_cons_succ]
           try rw [eX]
           try rw [eX2]
           try rw [eX3]
           refine wpAnyH_take (i := 44) (oi := ?o44st) (v := ?v44st) ?hi44st (by kernel_rfl) (by kernel_rfl) (by kernel_rfl) (fun _ _ _ h => h) ?y44st (by assumption) ?r44st
           case hi44st => (simp only [List.getElem?_toArray, List.getElem?_cons_succ, List.getElem?_cons_zero]; rfl)
           case y44st => (refine Or.inl ⟨by rfl, ?_⟩; intro w' hSw; (try dsimp only at hSw); go_simp; (try with_reducible rfl))
           try simp only [Act.put, List.setIfInBounds_toArray, List.set_cons_zero, List.set_cons_succ]
           refine wpAnyH_take (i := 45) (oi := ?o45st) (v := ?v45st) ?hi45st (by kernel_rfl) (by kernel_rfl) (by kernel_rfl) (fun _ _ _ h => h) ?y45st (by assumption) ?r45st
           case hi45st => (simp only [List.getElem?_toArray, List.getElem?_cons_succ, List.getElem?_cons_zero]; rfl)
           case y45st => (refine Or.inl ⟨by rfl, ?_⟩; intro w' hSw; (try dsimp only at hSw); go_simp; (try with_reducible rfl))
           try simp only [Act.put, List.setIfInBounds_toArray, List.set_cons_zero, List.set_cons_succ]
           refine wpAnyH_take (i := 46) (oi := ?o46st) (v := ?v46st) ?hi46st (by kernel_rfl) (by kernel_rfl) (by kernel_rfl) (fun _ _ _ h => h) ?y46st (by assumption) ?r46st
           case hi46st => (simp only [List.getElem?_toArray, List.getElem?_cons_succ, List.getElem?_cons_zero]; rfl)
           case y46st => (refine Or.inl ⟨by rfl, ?_⟩; intro w' hSw; (try dsimp only at hSw); go_simp; (try with_reducible rfl))
           try simp only [Act.put, List.setIfInBounds_toArray, List.set_cons_zero, List.set_cons_succ]
           refine wpAnyH_take (i := 47) (oi := ?o47st) (v := ?v47st) ?hi47st (by kernel_rfl) (by kernel_rfl) (by kernel_rfl) (fun _ _ _ h => h) ?y47st (by assumption) ?r47st
           case hi47st => (simp only [List.getElem?_toArray, List.getElem?_cons_succ, List.getElem?_cons_zero]; rfl)
           case y47st => (refine Or.inl ⟨by rfl, ?_⟩; intro w' hSw; (try dsimp only at hSw); go_simp; (try with_reducible rfl))
           try simp only [Act.put, List.setIfInBounds_toArray, List.set_cons_zero, List.set_cons_succ]
           refine wpAnyH_take (i := 48) (oi := ?o48st) (v := ?v48st) ?hi48st (by kernel_rfl) (by kernel_rfl) (by kernel_rfl) (fun _ _ _ h => h) ?y48st (by assumption) ?r48st
           case hi48st => (simp only [List.getElem?_toArray, List.getElem?_cons_succ, List.getElem?_cons_zero]; rfl)
           case y48st => (refine Or.inl ⟨by rfl, ?_⟩; intro w' hSw; (try dsimp only at hSw); go_simp; (try with_reducible rfl))
           try simp only [Act.put, List.setIfInBounds_toArray, List.set_cons_zero, List.set_cons_succ]
           refine wpAnyH_take (i := 49) (oi := ?o49st) (v := ?v49st) ?hi49st (by kernel_rfl) (by kernel_rfl) (by kernel_rfl) (fun _ _ _ h => h) ?y49st (by assumption) ?r49st
           case hi49st => (simp only [List.getElem?_toArray, List.getElem?_cons_succ, List.getElem?_cons_zero]; rfl)
           case y49st => (refine Or.inl ⟨by rfl, ?_⟩; intro w' hSw; (try dsimp only at hSw); go_simp; (try with_reducible rfl))
           try simp only [Act.put, List.setIfInBounds_toArray, List.set_cons_zero, List.set_cons_succ]
           refine wpAnyH_take (i := 50) (oi := ?o50st) (v := ?v50st) ?hi50st (by kernel_rfl) (by kernel_rfl) (by kernel_rfl) (fun _ _ _ h => h) ?y50st (by assumption) ?r50st
           case hi50st => (simp only [List.getElem?_toArray, List.getElem?_cons_succ, List.getElem?_cons_zero]; rfl)
           case y50st => (refine Or.inl ⟨by rfl, ?_⟩; intro w' hSw; (try dsimp only at hSw); go_simp; (try with_reducible rfl))
           try simp only [Act.put, List.setIfInBounds_toArray, List.set_cons_zero, List.set_cons_succ]
           refine wpAnyH_take (i := 51) (oi := ?o51st) (v := ?v51st) ?hi51st (by kernel_rfl) (by kernel_rfl) (by kernel_rfl) (fun _ _ _ h => h) ?y51st (by assumption) ?r51st
           case hi51st => (simp only [List.getElem?_toArray, List.getElem?_cons_succ, List.getElem?_cons_zero]; rfl)
           case y51st => (refine Or.inl ⟨by rfl, ?_⟩; intro w' hSw; (try dsimp only at hSw); go_simp; (try with_reducible rfl))
           try simp only [Act.put, List.setIfInBounds_toArray, List.set_cons_zero, List.set_cons_succ]
           try rw [eD2]
           try rw [eD]
           refine wpAnyH_take (i := 52) (oi := ?o52st) (v := ?v52st) ?hi52st (by kernel_rfl) (by kernel_rfl) (by kernel_rfl) (fun _ _ _ h => h) ?y52st (by assumption) ?r52st
           case hi52st => (simp only [List.getElem?_toArray, List.getElem?_cons_succ, List.getElem?_cons_zero]; rfl)
           case y52st => (refine Or.inl ⟨by rfl, ?_⟩; intro w' hSw; (try dsimp only at hSw); go_simp; (try with_reducible rfl))
           try simp only [Act.put, List.setIfInBounds_toArray, List.set_cons_zero, List.set_cons_succ]
           refine wpAnyH_take (i := 53) (oi := ?o53st) (v := ?v53st) ?hi53st (by kernel_rfl) (by kernel_rfl) (by kernel_rfl) (fun _ _ _ h => h) ?y53st (by assumption) ?r53st
           case hi53st => (simp only [List.getElem?_toArray, List.getElem?_cons_succ, List.getElem?_cons_zero]; rfl)
           case y53st => (refine Or.inl ⟨by rfl, ?_⟩; intro w' hSw; (try dsimp only at hSw); go_simp; (try with_reducible rfl))
           try simp only [Act.put, List.setIfInBounds_toArray, List.set_cons_zero, List.set_cons_succ]
           refine wpAnyH_take (i := 54) (oi := ?o54st) (v := ?v54st) ?hi54st (by kernel_rfl) (by kernel_rfl) (by kernel_rfl) (fun _ _ _ h => h) ?y54st (by assumption) ?r54st
           case hi54st => (simp only [List.getElem?_toArray, List.getElem?_cons_succ, List.getElem?_cons_zero]; rfl)
           case y54st => (refine Or.inl ⟨by rfl, ?_⟩; intro w' hSw; (try dsimp only at hSw); go_simp; (try with_reducible rfl))
           try simp only [Act.put, List.setIfInBounds_toArray, List.set_cons_zero, List.set_cons_succ]
           refine wpAnyH_take (i := 55) (oi := ?o55st) (v := ?v55st) ?hi55st (by kernel_rfl) (by kernel_rfl) (by kernel_rfl) (fun _ _ _ h => h) ?y55st (by assumption) ?r55st
           case hi55st => (simp only [List.getElem?_toArray, List.getElem?_cons_succ, List.getElem?_cons_zero]; rfl)
           case y55st => (refine Or.inl ⟨by rfl, ?_⟩; intro w' hSw; (try dsimp only at hSw); go_simp; (try with_reducible rfl))
           try simp only [Act.put, List.setIfInBounds_toArray, List.set_cons_zero, List.set_cons_succ]
           refine wpAnyH_take (i := 56) (oi := ?o56st) (v := ?v56st) ?hi56st (by kernel_rfl) (by kernel_rfl) (by kernel_rfl) (fun _ _ _ h => h) ?y56st (by assumption) ?r56st
           case hi56st => (simp only [List.getElem?_toArray, List.getElem?_cons_succ, List.getElem?_cons_zero]; rfl)
           case y56st => (refine Or.inl ⟨by rfl, ?_⟩; intro w' hSw; (try dsimp only at hSw); go_simp; (try with_reducible rfl))
           try simp only [Act.put, List.setIfInBounds_toArray, List.set_cons_zero, List.set_cons_succ]
           refine wpAnyH_take (i := 57) (oi := ?o57st) (v := ?v57st) ?hi57st (by kernel_rfl) (by kernel_rfl) (by kernel_rfl) (fun _ _ _ h => h) ?y57st (by assumption) ?r57st
           case hi57st => (simp only [List.getElem?_toArray, List.getElem?_cons_succ, List.getElem?_cons_zero]; rfl)
           case y57st => (refine Or.inl ⟨by rfl, ?_⟩; intro w' hSw; (try dsimp only at hSw); go_simp; (try with_reducible rfl))
           try simp only [Act.put, List.setIfInBounds_toArray, List.set_cons_zero, List.set_cons_succ]
           refine wpAnyH_take (i := 58) (oi := ?o58st) (v := ?v58st) ?hi58st (by kernel_rfl) (by kernel_rfl) (by kernel_rfl) (fun _ _ _ h => h) ?y58st (by assumption) ?r58st
           case hi58st => (simp only [List.getElem?_toArray, List.getElem?_cons_succ, List.getElem?_cons_zero]; rfl)
           case y58st => (refine Or.inl ⟨by rfl, ?_⟩; intro w' hSw; (try dsimp only at hSw); go_simp; (try with_reducible rfl))
           try simp only [Act.put, List.setIfInBounds_toArray, List.set_cons_zero, List.set_cons_succ]
           refine wpAnyH_take (i := 59) (oi := ?o59st) (v := ?v59st) ?hi59st (by kernel_rfl) (by kernel_rfl) (by kernel_rfl) (fun _ _ _ h => h) ?y59st (by assumption) ?r59st
           case hi59st => (simp only [List.getElem?_toArray, List.getElem?_cons_succ, List.getElem?_cons_zero]; rfl)
           case y59st => (refine Or.inl ⟨by rfl, ?_⟩; intro w' hSw; (try dsimp only at hSw); go_simp; (try with_reducible rfl))
           try simp only [Act.put, List.setIfInBounds_toArray, List.set_cons_zero, List.set_cons_succ]
           refine wpAnyH_take (i := 60) (oi := ?o60st) (v := ?v60st) ?hi60st (by kernel_rfl) (by kernel_rfl) (by kernel_rfl) (fun _ _ _ h => h) ?y60st (by assumption) ?r60st
           case hi60st => (simp only [List.getElem?_toArray, List.getElem?_cons_succ, List.getElem?_cons_zero]; rfl)
           case y60st => (refine Or.inl ⟨by rfl, ?_⟩; intro w' hSw; (try dsimp only at hSw); go_simp; (try with_reducible rfl))
           try simp only [Act.put, List.setIfInBounds_toArray, List.set_cons_zero, List.set_cons_succ]
           refine wpAnyH_take (i := 61) (oi := ?o61st) (v := ?v61st) ?hi61st (by kernel_rfl) (by kernel_rfl) (by kernel_rfl) (fun _ _ _ h => h) ?y61st (by assumption) ?r61st
           case hi61st => (simp only [List.getElem?_toArray, List.getElem?_cons_succ, List.getElem?_cons_zero]; rfl)
           case y61st => (refine Or.inl ⟨by rfl, ?_⟩; intro w' hSw; (try dsimp only at hSw); go_simp; (try with_reducible rfl))
           try simp only [Act.put, List.setIfInBounds_toArray, List.set_cons_zero, List.set_cons_succ]
           refine wpAnyH_take (i := 62) (oi := ?o62st) (v := ?v62st) ?hi62st (by kernel_rfl) (by kernel_rfl) (by kernel_rfl) (fun _ _ _ h => h) ?y62st (by assumption) ?r62st
           case hi62st => (simp only [List.getElem?_toArray, List.getElem?_cons_succ, List.getElem?_cons_zero]; rfl)
           case y62st => (refine Or.inl ⟨by rfl, ?_⟩; intro w' hSw; (try dsimp only at hSw); go_simp; (try with_reducible rfl))
           try simp only [Act.put, List.setIfInBounds_toArray, List.set_cons_zero, List.set_cons_succ]
           try rw [eV2]
           try rw [eV]
           refine wpAnyH_take (i := 63) (oi := ?o63st) (v := ?v63st) ?hi63st (by kernel_rfl) (by kernel_rfl) (by kernel_rfl) (fun _ _ _ h => h) ?y63st (by assumption) ?r63st
           case hi63st => (simp only [List.getElem?_toArray, List.getElem?_cons_succ, List.getElem?_cons_zero]; rfl)
           case y63st => (refine Or.inl ⟨by rfl, ?_⟩; intro w' hSw; (try dsimp only at hSw); go_simp; (try with_reducible rfl))
           try simp only [Act.put, List.setIfInBounds_toArray, List.set_cons_zero, List.set_cons_succ]
           refine wpAnyH_take (i := 64) (oi := ?o64st) (v := ?v64st) ?hi64st (by kernel_rfl) (by kernel_rfl) (by kernel_rfl) (fun _ _ _ h => h) ?y64st (by assumption) ?r64st
           case hi64st => (simp only [List.getElem?_toArray, List.getElem?_cons_succ, List.getElem?_cons_zero]; rfl)
           case y64st => (refine Or.inl ⟨by rfl, ?_⟩; intro w' hSw; (try dsimp only at hSw); go_simp; (try with_reducible rfl))
           try simp only [Act.put, List.setIfInBounds_toArray, List.set_cons_zero, List.set_cons_succ]
           refine wpAnyH_done (by kernel_rfl) ?_ _
           refine NoPanic.normal ?_
           clear hHeld
           go_wp2_with fail
           go_roundw
           case rel => exact ⟨(i + 1) + 1, by omega, by go_num, bel⟩
           case measure => simp [RowKit.intOf]; omega
       ·
        obtain rfl : j = outs.length := by omega
        have hb := HB.out
        have bel := BW.out
        replace bel := Bx.then_below bel hb
        replace B0 := Lib.hid (B0.out.keep hb)
        replace B1 := Lib.hid (B1.out.keep hb)
        replace B2 := Lib.hid (B2.out.keep hb)
        clear hb
        clear HB BW
        obtain ⟨c0_0, c0_1, c0_2⟩ := B0.out.all3
        obtain ⟨c2_0, c2_1, c2_2, c2_3, c2_4, c2_5, c2_6⟩ := B2.out.all7
        cases tk with
        | false =>
         as_aux_lemma =>
          go_wp2_with fail
          refine wp_region_noPanic ?_
          refine wp_region_held_drew (S := fun w' => Bx.Blk w' m7 (Mem.pc o k AP n c) ∧ w'.cell? ⟨w.heap.size + 1, 0, none⟩ = some (.int .i64 q) ∧ w'.cell? ⟨w.heap.size + 1, 2, none⟩ = some (.int .i64 op) ∧ w'.cell? ⟨m8, 0, none⟩ = some (.int .u64 d) ∧ w'.cell? ⟨m8, 1, none⟩ = some (.int .u64 s) ∧ w'.cell? ⟨m8, 2, none⟩ = some (.bool g) ∧ w'.cell? ⟨m8, 3, none⟩ = some (.int .i64 p) ∧ w'.cell? ⟨m8, 4, none⟩ = some (.int .i64 v) ∧ w'.cell? ⟨m8, 5, none⟩ = some (.int .i64 t) ∧ w'.cell? ⟨m8, 6, none⟩ = some (.string X)) (by kernel_rfl) (by exact ⟨B1.out, c0_0, c0_2, c2_0, c2_1, c2_2, c2_3, c2_4, c2_5, c2_6⟩) (fun hHeld => ?_)
          replace bel := Bx.bel_drewn bel
          refine wpAnyH_take (i := 0) (oi := ?o0va) (v := ?v0va) ?hi0va (by kernel_rfl) (by kernel_rfl) (by kernel_rfl) (fun _ _ _ h => h) ?y0va (by assumption) ?r0va
          case hi0va => (simp only [List.getElem?_toArray, List.getElem?_cons_zero]; rfl)
          case y0va => (refine Or.inl ⟨by rfl, ?_⟩; intro w' hSw; (try dsimp only at hSw); go_simp; (try with_reducible rfl))
          try simp only [Act.put, List.setIfInBounds_toArray, List.set_cons_zero, List.set_cons_succ]
          refine wpAnyH_take (i := 1) (oi := ?o1va) (v := ?v1va) ?hi1va (by kernel_rfl) (by kernel_rfl) (by kernel_rfl) (fun _ _ _ h => h) ?y1va (by assumption) ?r1va
          case hi1va => (simp only [List.getElem?_toArray, List.getElem?_cons_succ, List.getElem?_cons_zero]; rfl)
          case y1va => (refine Or.inl ⟨by rfl, ?_⟩; intro w' hSw; (try dsimp only at hSw); go_simp; (try with_reducible rfl))
          try simp only [Act.put, List.setIfInBounds_toArray, List.set_cons_zero, List.set_cons_succ]
          refine wpAnyH_take (i := 2) (oi := ?o2va) (v := undef) ?hi2va (by kernel_rfl) (by kernel_rfl) (by kernel_rfl) (fun _ _ _ h => h) ?y2va (by assumption) ?r2va
          case hi2va => (simp only [List.getElem?_toArray, List.getElem?_cons_succ, List.getElem?_cons_zero]; rfl)
          case y2va => exact Or.inr ⟨by rfl, rfl⟩
          try simp only [Act.put, List.setIfInBounds_toArray, List.set_cons_zero, List.set_cons_succ]
          refine wpAnyH_take (i := 3) (oi := ?o3va) (v := undef) ?hi3va (by kernel_rfl) (by kernel_rfl) (by kernel_rfl) (fun _ _ _ h => h) ?y3va (by assumption) ?r3va
          case hi3va => (simp only [List.getElem?_toArray, List.getElem?_cons_succ, List.getElem?_cons_zero]; rfl)
          case y3va => exact Or.inr ⟨by rfl, rfl⟩
          try simp only [Act.put, List.setIfInBounds_toArray, List.set_cons_zero, List.set_cons_succ]
          refine wpAnyH_take (i := 4) (oi := ?o4va) (v := undef) ?hi4va (by kernel_rfl) (by kernel_rfl) (by kernel_rfl) (fun _ _ _ h => h) ?y4va (by assumption) ?r4va
          case hi4va => (simp only [List.getElem?_toArray, List.getElem?_cons_succ, List.getElem?_cons_zero]; rfl)
          case y4va => exact Or.inr ⟨by rfl, rfl⟩
          try simp only [Act.put, List.setIfInBounds_toArray, List.set_cons_zero, List.set_cons_succ]
          refine wpAnyH_take (i := 5) (oi := ?o5va) (v := ?v5va) ?hi5va (by kernel_rfl) (by kernel_rfl) (by kernel_rfl) (fun _ _ _ h => h) ?y5va (by assumption) ?r5va
          case hi5va => (simp only [List.getElem?_toArray, List.getElem?_cons_succ, List.getElem?_cons_zero]; rfl)
          case y5va => (refine Or.inl ⟨by rfl, ?_⟩; intro w' hSw; (try dsimp only at hSw); go_simp; (try with_reducible rfl))
          try simp only [Act.put, List.setIfInBounds_toArray, List.set_cons_zero, List.set_cons_succ]
          refine wpAnyH_take (i := 6) (oi := ?o6va) (v := ?v6va) ?hi6va (by kernel_rfl) (by kernel_rfl) (by kernel_rfl) (fun _ _ _ h => h) ?y6va (by assumption) ?r6va
          case hi6va => (simp only [List.getElem?_toArray, List.getElem?_cons_succ, List.getElem?_cons_zero]; rfl)
          case y6va => (refine Or.inl ⟨by rfl, ?_⟩; intro w' hSw; (try dsimp only at hSw); go_simp; (try with_reducible rfl))
          try simp only [Act.put, List.setIfInBounds_toArray, List.set_cons_zero, List.set_cons_succ]
          refine wpAnyH_take (i := 7) (oi := ?o7va) (v := undef) ?hi7va (by kernel_rfl) (by kernel_rfl) (by kernel_rfl) (fun _ _ _ h => h) ?y7va (by assumption) ?r7va
          case hi7va => (simp only [List.getElem?_toArray, List.getElem?_cons_succ, List.getElem?_cons_zero]; rfl)
          case y7va => exact Or.inr ⟨by rfl, rfl⟩
          try simp only [Act.put, List.setIfInBounds_toArray, List.set_cons_zero, List.set_cons_succ]
          refine wpAnyH_take (i := 8) (oi := ?o8va) (v := undef) ?hi8va (by kernel_rfl) (by kernel_rfl) (by kernel_rfl) (fun _ _ _ h => h) ?y8va (by assumption) ?r8va
          case hi8va => (simp only [List.getElem?_toArray, List.getElem?_cons_succ, List.getElem?_cons_zero]; rfl)
          case y8va => exact Or.inr ⟨by rfl, rfl⟩
          try simp only [Act.put, List.setIfInBounds_toArray, List.set_cons_zero, List.set_cons_succ]
          refine wpAnyH_take (i := 9) (oi := ?o9va) (v := undef) ?hi9va (by kernel_rfl) (by kernel_rfl) (by kernel_rfl) (fun _ _ _ h => h) ?y9va (by assumption) ?r9va
          case hi9va => (simp only [List.getElem?_toArray, List.getElem?_cons_succ, List.getElem?_cons_zero]; rfl)
          case y9va => exact Or.inr ⟨by rfl, rfl⟩
          try simp only [Act.put, List.setIfInBounds_toArray, List.set_cons_zero, List.set_cons_succ]
          refine wpAnyH_take (i := 10) (oi := ?o10va) (v := undef) ?hi10va (by kernel_rfl) (by kernel_rfl) (by kernel_rfl) (fun _ _ _ h => h) ?y10va (by assumption) ?r10va
          case hi10va => (simp only [List.getElem?_toArray, List.getElem?_cons_succ, List.getElem?_cons_zero]; rfl)
          case y10va => exact Or.inr ⟨by rfl, rfl⟩
          try simp only [Act.put, List.setIfInBounds_toArray, List.set_cons_zero, List.set_cons_succ]
          refine wpAnyH_take (i := 11) (oi := ?o11va) (v := undef) ?hi11va (by kernel_rfl) (by kernel_rfl) (by kernel_rfl) (fun _ _ _ h => h) ?y11va (by assumption) ?r11va
          case hi11va => (simp only [List.getElem?_toArray, List.getElem?_cons_succ, List.getElem?_cons_zero]; rfl)
          case y11va => exact Or.inr ⟨by rfl, rfl⟩
          try simp only [Act.put, List.setIfInBounds_toArray, List.set_cons_zero, List.set_cons_succ]
          refine wpAnyH_take (i := 12) (oi := ?o12va) (v := ?v12va) ?hi12va (by kernel_rfl) (by kernel_rfl) (by kernel_rfl) (fun _ _ _ h => h) ?y12va (by assumption) ?r12va
          case hi12va => (simp only [List.getElem?_toArray, List.getElem?_cons_succ, List.getElem?_cons_zero]; rfl)
          case y12va => (refine Or.inl ⟨by rfl, ?_⟩; intro w' hSw; (try dsimp only at hSw); go_simp; (try with_reducible rfl))
          try simp only [Act.put, List.setIfInBounds_toArray, List.set_cons_zero, List.set_cons_succ]
          refine wpAnyH_take (i := 13) (oi := ?o13va) (v := ?v13va) ?hi13va (by kernel_rfl) (by kernel_rfl) (by kernel_rfl) (fun _ _ _ h => h) ?y13va (by assumption) ?r13va
          case hi13va => (simp only [List.getElem?_toArray, List.getElem?_cons_succ, List.getElem?_cons_zero]; rfl)
          case y13va => (refine Or.inl ⟨by rfl, ?_⟩; intro w' hSw; (try dsimp only at hSw); go_simp; (try with_reducible rfl))
          try simp only [Act.put, List.setIfInBounds_toArray, List.set_cons_zero, List.set_cons_succ]
          refine wpAnyH_take (i := 14) (oi := ?o14va) (v := undef) ?hi14va (by kernel_rfl) (by kernel_rfl) (by kernel_rfl) (fun _ _ _ h => h) ?y14va (by assumption) ?r14va
          case hi14va => (simp only [List.getElem?_toArray, List.getElem?_cons_succ, List.getElem?_cons_zero]; rfl)
          case y14va => exact Or.inr ⟨by rfl, rfl⟩
          try simp only [Act.put, List.setIfInBounds_toArray, List.set_cons_zero, List.set_cons_succ]
          refine wpAnyH_take (i := 15) (oi := ?o15va) (v := undef) ?hi15va (by kernel_rfl) (by kernel_rfl) (by kernel_rfl) (fun _ _ _ h => h) ?y15va (by assumption) ?r15va
          case hi15va => (simp only [List.getElem?_toArray, List.getElem?_cons_succ, List.getElem?_cons_zero]; rfl)
          case y15va => exact Or.inr ⟨by rfl, rfl⟩
          try simp only [Act.put, List.setIfInBounds_toArray, List.set_cons_zero, List.set_cons_succ]
          refine wpAnyH_take (i := 16) (oi := ?o16va) (v := ?v16va) ?hi16va (by kernel_rfl) (by kernel_rfl) (by kernel_rfl) (fun _ _ _ h => h) ?y16va (by assumption) ?r16va
          case hi16va => (simp only [List.getElem?_toArray, List.getElem?_cons_succ, List.getElem?_cons_zero]; rfl)
          case y16va => (refine Or.inl ⟨by rfl, ?_⟩; intro w' hSw; (try dsimp only at hSw); go_simp; (try with_reducible rfl))
          try simp only [Act.put, List.setIfInBounds_toArray, List.set_cons_zero, List.set_cons_succ]
          refine wpAnyH_take (i := 17) (oi := ?o17va) (v := ?v17va) ?hi17va (by kernel_rfl) (by kernel_rfl) (by kernel_rfl) (fun _ _ _ h => h) ?y17va (by assumption) ?r17va
          case hi17va => (simp only [List.getElem?_toArray, List.getElem?_cons_succ, List.getElem?_cons_zero]; rfl)
          case y17va => (refine Or.inl ⟨by rfl, ?_⟩; intro w' hSw; (try dsimp only at hSw); go_simp; (try with_reducible rfl))
          try simp only [Act.put, List.setIfInBounds_toArray, List.set_cons_zero, List.set_cons_succ]
          refine wpAnyH_take (i := 18) (oi := ?o18va) (v := undef) ?hi18va (by kernel_rfl) (by kernel_rfl) (by kernel_rfl) (fun _ _ _ h => h) ?y18va (by assumption) ?r18va
          case hi18va => (simp only [List.getElem?_toArray, List.getElem?_cons_succ, List.getElem?_cons_zero]; rfl)
          case y18va => exact Or.inr ⟨by rfl, rfl⟩
          try simp only [Act.put, List.setIfInBounds_toArray, List.set_cons_zero, List.set_cons_succ]
          refine wpAnyH_take (i := 19) (oi := ?o19va) (v := undef) ?hi19va (by kernel_rfl) (by kernel_rfl) (by kernel_rfl) (fun _ _ _ h => h) ?y19va (by assumption) ?r19va
          case hi19va => (simp only [List.getElem?_toArray, List.getElem?_cons_succ, List.getElem?_cons_zero]; rfl)
          case y19va => exact Or.inr ⟨by rfl, rfl⟩
          try simp only [Act.put, List.setIfInBounds_toArray, List.set_cons_zero, List.set_cons_succ]
          refine wpAnyH_take (i := 20) (oi := ?o20va) (v := undef) ?hi20va (by kernel_rfl) (by kernel_rfl) (by kernel_rfl) (fun _ _ _ h => h) ?y20va (by assumption) ?r20va
          case hi20va => (simp only [List.getElem?_toArray, List.getElem?_cons_succ, List.getElem?_cons_zero]; rfl)
          case y20va => exact Or.inr ⟨by rfl, rfl⟩
          try simp only [Act.put, List.setIfInBounds_toArray, List.set_cons_zero, List.set_cons_succ]
          refine wpAnyH_take (i := 21) (oi := ?o21va) (v := undef) ?hi21va (by kernel_rfl) (by kernel_rfl) (by kernel_rfl) (fun _ _ _ h => h) ?y21va (by assumption) ?r21va
          case hi21va => (simp only [List.getElem?_toArray, List.getElem?_cons_succ, List.getElem?_cons_zero]; rfl)
          case y21va => exact Or.inr ⟨by rfl, rfl⟩
          try simp only [Act.put, List.setIfInBounds_toArray, List.set_cons_zero, List.set_cons_succ]
          refine wpAnyH_take (i := 22) (oi := ?o22va) (v := undef) ?hi22va (by kernel_rfl) (by kernel_rfl) (by kernel_rfl) (fun _ _ _ h => h) ?y22va (by assumption) ?r22va
          case hi22va => (simp only [List.getElem?_toArray, List.getElem?_cons_succ, List.getElem?_cons_zero]; rfl)
          case y22va => exact Or.inr ⟨by rfl, rfl⟩
          try simp only [Act.put, List.setIfInBounds_toArray, List.set_cons_zero, List.set_cons_succ]
          refine wpAnyH_take (i := 23) (oi := ?o23va) (v := undef) ?hi23va (by kernel_rfl) (by kernel_rfl) (by kernel_rfl) (fun _ _ _ h => h) ?y23va (by assumption) ?r23va
          case hi23va => (simp only [List.getElem?_toArray, List.getElem?_cons_succ, List.getElem?_cons_zero]; rfl)
          case y23va => exact Or.inr ⟨by rfl, rfl⟩
          try simp only [Act.put, List.setIfInBounds_toArray, List.set_cons_zero, List.set_cons_succ]
          refine wpAnyH_take (i := 24) (oi := ?o24va) (v := undef) ?hi24va (by kernel_rfl) (by kernel_rfl) (by kernel_rfl) (fun _ _ _ h => h) ?y24va (by assumption) ?r24va
          case hi24va => (simp only [List.getElem?_toArray, List.getElem?_cons_succ, List.getElem?_cons_zero]; rfl)
          case y24va => exact Or.inr ⟨by rfl, rfl⟩
          try simp only [Act.put, List.setIfInBounds_toArray, List.set_cons_zero, List.set_cons_succ]
          refine wpAnyH_take (i := 25) (oi := ?o25va) (v := undef) ?hi25va (by kernel_rfl) (by kernel_rfl) (by kernel_rfl) (fun _ _ _ h => h) ?y25va (by assumption) ?r25va
          case hi25va => (simp only [List.getElem?_toArray, List.getElem?_cons_succ, List.getElem?_cons_zero]; rfl)
          case y25va => exact Or.inr ⟨by rfl, rfl⟩
          try simp only [Act.put, List.setIfInBounds_toArray, List.set_cons_zero, List.set_cons_succ]
          refine wpAnyH_take (i := 26) (oi := ?o26va) (v := undef) ?hi26va (by kernel_rfl) (by kernel_rfl) (by kernel_rfl) (fun _ _ _ h => h) ?y26va (by assumption) ?r26va
          case hi26va => (simp only [List.getElem?_toArray, List.getElem?_cons_succ, List.getElem?_cons_zero]; rfl)
          case y26va => exact Or.inr ⟨by rfl, rfl⟩
          try simp only [Act.put, List.setIfInBounds_toArray, List.set_cons_zero, List.set_cons_succ]
          refine wpAnyH_take (i := 27) (oi := ?o27va) (v := undef) ?hi27va (by kernel_rfl) (by kernel_rfl) (by kernel_rfl) (fun _ _ _ h => h) ?y27va (by assumption) ?r27va
          case hi27va => (simp only [List.getElem?_toArray, List.getElem?_cons_succ, List.getElem?_cons_zero]; rfl)
          case y27va => exact Or.inr ⟨by rfl, rfl⟩
          try simp only [Act.put, List.setIfInBounds_toArray, List.set_cons_zero, List.set_cons_succ]
          refine wpAnyH_take (i := 28) (oi := ?o28va) (v := undef) ?hi28va (by kernel_rfl) (by kernel_rfl) (by kernel_rfl) (fun _ _ _ h => h) ?y28va (by assumption) ?r28va
          case hi28va => (simp only [List.getElem?_toArray, List.getElem?_cons_succ, List.getElem?_cons_zero]; rfl)
          case y28va => exact Or.inr ⟨by rfl, rfl⟩
          try simp only [Act.put, List.setIfInBounds_toArray, List.set_cons_zero, List.set_cons_succ]
          refine wpAnyH_take (i := 29) (oi := ?o29va) (v := undef) ?hi29va (by kernel_rfl) (by kernel_rfl) (by kernel_rfl) (fun _ _ _ h => h) ?y29va (by assumption) ?r29va
          case hi29va => (simp only [List.getElem?_toArray, List.getElem?_cons_succ, List.getElem?_cons_zero]; rfl)
          case y29va => exact Or.inr ⟨by rfl, rfl⟩
          try simp only [Act.put, List.setIfInBounds_toArray, List.set_cons_zero, List.set_cons_succ]
          refine wpAnyH_take (i := 30) (oi := ?o30va) (v := undef) ?hi30va (by kernel_rfl) (by kernel_rfl) (by kernel_rfl) (fun _ _ _ h => h) ?y30va (by assumption) ?r30va
          case hi30va => (simp only [List.getElem?_toArray, List.getElem?_cons_succ, List.getElem?_cons_zero]; rfl)
          case y30va => exact Or.inr ⟨by rfl, rfl⟩
          try simp only [Act.put, List.setIfInBounds_toArray, List.set_cons_zero, List.set_cons_succ]
          refine wpAnyH_take (i := 31) (oi := ?o31va) (v := ?v31va) ?hi31va (by kernel_rfl) (by kernel_rfl) (by kernel_rfl) (fun _ _ _ h => h) ?y31va (by assumption) ?r31va
          case hi31va => (simp only [List.getElem?_toArray, List.getElem?_cons_succ, List.getElem?_cons_zero]; rfl)
          case y31va => (refine Or.inl ⟨by rfl, ?_⟩; intro w' hSw; (try dsimp only at hSw); go_simp; (try with_reducible rfl))
          try simp only [Act.put, List.setIfInBounds_toArray, List.set_cons_zero, List.set_cons_succ]
          refine wpAnyH_done (by kernel_rfl) ?_ _
          refine NoPanic.normal ?_
          clear hHeld
          go_wp2_with fail
          refine (HAW.out _ bel).mono ?_; rintro e wv ⟨rfl, hb⟩
          replace bel := Bx.then_below bel hb
          go_wp2
          go_ret
          exact ⟨rfl, bel⟩
        | true =>
         by_cases hK : K = 0
         ·
          subst hK
          cases hO with
          | false =>
           as_aux_lemma =>
            go_wp2_with fail
            refine wp_region_noPanic ?_
            refine wp_region_held_drew (S := fun w' => Bx.Blk w' m7 (Mem.pc o k AP n c) ∧ w'.cell? ⟨w.heap.size + 1, 0, none⟩ = some (.int .i64 q) ∧ w'.cell? ⟨w.heap.size + 1, 2, none⟩ = some (.int .i64 op) ∧ w'.cell? ⟨m8, 0, none⟩ = some (.int .u64 d) ∧ w'.cell? ⟨m8, 1, none⟩ = some (.int .u64 s) ∧ w'.cell? ⟨m8, 2, none⟩ = some (.bool g) ∧ w'.cell? ⟨m8, 3, none⟩ = some (.int .i64 p) ∧ w'.cell? ⟨m8, 4, none⟩ = some (.int .i64 v) ∧ w'.cell? ⟨m8, 5, none⟩ = some (.int .i64 t) ∧ w'.cell? ⟨m8, 6, none⟩ = some (.string X)) (by kernel_rfl) (by exact ⟨B1.out, c0_0, c0_2, c2_0, c2_1, c2_2, c2_3, c2_4, c2_5, c2_6⟩) (fun hHeld => ?_)
            replace bel := Bx.bel_drewn bel
            refine wpAnyH_take (i := 0) (oi := ?o0vb) (v := ?v0vb) ?hi0vb (by kernel_rfl) (by kernel_rfl) (by kernel_rfl) (fun _ _ _ h => h) ?y0vb (by assumption) ?r0vb
            case hi0vb => (simp only [List.getElem?_toArray, List.getElem?_cons_zero]; rfl)
            case y0vb => (refine Or.inl ⟨by rfl, ?_⟩; intro w' hSw; (try dsimp only at hSw); go_simp; (try with_reducible rfl))
            try simp only [Act.put, List.setIfInBounds_toArray, List.set_cons_zero, List.set_cons_succ]
            refine wpAnyH_take (i := 1) (oi := ?o1vb) (v := ?v1vb) ?hi1vb (by kernel_rfl) (by kernel_rfl) (by kernel_rfl) (fun _ _ _ h => h) ?y1vb (by assumption) ?r1vb
            case hi1vb => (simp only [List.getElem?_toArray, List.getElem?_cons_succ, List.getElem?_cons_zero]; rfl)
            case y1vb => (refine Or.inl ⟨by rfl, ?_⟩; intro w' hSw; (try dsimp only at hSw); go_simp; (try with_reducible rfl))
            try simp only [Act.put, List.setIfInBounds_toArray, List.set_cons_zero, List.set_cons_succ]
            refine wpAnyH_take (i := 2) (oi := ?o2vb) (v := ?v2vb) ?hi2vb (by kernel_rfl) (by kernel_rfl) (by kernel_rfl) (fun _ _ _ h => h) ?y2vb (by assumption) ?r2vb
            case hi2vb => (simp only [List.getElem?_toArray, List.getElem?_cons_succ, List.getElem?_cons_zero]; rfl)
            case y2vb => (refine Or.inl ⟨by rfl, ?_⟩; intro w' hSw; (try dsimp only at hSw); go_simp; (try with_reducible rfl))
            try simp only [Act.put, List.setIfInBounds_toArray, List.set_cons_zero, List.set_cons_succ]
            refine wpAnyH_ready (rs := [3]) (by kernel_rfl) (by simp) ?_
            refine AllReadyH.cons (o := ?o3vb) ?hi3vb ?hst3vb AllReadyH.nil
            case hi3vb => (simp only [List.getElem?_toArray, List.getElem?_cons_succ, List.getElem?_cons_zero]; rfl)
            intro K hK
            go_simp
            (go_at_call 12; (with_reducible refine (HTa.out.kd _ bel).mono ?_); rintro e w6 ⟨rfl, hb6⟩)
            go_wp2_with fail
            refine hK.out _ _ (⟨Bx.Blk.keep hHeld.1 hb6, Bx.keep_cell hb6 hHeld.2.1, Bx.keep_cell hb6 hHeld.2.2.1, Bx.keep_cell hb6 hHeld.2.2.2.1, Bx.keep_cell hb6 hHeld.2.2.2.2.1, Bx.keep_cell hb6 hHeld.2.2.2.2.2.1, Bx.keep_cell hb6 hHeld.2.2.2.2.2.2.1, Bx.keep_cell hb6 hHeld.2.2.2.2.2.2.2.1, Bx.keep_cell hb6 hHeld.2.2.2.2.2.2.2.2.1, Bx.keep_cell hb6 hHeld.2.2.2.2.2.2.2.2.2⟩) (fun hNew => ?_)
            clear hHeld
            have hHeld := hNew
            clear hNew hK K
            replace bel := Bx.then_below bel hb6
            clear hb6
            refine wpAnyH_take (i := 4) (oi := ?o4vb) (v := ?v4vb) ?hi4vb (by kernel_rfl) (by kernel_rfl) (by kernel_rfl) (fun _ _ _ h => h) ?y4vb (by assumption) ?r4vb
            case hi4vb => (simp only [List.getElem?_toArray, List.getElem?_cons_succ, List.getElem?_cons_zero]; rfl)
            case y4vb => (refine Or.inl ⟨by rfl, ?_⟩; intro w' hSw; (try dsimp only at hSw); go_simp; (try with_reducible rfl))
            try simp only [Act.put, List.setIfInBounds_toArray, List.set_cons_zero, List.set_cons_succ]
            refine wpAnyH_take (i := 5) (oi := ?o5vb) (v := ?v5vb) ?hi5vb (by kernel_rfl) (by kernel_rfl) (by kernel_rfl) (fun _ _ _ h => h) ?y5vb (by assumption) ?r5vb
            case hi5vb => (simp only [List.getElem?_toArray, List.getElem?_cons_succ, List.getElem?_cons_zero]; rfl)
            case y5vb => (refine Or.inl ⟨by rfl, ?_⟩; intro w' hSw; (try dsimp only at hSw); go_simp; (try with_reducible rfl))
            try simp only [Act.put, List.setIfInBounds_toArray, List.set_cons_zero, List.set_cons_succ]
            refine wpAnyH_take (i := 6) (oi := ?o6vb) (v := ?v6vb) ?hi6vb (by kernel_rfl) (by kernel_rfl) (by kernel_rfl) (fun _ _ _ h => h) ?y6vb (by assumption) ?r6vb
            case hi6vb => (simp only [List.getElem?_toArray, List.getElem?_cons_succ, List.getElem?_cons_zero]; rfl)
            case y6vb => (refine Or.inl ⟨by rfl, ?_⟩; intro w' hSw; (try dsimp only at hSw); go_simp; (try with_reducible rfl))
            try simp only [Act.put, List.setIfInBounds_toArray, List.set_cons_zero, List.set_cons_succ]
            refine wpAnyH_take (i := 7) (oi := ?o7vb) (v := ?v7vb) ?hi7vb (by kernel_rfl) (by kernel_rfl) (by kernel_rfl) (fun _ _ _ h => h) ?y7vb (by assumption) ?r7vb
            case hi7vb => (simp only [List.getElem?_toArray, List.getElem?_cons_succ, List.getElem?_cons_zero]; rfl)
            case y7vb => (refine Or.inl ⟨by rfl, ?_⟩; intro w' hSw; (try dsimp only at hSw); go_simp; (try with_reducible rfl))
            try simp only [Act.put, List.setIfInBounds_toArray, List.set_cons_zero, List.set_cons_succ]
            refine wpAnyH_take (i := 8) (oi := ?o8vb) (v := ?v8vb) ?hi8vb (by kernel_rfl) (by kernel_rfl) (by kernel_rfl) (fun _ _ _ h => h) ?y8vb (by assumption) ?r8vb
            case hi8vb => (simp only [List.getElem?_toArray, List.getElem?_cons_succ, List.getElem?_cons_zero]; rfl)
            case y8vb => (refine Or.inl ⟨by rfl, ?_⟩; intro w' hSw; (try dsimp only at hSw); go_simp; (try with_reducible rfl))
            try simp only [Act.put, List.setIfInBounds_toArray, List.set_cons_zero, List.set_cons_succ]
            refine wpAnyH_take (i := 9) (oi := ?o9vb) (v := ?v9vb) ?hi9vb (by kernel_rfl) (by kernel_rfl) (by kernel_rfl) (fun _ _ _ h => h) ?y9vb (by assumption) ?r9vb
            case hi9vb => (simp only [List.getElem?_toArray, List.getElem?_cons_succ, List.getElem?_cons_zero]; rfl)
            case y9vb => (refine Or.inl ⟨by rfl, ?_⟩; intro w' hSw; (try dsimp only at hSw); go_simp; (try with_reducible rfl))
            try simp only [Act.put, List.setIfInBounds_toArray, List.set_cons_zero, List.set_cons_succ]
            refine wpAnyH_take (i := 10) (oi := ?o10vb) (v := ?v10vb) ?hi10vb (by kernel_rfl) (by kernel_rfl) (by kernel_rfl) (fun _ _ _ h => h) ?y10vb (by assumption) ?r10vb
            case hi10vb => (simp only [List.getElem?_toArray, List.getElem?_cons_succ, List.getElem?_cons_zero]; rfl)
            case y10vb => (refine Or.inl ⟨by rfl, ?_⟩; intro w' hSw; (try dsimp only at hSw); go_simp; (try with_reducible rfl))
            try simp only [Act.put, List.setIfInBounds_toArray, List.set_cons_zero, List.set_cons_succ]
            refine wpAnyH_ready (rs := [11]) (by kernel_rfl) (by simp) ?_
            refine AllReadyH.cons (o := ?o11vb) ?hi11vb ?hst11vb AllReadyH.nil
            case hi11vb => (simp only [List.getElem?_toArray, List.getElem?_cons_succ, List.getElem?_cons_zero]; rfl)
            intro K hK
            go_simp
            (go_at_call 22; (with_reducible refine (HTa.out.ho _ bel).mono ?_); rintro e w7 ⟨rfl, hb7⟩)
            go_wp2_with fail
            refine hK.out _ _ (⟨Bx.Blk.keep hHeld.1 hb7, Bx.keep_cell hb7 hHeld.2.1, Bx.keep_cell hb7 hHeld.2.2.1, Bx.keep_cell hb7 hHeld.2.2.2.1, Bx.keep_cell hb7 hHeld.2.2.2.2.1, Bx.keep_cell hb7 hHeld.2.2.2.2.2.1, Bx.keep_cell hb7 hHeld.2.2.2.2.2.2.1, Bx.keep_cell hb7 hHeld.2.2.2.2.2.2.2.1, Bx.keep_cell hb7 hHeld.2.2.2.2.2.2.2.2.1, Bx.keep_cell hb7 hHeld.2.2.2.2.2.2.2.2.2⟩) (fun hNew => ?_)
            clear hHeld
            have hHeld := hNew
            clear hNew hK K
            replace bel := Bx.then_below bel hb7
            clear hb7
            refine wpAnyH_take (i := 12) (oi := ?o12vb) (v := ?v12vb) ?hi12vb (by kernel_rfl) (by kernel_rfl) (by kernel_rfl) (fun _ _ _ h => h) ?y12vb (by assumption) ?r12vb
            case hi12vb => (simp only [List.getElem?_toArray, List.getElem?_cons_succ, List.getElem?_cons_zero]; rfl)
            case y12vb => (refine Or.inl ⟨by rfl, ?_⟩; intro w' hSw; (try dsimp only at hSw); go_simp; (try with_reducible rfl))
            try simp only [Act.put, List.setIfInBounds_toArray, List.set_cons_zero, List.set_cons_succ]
            refine wpAnyH_take (i := 13) (oi := ?o13vb) (v := ?v13vb) ?hi13vb (by kernel_rfl) (by kernel_rfl) (by kernel_rfl) (fun _ _ _ h => h) ?y13vb (by assumption) ?r13vb
            case hi13vb => (simp only [List.getElem?_toArray, List.getElem?_cons_succ, List.getElem?_cons_zero]; rfl)
            case y13vb => (refine Or.inl ⟨by rfl, ?_⟩; intro w' hSw; (try dsimp only at hSw); go_simp; (try with_reducible rfl))
            try simp only [Act.put, List.setIfInBounds_toArray, List.set_cons_zero, List.set_cons_succ]
            refine wpAnyH_take (i := 14) (oi := ?o14vb) (v := undef) ?hi14vb (by kernel_rfl) (by kernel_rfl) (by kernel_rfl) (fun _ _ _ h => h) ?y14vb (by assumption) ?r14vb
            case hi14vb => (simp only [List.getElem?_toArray, List.getElem?_cons_succ, List.getElem?_cons_zero]; rfl)
            case y14vb => exact Or.inr ⟨by rfl, rfl⟩
            try simp only [Act.put, List.setIfInBounds_toArray, List.set_cons_zero, List.set_cons_succ]
            refine wpAnyH_take (i := 15) (oi := ?o15vb) (v := undef) ?hi15vb (by kernel_rfl) (by kernel_rfl) (by kernel_rfl) (fun _ _ _ h => h) ?y15vb (by assumption) ?r15vb
            case hi15vb => (simp only [List.getElem?_toArray, List.getElem?_cons_succ, List.getElem?_cons_zero]; rfl)
            case y15vb => exact Or.inr ⟨by rfl, rfl⟩
            try simp only [Act.put, List.setIfInBounds_toArray, List.set_cons_zero, List.set_cons_succ]
            refine wpAnyH_take (i := 16) (oi := ?o16vb) (v := ?v16vb) ?hi16vb (by kernel_rfl) (by kernel_rfl) (by kernel_rfl) (fun _ _ _ h => h) ?y16vb (by assumption) ?r16vb
            case hi16vb => (simp only [List.getElem?_toArray, List.getElem?_cons_succ, List.getElem?_cons_zero]; rfl)
            case y16vb => (refine Or.inl ⟨by rfl, ?_⟩; intro w' hSw; (try dsimp only at hSw); go_simp; (try with_reducible rfl))
            try simp only [Act.put, List.setIfInBounds_toArray, List.set_cons_zero, List.set_cons_succ]
            refine wpAnyH_take (i := 17) (oi := ?o17vb) (v := ?v17vb) ?hi17vb (by kernel_rfl) (by kernel_rfl) (by kernel_rfl) (fun _ _ _ h => h) ?y17vb (by assumption) ?r17vb
            case hi17vb => (simp only [List.getElem?_toArray, List.getElem?_cons_succ, List.getElem?_cons_zero]; rfl)
            case y17vb => (refine Or.inl ⟨by rfl, ?_⟩; intro w' hSw; (try dsimp only at hSw); go_simp; (try with_reducible rfl))
            try simp only [Act.put, List.setIfInBounds_toArray, List.set_cons_zero, List.set_cons_succ]
            refine wpAnyH_take (i := 18) (oi := ?o18vb) (v := undef) ?hi18vb (by kernel_rfl) (by kernel_rfl) (by kernel_rfl) (fun _ _ _ h => h) ?y18vb (by assumption) ?r18vb
            case hi18vb => (simp only [List.getElem?_toArray, List.getElem?_cons_succ, List.getElem?_cons_zero]; rfl)
            case y18vb => exact Or.inr ⟨by rfl, rfl⟩
            try simp only [Act.put, List.setIfInBounds_toArray, List.set_cons_zero, List.set_cons_succ]
            refine wpAnyH_take (i := 19) (oi := ?o19vb) (v := undef) ?hi19vb (by kernel_rfl) (by kernel_rfl) (by kernel_rfl) (fun _ _ _ h => h) ?y19vb (by assumption) ?r19vb
            case hi19vb => (simp only [List.getElem?_toArray, List.getElem?_cons_succ, List.getElem?_cons_zero]; rfl)
            case y19vb => exact Or.inr ⟨by rfl, rfl⟩
            try simp only [Act.put, List.setIfInBounds_toArray, List.set_cons_zero, List.set_cons_succ]
            refine wpAnyH_take (i := 20) (oi := ?o20vb) (v := undef) ?hi20vb (by kernel_rfl) (by kernel_rfl) (by kernel_rfl) (fun _ _ _ h => h) ?y20vb (by assumption) ?r20vb
            case hi20vb => (simp only [List.getElem?_toArray, List.getElem?_cons_succ, List.getElem?_cons_zero]; rfl)
            case y20vb => exact Or.inr ⟨by rfl, rfl⟩
            try simp only [Act.put, List.setIfInBounds_toArray, List.set_cons_zero, List.set_cons_succ]
            refine wpAnyH_take (i := 21) (oi := ?o21vb) (v := undef) ?hi21vb (by kernel_rfl) (by kernel_rfl) (by kernel_rfl) (fun _ _ _ h => h) ?y21vb (by assumption) ?r21vb
            case hi21vb => (simp only [List.getElem?_toArray, List.getElem?_cons_succ, List.getElem?_cons_zero]; rfl)
            case y21vb => exact Or.inr ⟨by rfl, rfl⟩
            try simp only [Act.put, List.setIfInBounds_toArray, List.set_cons_zero, List.set_cons_succ]
            refine wpAnyH_take (i := 22) (oi := ?o22vb) (v := undef) ?hi22vb (by kernel_rfl) (by kernel_rfl) (by kernel_rfl) (fun _ _ _ h => h) ?y22vb (by assumption) ?r22vb
            case hi22vb => (simp only [List.getElem?_toArray, List.getElem?_cons_succ, List.getElem?_cons_zero]; rfl)
            case y22vb => exact Or.inr ⟨by rfl, rfl⟩
            try simp only [Act.put, List.setIfInBounds_toArray, List.set_cons_zero, List.set_cons_succ]
            refine wpAnyH_take (i := 23) (oi := ?o23vb) (v := undef) ?hi23vb (by kernel_rfl) (by kernel_rfl) (by kernel_rfl) (fun _ _ _ h => h) ?y23vb (by assumption) ?r23vb
            case hi23vb => (simp only [List.getElem?_toArray, List.getElem?_cons_succ, List.getElem?_cons_zero]; rfl)
            case y23vb => exact Or.inr ⟨by rfl, rfl⟩
            try simp only [Act.put, List.setIfInBounds_toArray, List.set_cons_zero, List.set_cons_succ]
            refine wpAnyH_take (i := 24) (oi := ?o24vb) (v := undef) ?hi24vb (by kernel_rfl) (by kernel_rfl) (by kernel_rfl) (fun _ _ _ h => h) ?y24vb (by assumption) ?r24vb
            case hi24vb => (simp only [List.getElem?_toArray, List.getElem?_cons_succ, List.getElem?_cons_zero]; rfl)
            case y24vb => exact Or.inr ⟨by rfl, rfl⟩
            try simp only [Act.put, List.setIfInBounds_toArray, List.set_cons_zero, List.set_cons_succ]
            refine wpAnyH_take (i := 25) (oi := ?o25vb) (v := undef) ?hi25vb (by kernel_rfl) (by kernel_rfl) (by kernel_rfl) (fun _ _ _ h => h) ?y25vb (by assumption) ?r25vb
            case hi25vb => (simp only [List.getElem?_toArray, List.getElem?_cons_succ, List.getElem?_cons_zero]; rfl)
            case y25vb => exact Or.inr ⟨by rfl, rfl⟩
            try simp only [Act.put, List.setIfInBounds_toArray, List.set_cons_zero, List.set_cons_succ]
            refine wpAnyH_take (i := 26) (oi := ?o26vb) (v := undef) ?hi26vb (by kernel_rfl) (by kernel_rfl) (by kernel_rfl) (fun _ _ _ h => h) ?y26vb (by assumption) ?r26vb
            case hi26vb => (simp only [List.getElem?_toArray, List.getElem?_cons_succ, List.getElem?_cons_zero]; rfl)
            case y26vb => exact Or.inr ⟨by rfl, rfl⟩
            try simp only [Act.put, List.setIfInBounds_toArray, List.set_cons_zero, List.set_cons_succ]
            refine wpAnyH_take (i := 27) (oi := ?o27vb) (v := undef) ?hi27vb (by kernel_rfl) (by kernel_rfl) (by kernel_rfl) (fun _ _ _ h => h) ?y27vb (by assumption) ?r27vb
            case hi27vb => (simp only [List.getElem?_toArray, List.getElem?_cons_succ, List.getElem?_cons_zero]; rfl)
            case y27vb => exact Or.inr ⟨by rfl, rfl⟩
            try simp only [Act.put, List.setIfInBounds_toArray, List.set_cons_zero, List.set_cons_succ]
            refine wpAnyH_take (i := 28) (oi := ?o28vb) (v := undef) ?hi28vb (by kernel_rfl) (by kernel_rfl) (by kernel_rfl) (fun _ _ _ h => h) ?y28vb (by assumption) ?r28vb
            case hi28vb => (simp only [List.getElem?_toArray, List.getElem?_cons_succ, List.getElem?_cons_zero]; rfl)
            case y28vb => exact Or.inr ⟨by rfl, rfl⟩
            try simp only [Act.put, List.setIfInBounds_toArray, List.set_cons_zero, List.set_cons_succ]
            refine wpAnyH_take (i := 29) (oi := ?o29vb) (v := undef) ?hi29vb (by kernel_rfl) (by kernel_rfl) (by kernel_rfl) (fun _ _ _ h => h) ?y29vb (by assumption) ?r29vb
            case hi29vb => (simp only [List.getElem?_toArray, List.getElem?_cons_succ, List.getElem?_cons_zero]; rfl)
            case y29vb => exact Or.inr ⟨by rfl, rfl⟩
            try simp only [Act.put, List.setIfInBounds_toArray, List.set_cons_zero, List.set_cons_succ]
            refine wpAnyH_take (i := 30) (oi := ?o30vb) (v := undef) ?hi30vb (by kernel_rfl) (by kernel_rfl) (by kernel_rfl) (fun _ _ _ h => h) ?y30vb (by assumption) ?r30vb
            case hi30vb => (simp only [List.getElem?_toArray, List.getElem?_cons_succ, List.getElem?_cons_zero]; rfl)
            case y30vb => exact Or.inr ⟨by rfl, rfl⟩
            try simp only [Act.put, List.setIfInBounds_toArray, List.set_cons_zero, List.set_cons_succ]
            refine wpAnyH_take (i := 31) (oi := ?o31vb) (v := ?v31vb) ?hi31vb (by kernel_rfl) (by kernel_rfl) (by kernel_rfl) (fun _ _ _ h => h) ?y31vb (by assumption) ?r31vb
            case hi31vb => (simp only [List.getElem?_toArray, List.getElem?_cons_succ, List.getElem?_cons_zero]; rfl)
            case y31vb => (refine Or.inl ⟨by rfl, ?_⟩; intro w' hSw; (try dsimp only at hSw); go_simp; (try with_reducible rfl))
            try simp only [Act.put, List.setIfInBounds_toArray, List.set_cons_zero, List.set_cons_succ]
            refine wpAnyH_done (by kernel_rfl) ?_ _
            refine NoPanic.normal ?_
            clear hHeld
            go_wp2_with fail
            refine (HAW.out _ bel).mono ?_; rintro e wv ⟨rfl, hb⟩
            replace bel := Bx.then_below bel hb
            go_wp2
            go_ret
            exact ⟨rfl, bel⟩
          | true =>
           cases there with
           | true =>
            as_aux_lemma =>
             go_wp2_with fail
             refine wp_region_noPanic ?_
             refine wp_region_held_drew (S := fun w' => Bx.Blk w' m7 (Mem.pc o k AP n c) ∧ w'.cell? ⟨w.heap.size + 1, 0, none⟩ = some (.int .i64 q) ∧ w'.cell? ⟨w.heap.size + 1, 2, none⟩ = some (.int .i64 op) ∧ w'.cell? ⟨m8, 0, none⟩ = some (.int .u64 d) ∧ w'.cell? ⟨m8, 1, none⟩ = some (.int .u64 s) ∧ w'.cell? ⟨m8, 2, none⟩ = some (.bool g) ∧ w'.cell? ⟨m8, 3, none⟩ = some (.int .i64 p) ∧ w'.cell? ⟨m8, 4, none⟩ = some (.int .i64 v) ∧ w'.cell? ⟨m8, 5, none⟩ = some (.int .i64 t) ∧ w'.cell? ⟨m8, 6, none⟩ = some (.string X)) (by kernel_rfl) (by exact ⟨B1.out, c0_0, c0_2, c2_0, c2_1, c2_2, c2_3, c2_4, c2_5, c2_6⟩) (fun hHeld => ?_)
             replace bel := Bx.bel_drewn bel
             refine wpAnyH_take (i := 0) (oi := ?o0vc) (v := ?v0vc) ?hi0vc (by kernel_rfl) (by kernel_rfl) (by kernel_rfl) (fun _ _ _ h => h) ?y0vc (by assumption) ?r0vc
             case hi0vc => (simp only [List.getElem?_toArray, List.getElem?_cons_zero]; rfl)
             case y0vc => (refine Or.inl ⟨by rfl, ?_⟩; intro w' hSw; (try dsimp only at hSw); go_simp; (try with_reducible rfl))
             try simp only [Act.put, List.setIfInBounds_toArray, List.set_cons_zero, List.set_cons_succ]
             refine wpAnyH_take (i := 1) (oi := ?o1vc) (v := ?v1vc) ?hi1vc (by kernel_rfl) (by kernel_rfl) (by kernel_rfl) (fun _ _ _ h => h) ?y1vc (by assumption) ?r1vc
             case hi1vc => (simp only [List.getElem?_toArray, List.getElem?_cons_succ, List.getElem?_cons_zero]; rfl)
             case y1vc => (refine Or.inl ⟨by rfl, ?_⟩; intro w' hSw; (try dsimp only at hSw); go_simp; (try with_reducible rfl))
             try simp only [Act.put, List.setIfInBounds_toArray, List.set_cons_zero, List.set_cons_succ]
             refine wpAnyH_take (i := 2) (oi := ?o2vc) (v := ?v2vc) ?hi2vc (by kernel_rfl) (by kernel_rfl) (by kernel_rfl) (fun _ _ _ h => h) ?y2vc (by assumption) ?r2vc
             case hi2vc => (simp only [List.getElem?_toArray, List.getElem?_cons_succ, List.getElem?_cons_zero]; rfl)
             case y2vc => (refine Or.inl ⟨by rfl, ?_⟩; intro w' hSw; (try dsimp only at hSw); go_simp; (try with_reducible rfl))
             try simp only [Act.put, List.setIfInBounds_toArray, List.set_cons_zero, List.set_cons_succ]
             refine wpAnyH_ready (rs := [3]) (by kernel_rfl) (by simp) ?_
             refine AllReadyH.cons (o := ?o3vc) ?hi3vc ?hst3vc AllReadyH.nil
             case hi3vc => (simp only [List.getElem?_toArray, List.getElem?_cons_succ, List.getElem?_cons_zero]; rfl)
             intro K hK
             go_simp
             (go_at_call 12; (with_reducible refine (HTa.out.kd _ bel).mono ?_); rintro e w6 ⟨rfl, hb6⟩)
             go_wp2_with fail
             refine hK.out _ _ (⟨Bx.Blk.keep hHeld.1 hb6, Bx.keep_cell hb6 hHeld.2.1, Bx.keep_cell hb6 hHeld.2.2.1, Bx.keep_cell hb6 hHeld.2.2.2.1, Bx.keep_cell hb6 hHeld.2.2.2.2.1, Bx.keep_cell hb6 hHeld.2.2.2.2.2.1, Bx.keep_cell hb6 hHeld.2.2.2.2.2.2.1, Bx.keep_cell hb6 hHeld.2.2.2.2.2.2.2.1, Bx.keep_cell hb6 hHeld.2.2.2.2.2.2.2.2.1, Bx.keep_cell hb6 hHeld.2.2.2.2.2.2.2.2.2⟩) (fun hNew => ?_)
             clear hHeld
             have hHeld := hNew
             clear hNew hK K
             replace bel := Bx.then_below bel hb6
             clear hb6
             refine wpAnyH_take (i := 4) (oi := ?o4vc) (v := ?v4vc) ?hi4vc (by kernel_rfl) (by kernel_rfl) (by kernel_rfl) (fun _ _ _ h => h) ?y4vc (by assumption) ?r4vc
             case hi4vc => (simp only [List.getElem?_toArray, List.getElem?_cons_succ, List.getElem?_cons_zero]; rfl)
             case y4vc => (refine Or.inl ⟨by rfl, ?_⟩; intro w' hSw; (try dsimp only at hSw); go_simp; (try with_reducible rfl))
             try simp only [Act.put, List.setIfInBounds_toArray, List.set_cons_zero, List.set_cons_succ]
             refine wpAnyH_take (i := 5) (oi := ?o5vc) (v := ?v5vc) ?hi5vc (by kernel_rfl) (by kernel_rfl) (by kernel_rfl) (fun _ _ _ h => h) ?y5vc (by assumption) ?r5vc
             case hi5vc => (simp only [List.getElem?_toArray, List.getElem?_cons_succ, List.getElem?_cons_zero]; rfl)
             case y5vc => (refine Or.inl ⟨by rfl, ?_⟩; intro w' hSw; (try dsimp only at hSw); go_simp; (try with_reducible rfl))
             try simp only [Act.put, List.setIfInBounds_toArray, List.set_cons_zero, List.set_cons_succ]
             refine wpAnyH_take (i := 6) (oi := ?o6vc) (v := ?v6vc) ?hi6vc (by kernel_rfl) (by kernel_rfl) (by kernel_rfl) (fun _ _ _ h => h) ?y6vc (by assumption) ?r6vc
             case hi6vc => (simp only [List.getElem?_toArray, List.getElem?_cons_succ, List.getElem?_cons_zero]; rfl)
             case y6vc => (refine Or.inl ⟨by rfl, ?_⟩; intro w' hSw; (try dsimp only at hSw); go_simp; (try with_reducible rfl))
             try simp only [Act.put, List.setIfInBounds_toArray, List.set_cons_zero, List.set_cons_succ]
             refine wpAnyH_take (i := 7) (oi := ?o7vc) (v := ?v7vc) ?hi7vc (by kernel_rfl) (by kernel_rfl) (by kernel_rfl) (fun _ _ _ h => h) ?y7vc (by assumption) ?r7vc
             case hi7vc => (simp only [List.getElem?_toArray, List.getElem?_cons_succ, List.getElem?_cons_zero]; rfl)
             case y7vc => (refine Or.inl ⟨by rfl, ?_⟩; intro w' hSw; (try dsimp only at hSw); go_simp; (try with_reducible rfl))
             try simp only [Act.put, List.setIfInBounds_toArray, List.set_cons_zero, List.set_cons_succ]
             refine wpAnyH_take (i := 8) (oi := ?o8vc) (v := ?v8vc) ?hi8vc (by kernel_rfl) (by kernel_rfl) (by kernel_rfl) (fun _ _ _ h => h) ?y8vc (by assumption) ?r8vc
             case hi8vc => (simp only [List.getElem?_toArray, List.getElem?_cons_succ, List.getElem?_cons_zero]; rfl)
             case y8vc => (refine Or.inl ⟨by rfl, ?_⟩; intro w' hSw; (try dsimp only at hSw); go_simp; (try with_reducible rfl))
             try simp only [Act.put, List.setIfInBounds_toArray, List.set_cons_zero, List.set_cons_succ]
             refine wpAnyH_take (i := 9) (oi := ?o9vc) (v := ?v9vc) ?hi9vc (by kernel_rfl) (by kernel_rfl) (by kernel_rfl) (fun _ _ _ h => h) ?y9vc (by assumption) ?r9vc
             case hi9vc => (simp only [List.getElem?_toArray, List.getElem?_cons_succ, List.getElem?_cons_zero]; rfl)
             case y9vc => (refine Or.inl ⟨by rfl, ?_⟩; intro w' hSw; (try dsimp only at hSw); go_simp; (try with_reducible rfl))
             try simp only [Act.put, List.setIfInBounds_toArray, List.set_cons_zero, List.set_cons_succ]
             refine wpAnyH_take (i := 10) (oi := ?o10vc) (v := ?v10vc) ?hi10vc (by kernel_rfl) (by kernel_rfl) (by kernel_rfl) (fun _ _ _ h => h) ?y10vc (by assumption) ?r10vc
             case hi10vc => (simp only [List.getElem?_toArray, List.getElem?_cons_succ, List.getElem?_cons_zero]; rfl)
             case y10vc => (refine Or.inl ⟨by rfl, ?_⟩; intro w' hSw; (try dsimp only at hSw); go_simp; (try with_reducible rfl))
             try simp only [Act.put, List.setIfInBounds_toArray, List.set_cons_zero, List.set_cons_succ]
             refine wpAnyH_ready (rs := [11]) (by kernel_rfl) (by simp) ?_
             refine AllReadyH.cons (o := ?o11vc) ?hi11vc ?hst11vc AllReadyH.nil
             case hi11vc => (simp only [List.getElem?_toArray, List.getElem?_cons_succ, List.getElem?_cons_zero]; rfl)
             intro K hK
             go_simp
             (go_at_call 22; (with_reducible refine (HTa.out.ho _ bel).mono ?_); rintro e w7 ⟨rfl, hb7⟩)
             go_wp2_with fail
             refine hK.out _ _ (⟨Bx.Blk.keep hHeld.1 hb7, Bx.keep_cell hb7 hHeld.2.1, Bx.keep_cell hb7 hHeld.2.2.1, Bx.keep_cell hb7 hHeld.2.2.2.1, Bx.keep_cell hb7 hHeld.2.2.2.2.1, Bx.keep_cell hb7 hHeld.2.2.2.2.2.1, Bx.keep_cell hb7 hHeld.2.2.2.2.2.2.1, Bx.keep_cell hb7 hHeld.2.2.2.2.2.2.2.1, Bx.keep_cell hb7 hHeld.2.2.2.2.2.2.2.2.1, Bx.keep_cell hb7 hHeld.2.2.2.2.2.2.2.2.2⟩) (fun hNew => ?_)
             clear hHeld
             have hHeld := hNew
             clear hNew hK K
             replace bel := Bx.then_below bel hb7
             clear hb7
             refine wpAnyH_take (i := 12) (oi := ?o12vc) (v := ?v12vc) ?hi12vc (by kernel_rfl) (by kernel_rfl) (by kernel_rfl) (fun _ _ _ h => h) ?y12vc (by assumption) ?r12vc
             case hi12vc => (simp only [List.getElem?_toArray, List.getElem?_cons_succ, List.getElem?_cons_zero]; rfl)
             case y12vc => (refine Or.inl ⟨by rfl, ?_⟩; intro w' hSw; (try dsimp only at hSw); go_simp; (try with_reducible rfl))
             try simp only [Act.put, List.setIfInBounds_toArray, List.set_cons_zero, List.set_cons_succ]
             refine wpAnyH_take (i := 13) (oi := ?o13vc) (v := ?v13vc) ?hi13vc (by kernel_rfl) (by kernel_rfl) (by kernel_rfl) (fun _ _ _ h => h) ?y13vc (by assumption) ?r13vc
             case hi13vc => (simp only [List.getElem?_toArray, List.getElem?_cons_succ, List.getElem?_cons_zero]; rfl)
             case y13vc => (refine Or.inl ⟨by rfl, ?_⟩; intro w' hSw; (try dsimp only at hSw); go_simp; (try with_reducible rfl))
             try simp only [Act.put, List.setIfInBounds_toArray, List.set_cons_zero, List.set_cons_succ]
             refine wpAnyH_take (i := 14) (oi := ?o14vc) (v := ?v14vc) ?hi14vc (by kernel_rfl) (by kernel_rfl) (by kernel_rfl) (fun _ _ _ h => h) ?y14vc (by assumption) ?r14vc
             case hi14vc => (simp only [List.getElem?_toArray, List.getElem?_cons_succ, List.getElem?_cons_zero]; rfl)
             case y14vc => (refine Or.inl ⟨by rfl, ?_⟩; intro w' hSw; (try dsimp only at hSw); go_simp; (try with_reducible rfl))
             try simp only [Act.put, List.setIfInBounds_toArray, List.set_cons_zero, List.set_cons_succ]
             refine wpAnyH_take (i := 15) (oi := ?o15vc) (v := ?v15vc) ?hi15vc (by kernel_rfl) (by kernel_rfl) (by kernel_rfl) (fun _ _ _ h => h) ?y15vc (by assumption) ?r15vc
             case hi15vc => (simp only [List.getElem?_toArray, List.getElem?_cons_succ, List.getElem?_cons_zero]; rfl)
             case y15vc => (refine Or.inl ⟨by rfl, ?_⟩; intro w' hSw; (try dsimp only at hSw); go_simp; (try with_reducible rfl))
             try simp only [Act.put, List.setIfInBounds_toArray, List.set_cons_zero, List.set_cons_succ]
             refine wpAnyH_take (i := 16) (oi := ?o16vc) (v := ?v16vc) ?hi16vc (by kernel_rfl) (by kernel_rfl) (by kernel_rfl) (fun _ _ _ h => h) ?y16vc (by assumption) ?r16vc
             case hi16vc => (simp only [List.getElem?_toArray, List.getElem?_cons_succ, List.getElem?_cons_zero]; rfl)
             case y16vc => (refine Or.inl ⟨by rfl, ?_⟩; intro w' hSw; (try dsimp only at hSw); go_simp; (try with_reducible rfl))
             try simp only [Act.put, List.setIfInBounds_toArray, List.set_cons_zero, List.set_cons_succ]
             refine wpAnyH_take (i := 17) (oi := ?o17vc) (v := ?v17vc) ?hi17vc (by kernel_rfl) (by kernel_rfl) (by kernel_rfl) (fun _ _ _ h => h) ?y17vc (by assumption) ?r17vc
             case hi17vc => (simp only [List.getElem?_toArray, List.getElem?_cons_succ, List.getElem?_cons_zero]; rfl)
             case y17vc => (refine Or.inl ⟨by rfl, ?_⟩; intro w' hSw; (try dsimp only at hSw); go_simp; (try with_reducible rfl))
             try simp only [Act.put, List.setIfInBounds_toArray, List.set_cons_zero, List.set_cons_succ]
             refine wpAnyH_take (i := 18) (oi := ?o18vc) (v := undef) ?hi18vc (by kernel_rfl) (by kernel_rfl) (by kernel_rfl) (fun _ _ _ h => h) ?y18vc (by assumption) ?r18vc
             case hi18vc => (simp only [List.getElem?_toArray, List.getElem?_cons_succ, List.getElem?_cons_zero]; rfl)
             case y18vc => exact Or.inr ⟨by rfl, rfl⟩
             try simp only [Act.put, List.setIfInBounds_toArray, List.set_cons_zero, List.set_cons_succ]
             refine wpAnyH_take (i := 19) (oi := ?o19vc) (v := undef) ?hi19vc (by kernel_rfl) (by kernel_rfl) (by kernel_rfl) (fun _ _ _ h => h) ?y19vc (by assumption) ?r19vc
             case hi19vc => (simp only [List.getElem?_toArray, List.getElem?_cons_succ, List.getElem?_cons_zero]; rfl)
             case y19vc => exact Or.inr ⟨by rfl, rfl⟩
             try simp only [Act.put, List.setIfInBounds_toArray, List.set_cons_zero, List.set_cons_succ]
             refine wpAnyH_take (i := 20) (oi := ?o20vc) (v := undef) ?hi20vc (by kernel_rfl) (by kernel_rfl) (by kernel_rfl) (fun _ _ _ h => h) ?y20vc (by assumption) ?r20vc
             case hi20vc => (simp only [List.getElem?_toArray, List.getElem?_cons_succ, List.getElem?_cons_zero]; rfl)
             case y20vc => exact Or.inr ⟨by rfl, rfl⟩
             try simp only [Act.put, List.setIfInBounds_toArray, List.set_cons_zero, List.set_cons_succ]
             refine wpAnyH_take (i := 21) (oi := ?o21vc) (v := undef) ?hi21vc (by kernel_rfl) (by kernel_rfl) (by kernel_rfl) (fun _ _ _ h => h) ?y21vc (by assumption) ?r21vc
             case hi21vc => (simp only [List.getElem?_toArray, List.getElem?_cons_succ, List.getElem?_cons_zero]; rfl)
             case y21vc => exact Or.inr ⟨by rfl, rfl⟩
             try simp only [Act.put, List.setIfInBounds_toArray, List.set_cons_zero, List.set_cons_succ]
             refine wpAnyH_take (i := 22) (oi := ?o22vc) (v := undef) ?hi22vc (by kernel_rfl) (by kernel_rfl) (by kernel_rfl) (fun _ _ _ h => h) ?y22vc (by assumption) ?r22vc
             case hi22vc => (simp only [List.getElem?_toArray, List.getElem?_cons_succ, List.getElem?_cons_zero]; rfl)
             case y22vc => exact Or.inr ⟨by rfl, rfl⟩
             try simp only [Act.put, List.setIfInBounds_toArray, List.set_cons_zero, List.set_cons_succ]
             refine wpAnyH_take (i := 23) (oi := ?o23vc) (v := undef) ?hi23vc (by kernel_rfl) (by kernel_rfl) (by kernel_rfl) (fun _ _ _ h => h) ?y23vc (by assumption) ?r23vc
             case hi23vc => (simp only [List.getElem?_toArray, List.getElem?_cons_succ, List.getElem?_cons_zero]; rfl)
             case y23vc => exact Or.inr ⟨by rfl, rfl⟩
             try simp only [Act.put, List.setIfInBounds_toArray, List.set_cons_zero, List.set_cons_succ]
             refine wpAnyH_take (i := 24) (oi := ?o24vc) (v := undef) ?hi24vc (by kernel_rfl) (by kernel_rfl) (by kernel_rfl) (fun _ _ _ h => h) ?y24vc (by assumption) ?r24vc
             case hi24vc => (simp only [List.getElem?_toArray, List.getElem?_cons_succ, List.getElem?_cons_zero]; rfl)
             case y24vc => exact Or.inr ⟨by rfl, rfl⟩
             try simp only [Act.put, List.setIfInBounds_toArray, List.set_cons_zero, List.set_cons_succ]
             refine wpAnyH_take (i := 25) (oi := ?o25vc) (v := undef) ?hi25vc (by kernel_rfl) (by kernel_rfl) (by kernel_rfl) (fun _ _ _ h => h) ?y25vc (by assumption) ?r25vc
             case hi25vc => (simp only [List.getElem?_toArray, List.getElem?_cons_succ, List.getElem?_cons_zero]; rfl)
             case y25vc => exact Or.inr ⟨by rfl, rfl⟩
             try simp only [Act.put, List.setIfInBounds_toArray, List.set_cons_zero, List.set_cons_succ]
             refine wpAnyH_take (i := 26) (oi := ?o26vc) (v := undef) ?hi26vc (by kernel_rfl) (by kernel_rfl) (by kernel_rfl) (fun _ _ _ h => h) ?y26vc (by assumption) ?r26vc
             case hi26vc => (simp only [List.getElem?_toArray, List.getElem?_cons_succ, List.getElem?_cons_zero]; rfl)
             case y26vc => exact Or.inr ⟨by rfl, rfl⟩
             try simp only [Act.put, List.setIfInBounds_toArray, List.set_cons_zero, List.set_cons_succ]
             refine wpAnyH_take (i := 27) (oi := ?o27vc) (v := undef) ?hi27vc (by kernel_rfl) (by kernel_rfl) (by kernel_rfl) (fun _ _ _ h => h) ?y27vc (by assumption) ?r27vc
             case hi27vc => (simp only [List.getElem?_toArray, List.getElem?_cons_succ, List.getElem?_cons_zero]; rfl)
             case y27vc => exact Or.inr ⟨by rfl, rfl⟩
             try simp only [Act.put, List.setIfInBounds_toArray, List.set_cons_zero, List.set_cons_succ]
             refine wpAnyH_take (i := 28) (oi := ?o28vc) (v := undef) ?hi28vc (by kernel_rfl) (by kernel_rfl) (by kernel_rfl) (fun _ _ _ h => h) ?y28vc (by assumption) ?r28vc
             case hi28vc => (simp only [List.getElem?_toArray, List.getElem?_cons_succ, List.getElem?_cons_zero]; rfl)
             case y28vc => exact Or.inr ⟨by rfl, rfl⟩
             try simp only [Act.put, List.setIfInBounds_toArray, List.set_cons_zero, List.set_cons_succ]
             refine wpAnyH_take (i := 29) (oi := ?o29vc) (v := undef) ?hi29vc (by kernel_rfl) (by kernel_rfl) (by kernel_rfl) (fun _ _ _ h => h) ?y29vc (by assumption) ?r29vc
             case hi29vc => (simp only [List.getElem?_toArray, List.getElem?_cons_succ, List.getElem?_cons_zero]; rfl)
             case y29vc => exact Or.inr ⟨by rfl, rfl⟩
             try simp only [Act.put, List.setIfInBounds_toArray, List.set_cons_zero, List.set_cons_succ]
             refine wpAnyH_take (i := 30) (oi := ?o30vc) (v := undef) ?hi30vc (by kernel_rfl) (by kernel_rfl) (by kernel_rfl) (fun _ _ _ h => h) ?y30vc (by assumption) ?r30vc
             case hi30vc => (simp only [List.getElem?_toArray, List.getElem?_cons_succ, List.getElem?_cons_zero]; rfl)
             case y30vc => exact Or.inr ⟨by rfl, rfl⟩
             try simp only [Act.put, List.setIfInBounds_toArray, List.set_cons_zero, List.set_cons_succ]
             refine wpAnyH_take (i := 31) (oi := ?o31vc) (v := ?v31vc) ?hi31vc (by kernel_rfl) (by kernel_rfl) (by kernel_rfl) (fun _ _ _ h => h) ?y31vc (by assumption) ?r31vc
             case hi31vc => (simp only [List.getElem?_toArray, List.getElem?_cons_succ, List.getElem?_cons_zero]; rfl)
             case y31vc => (refine Or.inl ⟨by rfl, ?_⟩; intro w' hSw; (try dsimp only at hSw); go_simp; (try with_reducible rfl))
             try simp only [Act.put, List.setIfInBounds_toArray, List.set_cons_zero, List.set_cons_succ]
             refine wpAnyH_done (by kernel_rfl) ?_ _
             refine NoPanic.normal ?_
             clear hHeld
             go_wp2_with fail
             refine (HAW.out _ bel).mono ?_; rintro e wv ⟨rfl, hb⟩
             replace bel := Bx.then_below bel hb
             go_wp2
             go_ret
             exact ⟨rfl, bel⟩
           | false =>
            obtain hN := HTa.out.num rfl rfl rfl rfl
            subst hN
            have eN : ((outs.length : Int) != (outs.length : Int)) = false := by simp
            have eN2 : ((outs.length : Int) == (outs.length : Int)) = true := by simp
            as_aux_lemma =>
             go_wp2_with fail
             refine wp_region_noPanic ?_
             refine wp_region_held_drew (S := fun w' => Bx.Blk w' m7 (Mem.pc o k AP n c) ∧ w'.cell? ⟨w.heap.size + 1, 0, none⟩ = some (.int .i64 q) ∧ w'.cell? ⟨w.heap.size + 1, 2, none⟩ = some (.int .i64 op) ∧ w'.cell? ⟨m8, 0, none⟩ = some (.int .u64 d) ∧ w'.cell? ⟨m8, 1, none⟩ = some (.int .u64 s) ∧ w'.cell? ⟨m8, 2, none⟩ = some (.bool g) ∧ w'.cell? ⟨m8, 3, none⟩ = some (.int .i64 p) ∧ w'.cell? ⟨m8, 4, none⟩ = some (.int .i64 v) ∧ w'.cell? ⟨m8, 5, none⟩ = some (.int .i64 t) ∧ w'.cell? ⟨m8, 6, none⟩ = some (.string X)) (by kernel_rfl) (by exact ⟨B1.out, c0_0, c0_2, c2_0, c2_1, c2_2, c2_3, c2_4, c2_5, c2_6⟩) (fun hHeld => ?_)
             replace bel := Bx.bel_drewn bel
             refine wpAnyH_take (i := 0) (oi := ?o0vd) (v := ?v0vd) ?hi0vd (by kernel_rfl) (by kernel_rfl) (by kernel_rfl) (fun _ _ _ h => h) ?y0vd (by assumption) ?r0vd
             case hi0vd => (simp only [List.getElem?_toArray, List.getElem?_cons_zero]; rfl)
             case y0vd => (refine Or.inl ⟨by rfl, ?_⟩; intro w' hSw; (try dsimp only at hSw); go_simp; (try with_reducible rfl))
             try simp only [Act.put, List.setIfInBounds_toArray, List.set_cons_zero, List.set_cons_succ]
             refine wpAnyH_take (i := 1) (oi := ?o1vd) (v := ?v1vd) ?hi1vd (by kernel_rfl) (by kernel_rfl) (by kernel_rfl) (fun _ _ _ h => h) ?y1vd (by assumption) ?r1vd
             case hi1vd => (simp only [List.getElem?_toArray, List.getElem?_cons_succ, List.getElem?_cons_zero]; rfl)
             case y1vd => (refine Or.inl ⟨by rfl, ?_⟩; intro w' hSw; (try dsimp only at hSw); go_simp; (try with_reducible rfl))
             try simp only [Act.put, List.setIfInBounds_toArray, List.set_cons_zero, List.set_cons_succ]
             refine wpAnyH_take (i := 2) (oi := ?o2vd) (v := ?v2vd) ?hi2vd (by kernel_rfl) (by kernel_rfl) (by kernel_rfl) (fun _ _ _ h => h) ?y2vd (by assumption) ?r2vd
             case hi2vd => (simp only [List.getElem?_toArray, List.getElem?_cons_succ, List.getElem?_cons_zero]; rfl)
             case y2vd => (refine Or.inl ⟨by rfl, ?_⟩; intro w' hSw; (try dsimp only at hSw); go_simp; (try with_reducible rfl))
             try simp only [Act.put, List.setIfInBounds_toArray, List.set_cons_zero, List.set_cons_succ]
             refine wpAnyH_ready (rs := [3]) (by kernel_rfl) (by simp) ?_
             refine AllReadyH.cons (o := ?o3vd) ?hi3vd ?hst3vd AllReadyH.nil
             case hi3vd => (simp only [List.getElem?_toArray, List.getElem?_cons_succ, List.getElem?_cons_zero]; rfl)
             intro K hK
             go_simp
             (go_at_call 12; (with_reducible refine (HTa.out.kd _ bel).mono ?_); rintro e w6 ⟨rfl, hb6⟩)
             go_wp2_with fail
             refine hK.out _ _ (⟨Bx.Blk.keep hHeld.1 hb6, Bx.keep_cell hb6 hHeld.2.1, Bx.keep_cell hb6 hHeld.2.2.1, Bx.keep_cell hb6 hHeld.2.2.2.1, Bx.keep_cell hb6 hHeld.2.2.2.2.1, Bx.keep_cell hb6 hHeld.2.2.2.2.2.1, Bx.keep_cell hb6 hHeld.2.2.2.2.2.2.1, Bx.keep_cell hb6 hHeld.2.2.2.2.2.2.2.1, Bx.keep_cell hb6 hHeld.2.2.2.2.2.2.2.2.1, Bx.keep_cell hb6 hHeld.2.2.2.2.2.2.2.2.2⟩) (fun hNew => ?_)
             clear hHeld
             have hHeld := hNew
             clear hNew hK K
             replace bel := Bx.then_below bel hb6
             clear hb6
             refine wpAnyH_take (i := 4) (oi := ?o4vd) (v := ?v4vd) ?hi4vd (by kernel_rfl) (by kernel_rfl) (by kernel_rfl) (fun _ _ _ h => h) ?y4vd (by assumption) ?r4vd
             case hi4vd => (simp only [List.getElem?_toArray, List.getElem?_cons_succ, List.getElem?_cons_zero]; rfl)
             case y4vd => (refine Or.inl ⟨by rfl, ?_⟩; intro w' hSw; (try dsimp only at hSw); go_simp; (try with_reducible rfl))
             try simp only [Act.put, List.setIfInBounds_toArray, List.set_cons_zero, List.set_cons_succ]
             refine wpAnyH_take (i := 5) (oi := ?o5vd) (v := ?v5vd) ?hi5vd (by kernel_rfl) (by kernel_rfl) (by kernel_rfl) (fun _ _ _ h => h) ?y5vd (by assumption) ?r5vd
             case hi5vd => (simp only [List.getElem?_toArray, List.getElem?_cons_succ, List.getElem?_cons_zero]; rfl)
             case y5vd => (refine Or.inl ⟨by rfl, ?_⟩; intro w' hSw; (try dsimp only at hSw); go_simp; (try with_reducible rfl))
             try simp only [Act.put, List.setIfInBounds_toArray, List.set_cons_zero, List.set_cons_succ]
             refine wpAnyH_take (i := 6) (oi := ?o6vd) (v := ?v6vd) ?hi6vd (by kernel_rfl) (by kernel_rfl) (by kernel_rfl) (fun _ _ _ h => h) ?y6vd (by assumption) ?r6vd
             case hi6vd => (simp only [List.getElem?_toArray, List.getElem?_cons_succ, List.getElem?_cons_zero]; rfl)
             case y6vd => (refine Or.inl ⟨by rfl, ?_⟩; intro w' hSw; (try dsimp only at hSw); go_simp; (try with_reducible rfl))
             try simp only [Act.put, List.setIfInBounds_toArray, List.set_cons_zero, List.set_cons_succ]
             refine wpAnyH_take (i := 7) (oi := ?o7vd) (v := ?v7vd) ?hi7vd (by kernel_rfl) (by kernel_rfl) (by kernel_rfl) (fun _ _ _ h => h) ?y7vd (by assumption) ?r7vd
             case hi7vd => (simp only [List.getElem?_toArray, List.getElem?_cons_succ, List.getElem?_cons_zero]; rfl)
             case y7vd => (refine Or.inl ⟨by rfl, ?_⟩; intro w' hSw; (try dsimp only at hSw); go_simp; (try with_reducible rfl))
             try simp only [Act.put, List.setIfInBounds_toArray, List.set_cons_zero, List.set_cons_succ]
             refine wpAnyH_take (i := 8) (oi := ?o8vd) (v := ?v8vd) ?hi8vd (by kernel_rfl) (by kernel_rfl) (by kernel_rfl) (fun _ _ _ h => h) ?y8vd (by assumption) ?r8vd
             case hi8vd => (simp only [List.getElem?_toArray, List.getElem?_cons_succ, List.getElem?_cons_zero]; rfl)
             case y8vd => (refine Or.inl ⟨by rfl, ?_⟩; intro w' hSw; (try dsimp only at hSw); go_simp; (try with_reducible rfl))
             try simp only [Act.put, List.setIfInBounds_toArray, List.set_cons_zero, List.set_cons_succ]
             refine wpAnyH_take (i := 9) (oi := ?o9vd) (v := ?v9vd) ?hi9vd (by kernel_rfl) (by kernel_rfl) (by kernel_rfl) (fun _ _ _ h => h) ?y9vd (by assumption) ?r9vd
             case hi9vd => (simp only [List.getElem?_toArray, List.getElem?_cons_succ, List.getElem?_cons_zero]; rfl)
             case y9vd => (refine Or.inl ⟨by rfl, ?_⟩; intro w' hSw; (try dsimp only at hSw); go_simp; (try with_reducible rfl))
             try simp only [Act.put, List.setIfInBounds_toArray, List.set_cons_zero, List.set_cons_succ]
             refine wpAnyH_take (i := 10) (oi := ?o10vd) (v := ?v10vd) ?hi10vd (by kernel_rfl) (by kernel_rfl) (by kernel_rfl) (fun _ _ _ h => h) ?y10vd (by assumption) ?r10vd
             case hi10vd => (simp only [List.getElem?_toArray, List.getElem?_cons_succ, List.getElem?_cons_zero]; rfl)
             case y10vd => (refine Or.inl ⟨by rfl, ?_⟩; intro w' hSw; (try dsimp only at hSw); go_simp; (try with_reducible rfl))
             try simp only [Act.put, List.setIfInBounds_toArray, List.set_cons_zero, List.set_cons_succ]
             refine wpAnyH_ready (rs := [11]) (by kernel_rfl) (by simp) ?_
             refine AllReadyH.cons (o := ?o11vd) ?hi11vd ?hst11vd AllReadyH.nil
             case hi11vd => (simp only [List.getElem?_toArray, List.getElem?_cons_succ, List.getElem?_cons_zero]; rfl)
             intro K hK
             go_simp
             (go_at_call 22; (with_reducible refine (HTa.out.ho _ bel).mono ?_); rintro e w7 ⟨rfl, hb7⟩)
             go_wp2_with fail
             refine hK.out _ _ (⟨Bx.Blk.keep hHeld.1 hb7, Bx.keep_cell hb7 hHeld.2.1, Bx.keep_cell hb7 hHeld.2.2.1, Bx.keep_cell hb7 hHeld.2.2.2.1, Bx.keep_cell hb7 hHeld.2.2.2.2.1, Bx.keep_cell hb7 hHeld.2.2.2.2.2.1, Bx.keep_cell hb7 hHeld.2.2.2.2.2.2.1, Bx.keep_cell hb7 hHeld.2.2.2.2.2.2.2.1, Bx.keep_cell hb7 hHeld.2.2.2.2.2.2.2.2.1, Bx.keep_cell hb7 hHeld.2.2.2.2.2.2.2.2.2⟩) (fun hNew => ?_)
             clear hHeld
             have hHeld := hNew
             clear hNew hK K
             replace bel := Bx.then_below bel hb7
             clear hb7
             refine wpAnyH_take (i := 12) (oi := ?o12vd) (v := ?v12vd) ?hi12vd (by kernel_rfl) (by kernel_rfl) (by kernel_rfl) (fun _ _ _ h => h) ?y12vd (by assumption) ?r12vd
             case hi12vd => (simp only [List.getElem?_toArray, List.getElem?_cons_succ, List.getElem?_cons_zero]; rfl)
             case y12vd => (refine Or.inl ⟨by rfl, ?_⟩; intro w' hSw; (try dsimp only at hSw); go_simp; (try with_reducible rfl))
             try simp only [Act.put, List.setIfInBounds_toArray, List.set_cons_zero, List.set_cons_succ]
             refine wpAnyH_take (i := 13) (oi := ?o13vd) (v := ?v13vd) ?hi13vd (by kernel_rfl) (by kernel_rfl) (by kernel_rfl) (fun _ _ _ h => h) ?y13vd (by assumption) ?r13vd
             case hi13vd => (simp only [List.getElem?_toArray, List.getElem?_cons_succ, List.getElem?_cons_zero]; rfl)
             case y13vd => (refine Or.inl ⟨by rfl, ?_⟩; intro w' hSw; (try dsimp only at hSw); go_simp; (try with_reducible rfl))
             try simp only [Act.put, List.setIfInBounds_toArray, List.set_cons_zero, List.set_cons_succ]
             refine wpAnyH_take (i := 14) (oi := ?o14vd) (v := ?v14vd) ?hi14vd (by kernel_rfl) (by kernel_rfl) (by kernel_rfl) (fun _ _ _ h => h) ?y14vd (by assumption) ?r14vd
             case hi14vd => (simp only [List.getElem?_toArray, List.getElem?_cons_succ, List.getElem?_cons_zero]; rfl)
             case y14vd => (refine Or.inl ⟨by rfl, ?_⟩; intro w' hSw; (try dsimp only at hSw); go_simp; (try with_reducible rfl))
             try simp only [Act.put, List.setIfInBounds_toArray, List.set_cons_zero, List.set_cons_succ]
             refine wpAnyH_take (i := 15) (oi := ?o15vd) (v := ?v15vd) ?hi15vd (by kernel_rfl) (by kernel_rfl) (by kernel_rfl) (fun _ _ _ h => h) ?y15vd (by assumption) ?r15vd
             case hi15vd => (simp only [List.getElem?_toArray, List.getElem?_cons_succ, List.getElem?_cons_zero]; rfl)
             case y15vd => (refine Or.inl ⟨by rfl, ?_⟩; intro w' hSw; (try dsimp only at hSw); go_simp; (try with_reducible rfl))
             try simp only [Act.put, List.setIfInBounds_toArray, List.set_cons_zero, List.set_cons_succ]
             refine wpAnyH_take (i := 16) (oi := ?o16vd) (v := ?v16vd) ?hi16vd (by kernel_rfl) (by kernel_rfl) (by kernel_rfl) (fun _ _ _ h => h) ?y16vd (by assumption) ?r16vd
             case hi16vd => (simp only [List.getElem?_toArray, List.getElem?_cons_succ, List.getElem?_cons_zero]; rfl)
             case y16vd => (refine Or.inl ⟨by rfl, ?_⟩; intro w' hSw; (try dsimp only at hSw); go_simp; (try with_reducible rfl))
             try simp only [Act.put, List.setIfInBounds_toArray, List.set_cons_zero, List.set_cons_succ]
             refine wpAnyH_take (i := 17) (oi := ?o17vd) (v := ?v17vd) ?hi17vd (by kernel_rfl) (by kernel_rfl) (by kernel_rfl) (fun _ _ _ h => h) ?y17vd (by assumption) ?r17vd
             case hi17vd => (simp only [List.getElem?_toArray, List.getElem?_cons_succ, List.getElem?_cons_zero]; rfl)
             case y17vd => (refine Or.inl ⟨by rfl, ?_⟩; intro w' hSw; (try dsimp only at hSw); go_simp; (try with_reducible rfl))
             try simp only [Act.put, List.setIfInBounds_toArray, List.set_cons_zero, List.set_cons_succ]
             refine wpAnyH_take (i := 18) (oi := ?o18vd) (v := ?v18vd) ?hi18vd (by kernel_rfl) (by kernel_rfl) (by kernel_rfl) (fun _ _ _ h => h) ?y18vd (by assumption) ?r18vd
             case hi18vd => (simp only [List.getElem?_toArray, List.getElem?_cons_succ, List.getElem?_cons_zero]; rfl)
             case y18vd => (refine Or.inl ⟨by rfl, ?_⟩; intro w' hSw; (try dsimp only at hSw); go_simp; (try with_reducible rfl))
             try simp only [Act.put, List.setIfInBounds_toArray, List.set_cons_zero, List.set_cons_succ]
             refine wpAnyH_take (i := 19) (oi := ?o19vd) (v := ?v19vd) ?hi19vd (by kernel_rfl) (by kernel_rfl) (by kernel_rfl) (fun _ _ _ h => h) ?y19vd (by assumption) ?r19vd
             case hi19vd => (simp only [List.getElem?_toArray, List.getElem?_cons_succ, List.getElem?_cons_zero]; rfl)
             case y19vd => (refine Or.inl ⟨by rfl, ?_⟩; intro w' hSw; (try dsimp only at hSw); go_simp; (try with_reducible rfl))
             try simp only [Act.put, List.setIfInBounds_toArray, List.set_cons_zero, List.set_cons_succ]
             refine wpAnyH_take (i := 20) (oi := ?o20vd) (v := Mem.pv o k AP n c) ?hi20vd (by kernel_rfl) (by kernel_rfl) (by kernel_rfl) (fun _ _ _ h => h) ?y20vd (by assumption) ?r20vd
             case hi20vd => (simp only [List.getElem?_toArray, List.getElem?_cons_succ, List.getElem?_cons_zero]; rfl)
             case y20vd => (refine Mem.yields_pl rfl _ rfl (m7) rfl o k AP n c ?_; intro w' hS; exact hS.1)
             try simp only [Act.put, List.setIfInBounds_toArray, List.set_cons_zero, List.set_cons_succ]
             refine wpAnyH_take (i := 21) (oi := ?o21vd) (v := ?v21vd) ?hi21vd (by kernel_rfl) (by kernel_rfl) (by kernel_rfl) (fun _ _ _ h => h) ?y21vd (by assumption) ?r21vd
             case hi21vd => (simp only [List.getElem?_toArray, List.getElem?_cons_succ, List.getElem?_cons_zero]; rfl)
             case y21vd => (refine Or.inl ⟨by rfl, ?_⟩; intro w' hSw; (try dsimp only at hSw); go_simp; (try with_reducible rfl))
             try simp only [Act.put, List.setIfInBounds_toArray, List.set_cons_zero, List.set_cons_succ]
             refine wpAnyH_take (i := 23) (oi := ?o23vd) (v := ?v23vd) ?hi23vd (by kernel_rfl) (by kernel_rfl) (by kernel_rfl) (fun _ _ _ h => h) ?y23vd (by assumption) ?r23vd
             case hi23vd => (simp only [List.getElem?_toArray, List.getElem?_cons_succ, List.getElem?_cons_zero]; rfl)
             case y23vd => (refine Or.inl ⟨by rfl, ?_⟩; intro w' hSw; (try dsimp only at hSw); go_simp; (try with_reducible rfl))
             try simp only [Act.put, List.setIfInBounds_toArray, List.set_cons_zero, List.set_cons_succ]
             refine wpAnyH_take (i := 24) (oi := ?o24vd) (v := ?v24vd) ?hi24vd (by kernel_rfl) (by kernel_rfl) (by kernel_rfl) (fun _ _ _ h => h) ?y24vd (by assumption) ?r24vd
             case hi24vd => (simp only [List.getElem?_toArray, List.getElem?_cons_succ, List.getElem?_cons_zero]; rfl)
             case y24vd => (refine Or.inl ⟨by rfl, ?_⟩; intro w' hSw; (try dsimp only at hSw); go_simp; (try with_reducible rfl))
             try simp only [Act.put, List.setIfInBounds_toArray, List.set_cons_zero, List.set_cons_succ]
             refine wpAnyH_take (i := 26) (oi := ?o26vd) (v := ?v26vd) ?hi26vd (by kernel_rfl) (by kernel_rfl) (by kernel_rfl) (fun _ _ _ h => h) ?y26vd (by assumption) ?r26vd
             case hi26vd => (simp only [List.getElem?_toArray, List.getElem?_cons_succ, List.getElem?_cons_zero]; rfl)
             case y26vd => (refine Or.inl ⟨by rfl, ?_⟩; intro w' hSw; (try dsimp only at hSw); go_simp; (try with_reducible rfl))
             try simp only [Act.put, List.setIfInBounds_toArray, List.set_cons_zero, List.set_cons_succ]
             refine wpAnyH_take (i := 27) (oi := ?o27vd) (v := ?v27vd) ?hi27vd (by kernel_rfl) (by kernel_rfl) (by kernel_rfl) (fun _ _ _ h => h) ?y27vd (by assumption) ?r27vd
             case hi27vd => (simp only [List.getElem?_toArray, List.getElem?_cons_succ, List.getElem?_cons_zero]; rfl)
             case y27vd => (refine Or.inl ⟨by rfl, ?_⟩; intro w' hSw; (try dsimp only at hSw); go_simp; (try with_reducible rfl))
             try simp only [Act.put, List.setIfInBounds_toArray, List.set_cons_zero, List.set_cons_succ]
             refine wpAnyH_ready (rs := [22]) (by kernel_rfl) (by simp) ?_
             refine AllReadyH.cons (o := ?o22vd) ?hi22vd ?hst22vd AllReadyH.nil
             case hi22vd => (simp only [List.getElem?_toArray, List.getElem?_cons_succ, List.getElem?_cons_zero]; rfl)
             intro K hK
             go_simp
             (go_at_call 27; (with_reducible refine (HTa.out.of _ bel).mono ?_); rintro e w8 ⟨rfl, hb8⟩)
             go_wp2_with fail
             refine hK.out _ _ (⟨Bx.Blk.keep hHeld.1 hb8, Bx.keep_cell hb8 hHeld.2.1, Bx.keep_cell hb8 hHeld.2.2.1, Bx.keep_cell hb8 hHeld.2.2.2.1, Bx.keep_cell hb8 hHeld.2.2.2.2.1, Bx.keep_cell hb8 hHeld.2.2.2.2.2.1, Bx.keep_cell hb8 hHeld.2.2.2.2.2.2.1, Bx.keep_cell hb8 hHeld.2.2.2.2.2.2.2.1, Bx.keep_cell hb8 hHeld.2.2.2.2.2.2.2.2.1, Bx.keep_cell hb8 hHeld.2.2.2.2.2.2.2.2.2⟩) (fun hNew => ?_)
             clear hHeld
             have hHeld := hNew
             clear hNew hK K
             replace bel := Bx.then_below bel hb8
             clear hb8
             refine wpAnyH_take (i := 25) (oi := ?o25vd) (v := ?v25vd) ?hi25vd (by kernel_rfl) (by kernel_rfl) (by kernel_rfl) (fun _ _ _ h => h) ?y25vd (by assumption) ?r25vd
             case hi25vd => (simp only [List.getElem?_toArray, List.getElem?_cons_succ, List.getElem?_cons_zero]; rfl)
             case y25vd => (refine Or.inl ⟨by rfl, ?_⟩; intro w' hSw; (try dsimp only at hSw); go_simp; (try with_reducible rfl))
             try simp only [Act.put, List.setIfInBounds_toArray, List.set_cons_zero, List.set_cons_succ]
             refine wpAnyH_ready (rs := [28]) (by kernel_rfl) (by simp) ?_
             refine AllReadyH.cons (o := ?o28vd) ?hi28vd ?hst28vd AllReadyH.nil
             case hi28vd => (simp only [List.getElem?_toArray, List.getElem?_cons_succ, List.getElem?_cons_zero]; rfl)
             intro K hK
             go_simp
             (go_at_call 29; (with_reducible refine (HTa.out.wo _ bel).mono ?_); rintro e w9 ⟨rfl, hb9⟩)
             go_wp2_with fail
             refine hK.out _ _ (⟨Bx.Blk.keep hHeld.1 hb9, Bx.keep_cell hb9 hHeld.2.1, Bx.keep_cell hb9 hHeld.2.2.1, Bx.keep_cell hb9 hHeld.2.2.2.1, Bx.keep_cell hb9 hHeld.2.2.2.2.1, Bx.keep_cell hb9 hHeld.2.2.2.2.2.1, Bx.keep_cell hb9 hHeld.2.2.2.2.2.2.1, Bx.keep_cell hb9 hHeld.2.2.2.2.2.2.2.1, Bx.keep_cell hb9 hHeld.2.2.2.2.2.2.2.2.1, Bx.keep_cell hb9 hHeld.2.2.2.2.2.2.2.2.2⟩) (fun hNew => ?_)
             clear hHeld
             have hHeld := hNew
             clear hNew hK K
             replace bel := Bx.then_below bel hb9
             clear hb9
             refine wpAnyH_ready (rs := [29]) (by kernel_rfl) (by simp) ?_
             refine AllReadyH.cons (o := ?o29vd) ?hi29vd ?hst29vd AllReadyH.nil
             case hi29vd => (simp only [List.getElem?_toArray, List.getElem?_cons_succ, List.getElem?_cons_zero]; rfl)
             intro K hK
             go_simp
             (go_at_call 28; (with_reducible refine (HTa.out.co _ bel).mono ?_); rintro e w10 ⟨rfl, hb10⟩)
             go_wp2_with fail
             refine hK.out _ _ (⟨Bx.Blk.keep hHeld.1 hb10, Bx.keep_cell hb10 hHeld.2.1, Bx.keep_cell hb10 hHeld.2.2.1, Bx.keep_cell hb10 hHeld.2.2.2.1, Bx.keep_cell hb10 hHeld.2.2.2.2.1, Bx.keep_cell hb10 hHeld.2.2.2.2.2.1, Bx.keep_cell hb10 hHeld.2.2.2.2.2.2.1, Bx.keep_cell hb10 hHeld.2.2.2.2.2.2.2.1, Bx.keep_cell hb10 hHeld.2.2.2.2.2.2.2.2.1, Bx.keep_cell hb10 hHeld.2.2.2.2.2.2.2.2.2⟩) (fun hNew => ?_)
             clear hHeld
             have hHeld := hNew
             clear hNew hK K
             replace bel := Bx.then_below bel hb10
             clear hb10
             refine wpAnyH_take (i := 30) (oi := ?o30vd) (v := ?v30vd) ?hi30vd (by kernel_rfl) (by kernel_rfl) (by kernel_rfl) (fun _ _ _ h => h) ?y30vd (by assumption) ?r30vd
             case hi30vd => (simp only [List.getElem?_toArray, List.getElem?_cons_succ, List.getElem?_cons_zero]; rfl)
             case y30vd => (refine Or.inl ⟨by rfl, ?_⟩; intro w' hSw; (try dsimp only at hSw); go_simp; (try with_reducible rfl))
             try simp only [Act.put, List.setIfInBounds_toArray, List.set_cons_zero, List.set_cons_succ]
             try rw [eN]
             try rw [eN2]
             refine wpAnyH_take (i := 31) (oi := ?o31vd) (v := ?v31vd) ?hi31vd (by kernel_rfl) (by kernel_rfl) (by kernel_rfl) (fun _ _ _ h => h) ?y31vd (by assumption) ?r31vd
             case hi31vd => (simp only [List.getElem?_toArray, List.getElem?_cons_succ, List.getElem?_cons_zero]; rfl)
             case y31vd => (refine Or.inl ⟨by rfl, ?_⟩; intro w' hSw; (try dsimp only at hSw); go_simp; (try with_reducible rfl))
             try simp only [Act.put, List.setIfInBounds_toArray, List.set_cons_zero, List.set_cons_succ]
             refine wpAnyH_done (by kernel_rfl) ?_ _
             refine NoPanic.normal ?_
             clear hHeld
             go_wp2_with fail
             refine (HAW.out _ bel).mono ?_; rintro e wv ⟨rfl, hb⟩
             replace bel := Bx.then_below bel hb
             go_wp2
             go_ret
             exact ⟨rfl, bel⟩
         ·
          have k1 : (K == 0) = false := by simpa using hK
          as_aux_lemma =>
           go_wp2_with fail
           refine wp_region_noPanic ?_
           refine wp_region_held_drew (S := fun w' => Bx.Blk w' m7 (Mem.pc o k AP n c) ∧ w'.cell? ⟨w.heap.size + 1, 0, none⟩ = some (.int .i64 q) ∧ w'.cell? ⟨w.heap.size + 1, 2, none⟩ = some (.int .i64 op) ∧ w'.cell? ⟨m8, 0, none⟩ = some (.int .u64 d) ∧ w'.cell? ⟨m8, 1, none⟩ = some (.int .u64 s) ∧ w'.cell? ⟨m8, 2, none⟩ = some (.bool g) ∧ w'.cell? ⟨m8, 3, none⟩ = some (.int .i64 p) ∧ w'.cell? ⟨m8, 4, none⟩ = some (.int .i64 v) ∧ w'.cell? ⟨m8, 5, none⟩ = some (.int .i64 t) ∧ w'.cell? ⟨m8, 6, none⟩ = some (.string X)) (by kernel_rfl) (by exact ⟨B1.out, c0_0, c0_2, c2_0, c2_1, c2_2, c2_3, c2_4, c2_5, c2_6⟩) (fun hHeld => ?_)
           replace bel := Bx.bel_drewn bel
           refine wpAnyH_take (i := 0) (oi := ?o0ve) (v := ?v0ve) ?hi0ve (by kernel_rfl) (by kernel_rfl) (by kernel_rfl) (fun _ _ _ h => h) ?y0ve (by assumption) ?r0ve
           case hi0ve => (simp only [List.getElem?_toArray, List.getElem?_cons_zero]; rfl)
           case y0ve => (refine Or.inl ⟨by rfl, ?_⟩; intro w' hSw; (try dsimp only at hSw); go_simp; (try with_reducible rfl))
           try simp only [Act.put, List.setIfInBounds_toArray, List.set_cons_zero, List.set_cons_succ]
           refine wpAnyH_take (i := 1) (oi := ?o1ve) (v := ?v1ve) ?hi1ve (by kernel_rfl) (by kernel_rfl) (by kernel_rfl) (fun _ _ _ h => h) ?y1ve (by assumption) ?r1ve
           case hi1ve => (simp only [List.getElem?_toArray, List.getElem?_cons_succ, List.getElem?_cons_zero]; rfl)
           case y1ve => (refine Or.inl ⟨by rfl, ?_⟩; intro w' hSw; (try dsimp only at hSw); go_simp; (try with_reducible rfl))
           try simp only [Act.put, List.setIfInBounds_toArray, List.set_cons_zero, List.set_cons_succ]
           refine wpAnyH_take (i := 2) (oi := ?o2ve) (v := ?v2ve) ?hi2ve (by kernel_rfl) (by kernel_rfl) (by kernel_rfl) (fun _ _ _ h => h) ?y2ve (by assumption) ?r2ve
           case hi2ve => (simp only [List.getElem?_toArray, List.getElem?_cons_succ, List.getElem?_cons_zero]; rfl)
           case y2ve => (refine Or.inl ⟨by rfl, ?_⟩; intro w' hSw; (try dsimp only at hSw); go_simp; (try with_reducible rfl))
           try simp only [Act.put, List.setIfInBounds_toArray, List.set_cons_zero, List.set_cons_succ]
           refine wpAnyH_ready (rs := [3]) (by kernel_rfl) (by simp) ?_
           refine AllReadyH.cons (o := ?o3ve) ?hi3ve ?hst3ve AllReadyH.nil
           case hi3ve => (simp only [List.getElem?_toArray, List.getElem?_cons_succ, List.getElem?_cons_zero]; rfl)
           intro K hK
           go_simp
           (go_at_call 12; (with_reducible refine (HTa.out.kd _ bel).mono ?_); rintro e w6 ⟨rfl, hb6⟩)
           go_wp2_with fail
           refine hK.out _ _ (⟨Bx.Blk.keep hHeld.1 hb6, Bx.keep_cell hb6 hHeld.2.1, Bx.keep_cell hb6 hHeld.2.2.1, Bx.keep_cell hb6 hHeld.2.2.2.1, Bx.keep_cell hb6 hHeld.2.2.2.2.1, Bx.keep_cell hb6 hHeld.2.2.2.2.2.1, Bx.keep_cell hb6 hHeld.2.2.2.2.2.2.1, Bx.keep_cell hb6 hHeld.2.2.2.2.2.2.2.1, Bx.keep_cell hb6 hHeld.2.2.2.2.2.2.2.2.1, Bx.keep_cell hb6 hHeld.2.2.2.2.2.2.2.2.2⟩) (fun hNew => ?_)
           clear hHeld
           have hHeld := hNew
           clear hNew hK K
           replace bel := Bx.then_below bel hb6
           clear hb6
           refine wpAnyH_take (i := 4) (oi := ?o4ve) (v := ?v4ve) ?hi4ve (by kernel_rfl) (by kernel_rfl) (by kernel_rfl) (fun _ _ _ h => h) ?y4ve (by assumption) ?r4ve
           case hi4ve => (simp only [List.getElem?_toArray, List.getElem?_cons_succ, List.getElem?_cons_zero]; rfl)
           case y4ve => (refine Or.inl ⟨by rfl, ?_⟩; intro w' hSw; (try dsimp only at hSw); go_simp; (try with_reducible rfl))
           try simp only [Act.put, List.setIfInBounds_toArray, List.set_cons_zero, List.set_cons_succ]
           try rw [k1]
           refine wpAnyH_take (i := 5) (oi := ?o5ve) (v := ?v5ve) ?hi5ve (by kernel_rfl) (by kernel_rfl) (by kernel_rfl) (fun _ _ _ h => h) ?y5ve (by assumption) ?r5ve
           case hi5ve => (simp only [List.getElem?_toArray, List.getElem?_cons_succ, List.getElem?_cons_zero]; rfl)
           case y5ve => (refine Or.inl ⟨by rfl, ?_⟩; intro w' hSw; (try dsimp only at hSw); go_simp; (try with_reducible rfl))
           try simp only [Act.put, List.setIfInBounds_toArray, List.set_cons_zero, List.set_cons_succ]
           refine wpAnyH_take (i := 6) (oi := ?o6ve) (v := ?v6ve) ?hi6ve (by kernel_rfl) (by kernel_rfl) (by kernel_rfl) (fun _ _ _ h => h) ?y6ve (by assumption) ?r6ve
           case hi6ve => (simp only [List.getElem?_toArray, List.getElem?_cons_succ, List.getElem?_cons_zero]; rfl)
           case y6ve => (refine Or.inl ⟨by rfl, ?_⟩; intro w' hSw; (try dsimp only at hSw); go_simp; (try with_reducible rfl))
           try simp only [Act.put, List.setIfInBounds_toArray, List.set_cons_zero, List.set_cons_succ]
           refine wpAnyH_take (i := 7) (oi := ?o7ve) (v := undef) ?hi7ve (by kernel_rfl) (by kernel_rfl) (by kernel_rfl) (fun _ _ _ h => h) ?y7ve (by assumption) ?r7ve
           case hi7ve => (simp only [List.getElem?_toArray, List.getElem?_cons_succ, List.getElem?_cons_zero]; rfl)
           case y7ve => exact Or.inr ⟨by rfl, rfl⟩
           try simp only [Act.put, List.setIfInBounds_toArray, List.set_cons_zero, List.set_cons_succ]
           refine wpAnyH_take (i := 8) (oi := ?o8ve) (v := undef) ?hi8ve (by kernel_rfl) (by kernel_rfl) (by kernel_rfl) (fun _ _ _ h => h) ?y8ve (by assumption) ?r8ve
           case hi8ve => (simp only [List.getElem?_toArray, List.getElem?_cons_succ, List.getElem?_cons_zero]; rfl)
           case y8ve => exact Or.inr ⟨by rfl, rfl⟩
           try simp only [Act.put, List.setIfInBounds_toArray, List.set_cons_zero, List.set_cons_succ]
           refine wpAnyH_take (i := 9) (oi := ?o9ve) (v := undef) ?hi9ve (by kernel_rfl) (by kernel_rfl) (by kernel_rfl) (fun _ _ _ h => h) ?y9ve (by assumption) ?r9ve
           case hi9ve => (simp only [List.getElem?_toArray, List.getElem?_cons_succ, List.getElem?_cons_zero]; rfl)
           case y9ve => exact Or.inr ⟨by rfl, rfl⟩
           try simp only [Act.put, List.setIfInBounds_toArray, List.set_cons_zero, List.set_cons_succ]
           refine wpAnyH_take (i := 10) (oi := ?o10ve) (v := undef) ?hi10ve (by kernel_rfl) (by kernel_rfl) (by kernel_rfl) (fun _ _ _ h => h) ?y10ve (by assumption) ?r10ve
           case hi10ve => (simp only [List.getElem?_toArray, List.getElem?_cons_succ, List.getElem?_cons_zero]; rfl)
           case y10ve => exact Or.inr ⟨by rfl, rfl⟩
           try simp only [Act.put, List.setIfInBounds_toArray, List.set_cons_zero, List.set_cons_succ]
           refine wpAnyH_take (i := 11) (oi := ?o11ve) (v := undef) ?hi11ve (by kernel_rfl) (by kernel_rfl) (by kernel_rfl) (fun _ _ _ h => h) ?y11ve (by assumption) ?r11ve
           case hi11ve => (simp only [List.getElem?_toArray, List.getElem?_cons_succ, List.getElem?_cons_zero]; rfl)
           case y11ve => exact Or.inr ⟨by rfl, rfl⟩
           try simp only [Act.put, List.setIfInBounds_toArray, List.set_cons_zero, List.set_cons_succ]
           refine wpAnyH_take (i := 12) (oi := ?o12ve) (v := ?v12ve) ?hi12ve (by kernel_rfl) (by kernel_rfl) (by kernel_rfl) (fun _ _ _ h => h) ?y12ve (by assumption) ?r12ve
           case hi12ve => (simp only [List.getElem?_toArray, List.getElem?_cons_succ, List.getElem?_cons_zero]; rfl)
           case y12ve => (refine Or.inl ⟨by rfl, ?_⟩; intro w' hSw; (try dsimp only at hSw); go_simp; (try with_reducible rfl))
           try simp only [Act.put, List.setIfInBounds_toArray, List.set_cons_zero, List.set_cons_succ]
           refine wpAnyH_take (i := 13) (oi := ?o13ve) (v := ?v13ve) ?hi13ve (by kernel_rfl) (by kernel_rfl) (by kernel_rfl) (fun _ _ _ h => h) ?y13ve (by assumption) ?r13ve
           case hi13ve => (simp only [List.getElem?_toArray, List.getElem?_cons_succ, List.getElem?_cons_zero]; rfl)
           case y13ve => (refine Or.inl ⟨by rfl, ?_⟩; intro w' hSw; (try dsimp only at hSw); go_simp; (try with_reducible rfl))
           try simp only [Act.put, List.setIfInBounds_toArray, List.set_cons_zero, List.set_cons_succ]
           refine wpAnyH_take (i := 14) (oi := ?o14ve) (v := undef) ?hi14ve (by kernel_rfl) (by kernel_rfl) (by kernel_rfl) (fun _ _ _ h => h) ?y14ve (by assumption) ?r14ve
           case hi14ve => (simp only [List.getElem?_toArray, List.getElem?_cons_succ, List.getElem?_cons_zero]; rfl)
           case y14ve => exact Or.inr ⟨by rfl, rfl⟩
           try simp only [Act.put, List.setIfInBounds_toArray, List.set_cons_zero, List.set_cons_succ]
           refine wpAnyH_take (i := 15) (oi := ?o15ve) (v := undef) ?hi15ve (by kernel_rfl) (by kernel_rfl) (by kernel_rfl) (fun _ _ _ h => h) ?y15ve (by assumption) ?r15ve
           case hi15ve => (simp only [List.getElem?_toArray, List.getElem?_cons_succ, List.getElem?_cons_zero]; rfl)
           case y15ve => exact Or.inr ⟨by rfl, rfl⟩
           try simp only [Act.put, List.setIfInBounds_toArray, List.set_cons_zero, List.set_cons_succ]
           refine wpAnyH_take (i := 16) (oi := ?o16ve) (v := ?v16ve) ?hi16ve (by kernel_rfl) (by kernel_rfl) (by kernel_rfl) (fun _ _ _ h => h) ?y16ve (by assumption) ?r16ve
           case hi16ve => (simp only [List.getElem?_toArray, List.getElem?_cons_succ, List.getElem?_cons_zero]; rfl)
           case y16ve => (refine Or.inl ⟨by rfl, ?_⟩; intro w' hSw; (try dsimp only at hSw); go_simp; (try with_reducible rfl))
           try simp only [Act.put, List.setIfInBounds_toArray, List.set_cons_zero, List.set_cons_succ]
           refine wpAnyH_take (i := 17) (oi := ?o17ve) (v := ?v17ve) ?hi17ve (by kernel_rfl) (by kernel_rfl) (by kernel_rfl) (fun _ _ _ h => h) ?y17ve (by assumption) ?r17ve
           case hi17ve => (simp only [List.getElem?_toArray, List.getElem?_cons_succ, List.getElem?_cons_zero]; rfl)
           case y17ve => (refine Or.inl ⟨by rfl, ?_⟩; intro w' hSw; (try dsimp only at hSw); go_simp; (try with_reducible rfl))
           try simp only [Act.put, List.setIfInBounds_toArray, List.set_cons_zero, List.set_cons_succ]
           refine wpAnyH_take (i := 18) (oi := ?o18ve) (v := undef) ?hi18ve (by kernel_rfl) (by kernel_rfl) (by kernel_rfl) (fun _ _ _ h => h) ?y18ve (by assumption) ?r18ve
           case hi18ve => (simp only [List.getElem?_toArray, List.getElem?_cons_succ, List.getElem?_cons_zero]; rfl)
           case y18ve => exact Or.inr ⟨by rfl, rfl⟩
           try simp only [Act.put, List.setIfInBounds_toArray, List.set_cons_zero, List.set_cons_succ]
           refine wpAnyH_take (i := 19) (oi := ?o19ve) (v := undef) ?hi19ve (by kernel_rfl) (by kernel_rfl) (by kernel_rfl) (fun _ _ _ h => h) ?y19ve (by assumption) ?r19ve
           case hi19ve => (simp only [List.getElem?_toArray, List.getElem?_cons_succ, List.getElem?_cons_zero]; rfl)
           case y19ve => exact Or.inr ⟨by rfl, rfl⟩
           try simp only [Act.put, List.setIfInBounds_toArray, List.set_cons_zero, List.set_cons_succ]
           refine wpAnyH_take (i := 20) (oi := ?o20ve) (v := undef) ?hi20ve (by kernel_rfl) (by kernel_rfl) (by kernel_rfl) (fun _ _ _ h => h) ?y20ve (by assumption) ?r20ve
           case hi20ve => (simp only [List.getElem?_toArray, List.getElem?_cons_succ, List.getElem?_cons_zero]; rfl)
           case y20ve => exact Or.inr ⟨by rfl, rfl⟩
           try simp only [Act.put, List.setIfInBounds_toArray, List.set_cons_zero, List.set_cons_succ]
           refine wpAnyH_take (i := 21) (oi := ?o21ve) (v := undef) ?hi21ve (by kernel_rfl) (by kernel_rfl) (by kernel_rfl) (fun _ _ _ h => h) ?y21ve (by assumption) ?r21ve
           case hi21ve => (simp only [List.getElem?_toArray, List.getElem?_cons_succ, List.getElem?_cons_zero]; rfl)
           case y21ve => exact Or.inr ⟨by rfl, rfl⟩
           try simp only [Act.put, List.setIfInBounds_toArray, List.set_cons_zero, List.set_cons_succ]
           refine wpAnyH_take (i := 22) (oi := ?o22ve) (v := undef) ?hi22ve (by kernel_rfl) (by kernel_rfl) (by kernel_rfl) (fun _ _ _ h => h) ?y22ve (by assumption) ?r22ve
           case hi22ve => (simp only [List.getElem?_toArray, List.getElem?_cons_succ, List.getElem?_cons_zero]; rfl)
           case y22ve => exact Or.inr ⟨by rfl, rfl⟩
           try simp only [Act.put, List.setIfInBounds_toArray, List.set_cons_zero, List.set_cons_succ]
           refine wpAnyH_take (i := 23) (oi := ?o23ve) (v := undef) ?hi23ve (by kernel_rfl) (by kernel_rfl) (by kernel_rfl) (fun _ _ _ h => h) ?y23ve (by assumption) ?r23ve
           case hi23ve => (simp only [List.getElem?_toArray, List.getElem?_cons_succ, List.getElem?_cons_zero]; rfl)
           case y23ve => exact Or.inr ⟨by rfl, rfl⟩
           try simp only [Act.put, List.setIfInBounds_toArray, List.set_cons_zero, List.set_cons_succ]
           refine wpAnyH_take (i := 24) (oi := ?o24ve) (v := undef) ?hi24ve (by kernel_rfl) (by kernel_rfl) (by kernel_rfl) (fun _ _ _ h => h) ?y24ve (by assumption) ?r24ve
           case hi24ve => (simp only [List.getElem?_toArray, List.getElem?_cons_succ, List.getElem?_cons_zero]; rfl)
           case y24ve => exact Or.inr ⟨by rfl, rfl⟩
           try simp only [Act.put, List.setIfInBounds_toArray, List.set_cons_zero, List.set_cons_succ]
           refine wpAnyH_take (i := 25) (oi := ?o25ve) (v := undef) ?hi25ve (by kernel_rfl) (by kernel_rfl) (by kernel_rfl) (fun _ _ _ h => h) ?y25ve (by assumption) ?r25ve
           case hi25ve => (simp only [List.getElem?_toArray, List.getElem?_cons_succ, List.getElem?_cons_zero]; rfl)
           case y25ve => exact Or.inr ⟨by rfl, rfl⟩
           try simp only [Act.put, List.setIfInBounds_toArray, List.set_cons_zero, List.set_cons_succ]
           refine wpAnyH_take (i := 26) (oi := ?o26ve) (v := undef) ?hi26ve (by kernel_rfl) (by kernel_rfl) (by kernel_rfl) (fun _ _ _ h => h) ?y26ve (by assumption) ?r26ve
           case hi26ve => (simp only [List.getElem?_toArray, List.getElem?_cons_succ, List.getElem?_cons_zero]; rfl)
           case y26ve => exact Or.inr ⟨by rfl, rfl⟩
           try simp only [Act.put, List.setIfInBounds_toArray, List.set_cons_zero, List.set_cons_succ]
           refine wpAnyH_take (i := 27) (oi := ?o27ve) (v := undef) ?hi27ve (by kernel_rfl) (by kernel_rfl) (by kernel_rfl) (fun _ _ _ h => h) ?y27ve (by assumption) ?r27ve
           case hi27ve => (simp only [List.getElem?_toArray, List.getElem?_cons_succ, List.getElem?_cons_zero]; rfl)
           case y27ve => exact Or.inr ⟨by rfl, rfl⟩
           try simp only [Act.put, List.setIfInBounds_toArray, List.set_cons_zero, List.set_cons_succ]
           refine wpAnyH_take (i := 28) (oi := ?o28ve) (v := undef) ?hi28ve (by kernel_rfl) (by kernel_rfl) (by kernel_rfl) (fun _ _ _ h => h) ?y28ve (by assumption) ?r28ve
           case hi28ve => (simp only [List.getElem?_toArray, List.getElem?_cons_succ, List.getElem?_cons_zero]; rfl)
           case y28ve => exact Or.inr ⟨by rfl, rfl⟩
           try simp only [Act.put, List.setIfInBounds_toArray, List.set_cons_zero, List.set_cons_succ]
           refine wpAnyH_take (i := 29) (oi := ?o29ve) (v := undef) ?hi29ve (by kernel_rfl) (by kernel_rfl) (by kernel_rfl) (fun _ _ _ h => h) ?y29ve (by assumption) ?r29ve
           case hi29ve => (simp only [List.getElem?_toArray, List.getElem?_cons_succ, List.getElem?_cons_zero]; rfl)
           case y29ve => exact Or.inr ⟨by rfl, rfl⟩
           try simp only [Act.put, List.setIfInBounds_toArray, List.set_cons_zero, List.set_cons_succ]
           refine wpAnyH_take (i := 30) (oi := ?o30ve) (v := undef) ?hi30ve (by kernel_rfl) (by kernel_rfl) (by kernel_rfl) (fun _ _ _ h => h) ?y30ve (by assumption) ?r30ve
           case hi30ve => (simp only [List.getElem?_toArray, List.getElem?_cons_succ, List.getElem?_cons_zero]; rfl)
           case y30ve => exact Or.inr ⟨by rfl, rfl⟩
           try simp only [Act.put, List.setIfInBounds_toArray, List.set_cons_zero, List.set_cons_succ]
           refine wpAnyH_take (i := 31) (oi := ?o31ve) (v := ?v31ve) ?hi31ve (by kernel_rfl) (by kernel_rfl) (by kernel_rfl) (fun _ _ _ h => h) ?y31ve (by assumption) ?r31ve
           case hi31ve => (simp only [List.getElem?_toArray, List.getElem?_cons_succ, List.getElem?_cons_zero]; rfl)
           case y31ve => (refine Or.inl ⟨by rfl, ?_⟩; intro w' hSw; (try dsimp only at hSw); go_simp; (try with_reducible rfl))
           try simp only [Act.put, List.setIfInBounds_toArray, List.set_cons_zero, List.set_cons_succ]
           refine wpAnyH_done (by kernel_rfl) ?_ _
           refine NoPanic.normal ?_
           clear hHeld
           go_wp2_with fail
           refine (HAW.out _ bel).mono ?_; rintro e wv ⟨rfl, hb⟩
           replace bel := Bx.then_below bel hb
           go_wp2
           go_ret
           exact ⟨rfl, bel⟩

end Fwd
end Go.Proofs.YtmojegnflcokjaaDoor
