/-
  The law DecideFloods, way by way.
-/
import Derived.Test.YtmojegnflcokjaaDoorPkMemI
import Derived.Deep.DeepCutAuto
import Derived.Deep.RegionHeld3
namespace Go.Proofs.YtmojegnflcokjaaDoor
open Go.RowKit
namespace Fwd
open Oct Eth Tab

set_option maxRecDepth 100000 in
set_option maxHeartbeats 8000000 in
theorem floods_long (most long : Int) (l : List Tab.En) (hl : l.length ≤ maxLen) (A : Option Addr) (ct : Nat) (o k : Nat → Int) (AP : Option Addr) (n c : Nat) (d s : Int) (g : Bool) (p v t : Int) (X : ByteArray) (q ln op : Int) (w : World) 
    (HLG : Hid (∀ w', Below w.heap.size w w' → Calls Tryd.prog 6 #[Mem.pv o k AP n c] w' fun e w'' => e = .returned (.bool true) ∧ Below w'.heap.size w' w''))
    (HAW : Hid (∀ w', Below w.heap.size w w' → Calls Tryd.prog 8 #[] w' fun e w'' => e = .returned (.bool true) ∧ Below w'.heap.size w' w'')) :
    Calls Tryd.prog 5 #[tv most long A l.length ct, xv o k AP n c d s g p v t X, .agg #[.int .i64 q, .int .i64 ln, .int .i64 op]] w fun e w' => e = .returned (.bool true) ∧ Below w.heap.size w w' := by
  have hl' : l.length ≤ 9223372036854775807 := hl
  go_enter Tryd.func5, Tryd.ntmps5
  go_wp2
  have BX := Lib.hid ((Bx.Blk.new_at (W := w.alloc (Tab.to most long A l.length ct)) (k := w.heap.size + 1) (xc o k AP n c d s g p v t X) 34 (by simp)).more (.cells #[.int .i64 q, .int .i64 ln, .int .i64 op] 36))
  have BT := Lib.hid (((Bx.Blk.new w [.int .i64 most, .int .i64 long, .slice A l.length ct] 24).more (xo o k AP n c d s g p v t X)).more (.cells #[.int .i64 q, .int .i64 ln, .int .i64 op] 36))
  have BY := Lib.hid (Bx.Blk.new_at (W := (w.alloc (Tab.to most long A l.length ct)).alloc (xo o k AP n c d s g p v t X)) (k := w.heap.size + 1 + 1) [.int .i64 q, .int .i64 ln, .int .i64 op] 36 (by simp))
  have bel := Bx.bel_box (Bx.bel_box (Bx.box_below w (Tab.to most long A l.length ct)) (xo o k AP n c d s g p v t X)) (.cells #[.int .i64 q, .int .i64 ln, .int .i64 op] 36)
  have hsz : w.heap.size + 3 = (((w.alloc (Tab.to most long A l.length ct)).alloc (xo o k AP n c d s g p v t X)).alloc (.cells #[.int .i64 q, .int .i64 ln, .int .i64 op] 36)).heap.size := by simp
  generalize hg : ((w.alloc (Tab.to most long A l.length ct)).alloc (xo o k AP n c d s g p v t X)).alloc (.cells #[.int .i64 q, .int .i64 ln, .int .i64 op] 36) = W0 at *
  clear hg
  go_cut [7, 8] (fun s7 s8 wx => ∃ m7 m8 : Nat, s7 = .pointer (some ⟨m7, 0, none⟩) ∧ s8 = .pointer (some ⟨m8, 0, none⟩) ∧ W0.heap.size ≤ m7 ∧ W0.heap.size ≤ m8 ∧ m7 ≠ m8 ∧ Below W0.heap.size W0 wx ∧ Bx.Blk wx m7 (Mem.pc o k AP n c) ∧ Bx.Fre wx m8 (Mem.fc d s g p v t X))
  case first =>
    refine wp_region_noPanic ?_
    refine wp_region_held_drew (S := fun w' => Bx.Blk w' (w.heap.size + 1) (xc o k AP n c d s g p v t X)) (by kernel_rfl) (by exact BX.out) (fun hHeld => ?_)
    refine wpAnyH_take (i := 0) (oi := ?o0) (v := ?v0) ?hi0 (by kernel_rfl) (by kernel_rfl) (by kernel_rfl) (fun _ _ _ h => h) ?y0 (by assumption) ?r0
    case hi0 => (simp only [List.getElem?_toArray, List.getElem?_cons_zero]; rfl)
    case y0 => (refine Or.inl ⟨by rfl, ?_⟩; intro w' hSw; (try dsimp only at hSw); go_simp; (try with_reducible rfl))
    try simp only [Act.put, List.setIfInBounds_toArray, List.set_cons_zero, List.set_cons_succ]
    refine wpAnyH_take (i := 1) (oi := ?o1) (v := Mem.pv o k AP n c) ?hi1 (by kernel_rfl) (by kernel_rfl) (by kernel_rfl) (fun _ _ _ h => h) ?y1 (by assumption) ?r1
    case hi1 => (simp only [List.getElem?_toArray, List.getElem?_cons_succ, List.getElem?_cons_zero]; rfl)
    case y1 => (refine yields_plan rfl _ rfl (w.heap.size + 1) rfl o k AP n c d s g p v t X ?_; intro w' hS; exact hS)
    try simp only [Act.put, List.setIfInBounds_toArray, List.set_cons_zero, List.set_cons_succ]
    refine wpAnyH_take (i := 2) (oi := ?o2) (v := ?v2) ?hi2 (by kernel_rfl) (by kernel_rfl) (by kernel_rfl) (fun _ _ _ h => h) ?y2 (by assumption) ?r2
    case hi2 => (simp only [List.getElem?_toArray, List.getElem?_cons_succ, List.getElem?_cons_zero]; rfl)
    case y2 => (refine Or.inl ⟨by rfl, ?_⟩; intro w' hSw; (try dsimp only at hSw); go_simp; (try with_reducible rfl))
    try simp only [Act.put, List.setIfInBounds_toArray, List.set_cons_zero, List.set_cons_succ]
    refine wpAnyH_take (i := 3) (oi := ?o3) (v := fr d s g p v t X) ?hi3 (by kernel_rfl) (by kernel_rfl) (by kernel_rfl) (fun _ _ _ h => h) ?y3 (by assumption) ?r3
    case hi3 => (simp only [List.getElem?_toArray, List.getElem?_cons_succ, List.getElem?_cons_zero]; rfl)
    case y3 => (refine yields_frame rfl _ rfl (w.heap.size + 1) rfl o k AP n c d s g p v t X ?_; intro w' hS; exact hS)
    try simp only [Act.put, List.setIfInBounds_toArray, List.set_cons_zero, List.set_cons_succ]
    refine wpAnyH_ready (rs := [4, 5]) (by kernel_rfl) (by simp) ?_
    refine AllReadyH.cons (o := ?o4) ?hi4 ?hst4 (AllReadyH.cons (o := ?o5) ?hi5 ?hst5 AllReadyH.nil)
    case hi4 => (simp only [List.getElem?_toArray, List.getElem?_cons_succ, List.getElem?_cons_zero]; rfl)
    case hi5 => (simp only [List.getElem?_toArray, List.getElem?_cons_succ, List.getElem?_cons_zero]; rfl)
    case hst4 =>
      intro K hK
      go_simp
      refine hK.out _ _ (Bx.Blk.more hHeld _) (fun hNew => ?_)
      clear hHeld
      have hHeld := hNew
      clear hNew hK K
      have NP := Lib.hid (Bx.Own.new W0 [.int .i64 0, .int .i64 0, .int .i64 0, .int .i64 0, .int .i64 0, .int .i64 0, .int .i64 0, .int .i64 0, .int .i64 0, .int .i64 0, .int .i64 0, .int .i64 0, .int .i64 0, .int .i64 0, .int .i64 0, .int .i64 0, .slice none 0 0] 28).draw
      have BE := Lib.hid (Bx.bel_drewn (Bx.bel_box (Bx.bel_refl W0) (Obj.cells #[.int .i64 0, .int .i64 0, .int .i64 0, .int .i64 0, .int .i64 0, .int .i64 0, .int .i64 0, .int .i64 0, .int .i64 0, .int .i64 0, .int .i64 0, .int .i64 0, .int .i64 0, .int .i64 0, .int .i64 0, .int .i64 0, .slice none 0 0] 28)))
      refine wpAnyH_ready (rs := [5]) (by kernel_rfl) (by simp) ?_
      refine AllReadyH.cons (o := ?o5a) ?hi5a ?hst5a AllReadyH.nil
      case hi5a => (simp only [List.getElem?_toArray, List.getElem?_cons_succ, List.getElem?_cons_zero]; rfl)
      intro K hK
      go_simp
      refine hK.out _ _ (Bx.Blk.more hHeld _) (fun hNew => ?_)
      clear hHeld
      have hHeld := hNew
      clear hNew hK K
      replace NP := Lib.hid (NP.out.more (Obj.cells #[.int .u64 0, .int .u64 0, .bool false, .int .i64 0, .int .i64 0, .int .i64 0, .string ⟨#[]⟩] 32))
      have NF := Lib.hid (Bx.Own.new_at (W := (W0.alloc (Obj.cells #[.int .i64 0, .int .i64 0, .int .i64 0, .int .i64 0, .int .i64 0, .int .i64 0, .int .i64 0, .int .i64 0, .int .i64 0, .int .i64 0, .int .i64 0, .int .i64 0, .int .i64 0, .int .i64 0, .int .i64 0, .int .i64 0, .slice none 0 0] 28)).drew) (k := W0.heap.size + 1) [.int .u64 0, .int .u64 0, .bool false, .int .i64 0, .int .i64 0, .int .i64 0, .string ⟨#[]⟩] 32 (by simp [World.drew]))
      replace BE := Lib.hid (Bx.bel_box BE.out (Obj.cells #[.int .u64 0, .int .u64 0, .bool false, .int .i64 0, .int .i64 0, .int .i64 0, .string ⟨#[]⟩] 32))
      have ZZ := Lib.hid (fun j => show ((W0.alloc (Obj.cells #[.int .i64 0, .int .i64 0, .int .i64 0, .int .i64 0, .int .i64 0, .int .i64 0, .int .i64 0, .int .i64 0, .int .i64 0, .int .i64 0, .int .i64 0, .int .i64 0, .int .i64 0, .int .i64 0, .int .i64 0, .int .i64 0, .slice none 0 0] 28)).drew.alloc (Obj.cells #[.int .u64 0, .int .u64 0, .bool false, .int .i64 0, .int .i64 0, .int .i64 0, .string ⟨#[]⟩] 32)).frozen? ⟨W0.heap.size + 1, j, none⟩ = false from frozen_at (W0.alloc (Obj.cells #[.int .i64 0, .int .i64 0, .int .i64 0, .int .i64 0, .int .i64 0, .int .i64 0, .int .i64 0, .int .i64 0, .int .i64 0, .int .i64 0, .int .i64 0, .int .i64 0, .int .i64 0, .int .i64 0, .int .i64 0, .int .i64 0, .slice none 0 0] 28)).drew #[.int .u64 0, .int .u64 0, .bool false, .int .i64 0, .int .i64 0, .int .i64 0, .string ⟨#[]⟩] 32 (by simp [World.drew]) j)
      refine wpAnyH_ready (rs := [6]) (by kernel_rfl) (by simp) ?_
      refine AllReadyH.cons (o := ?o6a) ?hi6a ?hst6a AllReadyH.nil
      case hi6a => (simp only [List.getElem?_toArray, List.getElem?_cons_succ, List.getElem?_cons_zero]; rfl)
      intro K hK
      rw [if_pos (by rfl)]
      refine wp_store_plan _ _ rfl (W0.heap.size) [.int .i64 0, .int .i64 0, .int .i64 0, .int .i64 0, .int .i64 0, .int .i64 0, .int .i64 0, .int .i64 0, .int .i64 0, .int .i64 0, .int .i64 0, .int .i64 0, .int .i64 0, .int .i64 0, .int .i64 0, .int .i64 0, .slice none 0 0] rfl o k AP n c rfl rfl NP.out ?_
      refine hK.out _ _ (Bx.Blk.apart hHeld (by omega)) (fun hNew => ?_)
      clear hHeld
      have hHeld := hNew
      clear hNew hK K
      replace NP := Lib.hid (NP.out.put (m := (Mem.pc o k AP n c)) rfl)
      replace NF := Lib.hid (NF.out.apart (k' := W0.heap.size) (m := (Mem.pc o k AP n c)) (by omega))
      replace BE := Lib.hid (Bx.bel_cells (k := W0.heap.size) (m := (Mem.pc o k AP n c)) BE.out (Nat.le_refl _))
      refine wpAnyH_ready (rs := [7]) (by kernel_rfl) (by simp) ?_
      refine ready_frame (oi := ?o7a) (x := ?x7a) (y := ?y7a) ?hi7a ?hw7a ?ho7a (W0.heap.size + 1) [.int .u64 0, .int .u64 0, .bool false, .int .i64 0, .int .i64 0, .int .i64 0, .string ⟨#[]⟩] rfl d s g p v t X ?hx7a ?hz7a NF.out (Bx.Blk.apart hHeld (by omega)) ?rest7a
      case hi7a => (simp only [List.getElem?_toArray, List.getElem?_cons_succ, List.getElem?_cons_zero]; rfl)
      case hw7a => rfl
      case ho7a => rfl
      case hx7a => rfl
      case hz7a => rfl
      replace hHeld := Bx.Blk.apart (k' := W0.heap.size + 1) (m := (Mem.fc d s g p v t X)) hHeld (by omega)
      replace NF := Lib.hid (NF.out.put (m := (Mem.fc d s g p v t X)) rfl)
      replace NP := Lib.hid (NP.out.apart (k' := W0.heap.size + 1) (m := (Mem.fc d s g p v t X)) (by omega))
      replace BE := Lib.hid (Bx.bel_cells (k := W0.heap.size + 1) (m := (Mem.fc d s g p v t X)) BE.out (Nat.le_succ _))
      refine wpAnyH_done (by kernel_rfl) ?_ _
      refine NoPanic.normal ?_
      go_wp2_with fail
      go_meet
      exact ⟨W0.heap.size, W0.heap.size + 1, rfl, rfl, (Nat.le_refl _), (Nat.le_succ _), by omega, BE.out, NP.out.1, ⟨NF.out.1, NF.out.1.lt (by simp), fun j => by rw [frozen_cells, frozen_cells]; exact ZZ.out j⟩⟩
    case hst5 =>
      intro K hK
      go_simp
      refine hK.out _ _ (Bx.Blk.more hHeld _) (fun hNew => ?_)
      clear hHeld
      have hHeld := hNew
      clear hNew hK K
      have NF := Lib.hid (Bx.Own.new W0 [.int .u64 0, .int .u64 0, .bool false, .int .i64 0, .int .i64 0, .int .i64 0, .string ⟨#[]⟩] 32).draw
      have BE := Lib.hid (Bx.bel_drewn (Bx.bel_box (Bx.bel_refl W0) (Obj.cells #[.int .u64 0, .int .u64 0, .bool false, .int .i64 0, .int .i64 0, .int .i64 0, .string ⟨#[]⟩] 32)))
      have ZZ := Lib.hid (fun j => show (W0.alloc (Obj.cells #[.int .u64 0, .int .u64 0, .bool false, .int .i64 0, .int .i64 0, .int .i64 0, .string ⟨#[]⟩] 32)).drew.frozen? ⟨W0.heap.size, j, none⟩ = false from World.frozen?_alloc_new W0 #[.int .u64 0, .int .u64 0, .bool false, .int .i64 0, .int .i64 0, .int .i64 0, .string ⟨#[]⟩] 32 j)
      refine wpAnyH_ready (rs := [4]) (by kernel_rfl) (by simp) ?_
      refine AllReadyH.cons (o := ?o4b) ?hi4b ?hst4b AllReadyH.nil
      case hi4b => (simp only [List.getElem?_toArray, List.getElem?_cons_succ, List.getElem?_cons_zero]; rfl)
      intro K hK
      go_simp
      refine hK.out _ _ (Bx.Blk.more hHeld _) (fun hNew => ?_)
      clear hHeld
      have hHeld := hNew
      clear hNew hK K
      replace NF := Lib.hid (NF.out.more (Obj.cells #[.int .i64 0, .int .i64 0, .int .i64 0, .int .i64 0, .int .i64 0, .int .i64 0, .int .i64 0, .int .i64 0, .int .i64 0, .int .i64 0, .int .i64 0, .int .i64 0, .int .i64 0, .int .i64 0, .int .i64 0, .int .i64 0, .slice none 0 0] 28))
      have NP := Lib.hid (Bx.Own.new_at (W := (W0.alloc (Obj.cells #[.int .u64 0, .int .u64 0, .bool false, .int .i64 0, .int .i64 0, .int .i64 0, .string ⟨#[]⟩] 32)).drew) (k := W0.heap.size + 1) [.int .i64 0, .int .i64 0, .int .i64 0, .int .i64 0, .int .i64 0, .int .i64 0, .int .i64 0, .int .i64 0, .int .i64 0, .int .i64 0, .int .i64 0, .int .i64 0, .int .i64 0, .int .i64 0, .int .i64 0, .int .i64 0, .slice none 0 0] 28 (by simp [World.drew]))
      replace BE := Lib.hid (Bx.bel_box BE.out (Obj.cells #[.int .i64 0, .int .i64 0, .int .i64 0, .int .i64 0, .int .i64 0, .int .i64 0, .int .i64 0, .int .i64 0, .int .i64 0, .int .i64 0, .int .i64 0, .int .i64 0, .int .i64 0, .int .i64 0, .int .i64 0, .int .i64 0, .slice none 0 0] 28))
      replace ZZ := Lib.hid (fun j => show ((W0.alloc (Obj.cells #[.int .u64 0, .int .u64 0, .bool false, .int .i64 0, .int .i64 0, .int .i64 0, .string ⟨#[]⟩] 32)).drew.alloc (Obj.cells #[.int .i64 0, .int .i64 0, .int .i64 0, .int .i64 0, .int .i64 0, .int .i64 0, .int .i64 0, .int .i64 0, .int .i64 0, .int .i64 0, .int .i64 0, .int .i64 0, .int .i64 0, .int .i64 0, .int .i64 0, .int .i64 0, .slice none 0 0] 28)).frozen? ⟨W0.heap.size, j, none⟩ = false from (frozen_old (W0.alloc (Obj.cells #[.int .u64 0, .int .u64 0, .bool false, .int .i64 0, .int .i64 0, .int .i64 0, .string ⟨#[]⟩] 32)).drew (Obj.cells #[.int .i64 0, .int .i64 0, .int .i64 0, .int .i64 0, .int .i64 0, .int .i64 0, .int .i64 0, .int .i64 0, .int .i64 0, .int .i64 0, .int .i64 0, .int .i64 0, .int .i64 0, .int .i64 0, .int .i64 0, .int .i64 0, .slice none 0 0] 28) (by simp [World.drew]) j).trans (ZZ.out j))
      refine wpAnyH_ready (rs := [6]) (by kernel_rfl) (by simp) ?_
      refine AllReadyH.cons (o := ?o6b) ?hi6b ?hst6b AllReadyH.nil
      case hi6b => (simp only [List.getElem?_toArray, List.getElem?_cons_succ, List.getElem?_cons_zero]; rfl)
      intro K hK
      rw [if_pos (by rfl)]
      refine wp_store_plan _ _ rfl (W0.heap.size + 1) [.int .i64 0, .int .i64 0, .int .i64 0, .int .i64 0, .int .i64 0, .int .i64 0, .int .i64 0, .int .i64 0, .int .i64 0, .int .i64 0, .int .i64 0, .int .i64 0, .int .i64 0, .int .i64 0, .int .i64 0, .int .i64 0, .slice none 0 0] rfl o k AP n c rfl rfl NP.out ?_
      refine hK.out _ _ (Bx.Blk.apart hHeld (by omega)) (fun hNew => ?_)
      clear hHeld
      have hHeld := hNew
      clear hNew hK K
      replace NP := Lib.hid (NP.out.put (m := (Mem.pc o k AP n c)) rfl)
      replace NF := Lib.hid (NF.out.apart (k' := W0.heap.size + 1) (m := (Mem.pc o k AP n c)) (by omega))
      replace BE := Lib.hid (Bx.bel_cells (k := W0.heap.size + 1) (m := (Mem.pc o k AP n c)) BE.out (Nat.le_succ _))
      refine wpAnyH_ready (rs := [7]) (by kernel_rfl) (by simp) ?_
      refine ready_frame (oi := ?o7b) (x := ?x7b) (y := ?y7b) ?hi7b ?hw7b ?ho7b (W0.heap.size) [.int .u64 0, .int .u64 0, .bool false, .int .i64 0, .int .i64 0, .int .i64 0, .string ⟨#[]⟩] rfl d s g p v t X ?hx7b ?hz7b NF.out (Bx.Blk.apart hHeld (by omega)) ?rest7b
      case hi7b => (simp only [List.getElem?_toArray, List.getElem?_cons_succ, List.getElem?_cons_zero]; rfl)
      case hw7b => rfl
      case ho7b => rfl
      case hx7b => rfl
      case hz7b => rfl
      replace hHeld := Bx.Blk.apart (k' := W0.heap.size) (m := (Mem.fc d s g p v t X)) hHeld (by omega)
      replace NF := Lib.hid (NF.out.put (m := (Mem.fc d s g p v t X)) rfl)
      replace NP := Lib.hid (NP.out.apart (k' := W0.heap.size) (m := (Mem.fc d s g p v t X)) (by omega))
      replace BE := Lib.hid (Bx.bel_cells (k := W0.heap.size) (m := (Mem.fc d s g p v t X)) BE.out (Nat.le_refl _))
      refine wpAnyH_done (by kernel_rfl) ?_ _
      refine NoPanic.normal ?_
      go_wp2_with fail
      go_meet
      exact ⟨W0.heap.size + 1, W0.heap.size, rfl, rfl, (Nat.le_succ _), (Nat.le_refl _), by omega, BE.out, NP.out.1, ⟨NF.out.1, NF.out.1.lt (by simp), fun j => by rw [frozen_cells, frozen_cells]; exact ZZ.out j⟩⟩
  case rest =>
    obtain ⟨m7, m8, rfl, rfl, hm7, hm8, n78, hb, P, FF⟩ := hcut
    have n7a : m7 ≠ w.heap.size ∧ m7 ≠ w.heap.size + 1 + 1 ∧ w.heap.size ≤ m7 := by omega
    have n8a : m8 ≠ w.heap.size ∧ m8 ≠ w.heap.size + 1 + 1 ∧ w.heap.size ≤ m8 := by omega
    replace bel := Bx.then_below bel hb
    replace BT := Lib.hid (BT.out.keep hb)
    replace BY := Lib.hid (BY.out.keep hb)
    replace P := Lib.hid P
    replace FF := Lib.hid FF
    clear hb BX hsz hm7 hm8
    have B0 := BT
    have B1 := BY
    have B2 := P
    have B3 := Lib.hid FF.out.1
    clear BT BY P
    obtain ⟨c0_0, c0_1, c0_2⟩ := B0.out.all3
    obtain ⟨c1_0, c1_1, c1_2⟩ := B1.out.all3
    obtain ⟨c3_0, c3_1, c3_2, c3_3, c3_4, c3_5, c3_6⟩ := B3.out.all7
    go_wp2_with (first | ((with_reducible refine Mem.load_at ?_ ?_ (m7) ?_ o k AP n c ?_ ?_); (· rfl); (· rfl); (· rfl); (· exact B2.out)))
    refine (HLG.out _ bel).mono ?_; rintro e w1 ⟨rfl, hb1⟩
    replace bel := Bx.then_below bel hb1
    replace B0 := Lib.hid (B0.out.keep hb1)
    replace B1 := Lib.hid (B1.out.keep hb1)
    replace B2 := Lib.hid (B2.out.keep hb1)
    replace B3 := Lib.hid (B3.out.keep hb1)
    clear hb1
    clear c0_0 c0_1 c0_2 c1_0 c1_1 c1_2 c3_0 c3_1 c3_2 c3_3 c3_4 c3_5 c3_6
    obtain ⟨c0_0, c0_1, c0_2⟩ := B0.out.all3
    obtain ⟨c1_0, c1_1, c1_2⟩ := B1.out.all3
    obtain ⟨c3_0, c3_1, c3_2, c3_3, c3_4, c3_5, c3_6⟩ := B3.out.all7
    go_wp2_with (first | ((with_reducible refine Mem.load_at ?_ ?_ (m7) ?_ o k AP n c ?_ ?_); (· rfl); (· rfl); (· rfl); (· exact B2.out)))
    refine (HAW.out _ bel).mono ?_; rintro e w2 ⟨rfl, hb2⟩
    replace bel := Bx.then_below bel hb2
    replace B0 := Lib.hid (B0.out.keep hb2)
    replace B1 := Lib.hid (B1.out.keep hb2)
    replace B2 := Lib.hid (B2.out.keep hb2)
    replace B3 := Lib.hid (B3.out.keep hb2)
    clear hb2
    go_wp2_with (first | ((with_reducible refine Mem.load_at ?_ ?_ (m7) ?_ o k AP n c ?_ ?_); (· rfl); (· rfl); (· rfl); (· exact B2.out)))
    go_ret
    exact ⟨rfl, bel⟩

set_option maxRecDepth 100000 in
set_option maxHeartbeats 8000000 in
theorem floods_tab (most long : Int) (l : List Tab.En) (hl : l.length ≤ maxLen) (A : Option Addr) (ct : Nat) (o k : Nat → Int) (AP : Option Addr) (n c : Nat) (d s : Int) (g : Bool) (p v t : Int) (X : ByteArray) (q ln op : Int) (w : World) (hT : (60 : Int) < l.length)
    (HLG : Hid (∀ w', Below w.heap.size w w' → Calls Tryd.prog 6 #[Mem.pv o k AP n c] w' fun e w'' => e = .returned (.bool false) ∧ Below w'.heap.size w' w''))
    (HAW : Hid (∀ w', Below w.heap.size w w' → Calls Tryd.prog 8 #[] w' fun e w'' => e = .returned (.bool true) ∧ Below w'.heap.size w' w'')) :
    Calls Tryd.prog 5 #[tv most long A l.length ct, xv o k AP n c d s g p v t X, .agg #[.int .i64 q, .int .i64 ln, .int .i64 op]] w fun e w' => e = .returned (.bool true) ∧ Below w.heap.size w w' := by
  have hl' : l.length ≤ 9223372036854775807 := hl
  go_enter Tryd.func5, Tryd.ntmps5
  go_wp2
  have BX := Lib.hid ((Bx.Blk.new_at (W := w.alloc (Tab.to most long A l.length ct)) (k := w.heap.size + 1) (xc o k AP n c d s g p v t X) 34 (by simp)).more (.cells #[.int .i64 q, .int .i64 ln, .int .i64 op] 36))
  have BT := Lib.hid (((Bx.Blk.new w [.int .i64 most, .int .i64 long, .slice A l.length ct] 24).more (xo o k AP n c d s g p v t X)).more (.cells #[.int .i64 q, .int .i64 ln, .int .i64 op] 36))
  have BY := Lib.hid (Bx.Blk.new_at (W := (w.alloc (Tab.to most long A l.length ct)).alloc (xo o k AP n c d s g p v t X)) (k := w.heap.size + 1 + 1) [.int .i64 q, .int .i64 ln, .int .i64 op] 36 (by simp))
  have bel := Bx.bel_box (Bx.bel_box (Bx.box_below w (Tab.to most long A l.length ct)) (xo o k AP n c d s g p v t X)) (.cells #[.int .i64 q, .int .i64 ln, .int .i64 op] 36)
  have hsz : w.heap.size + 3 = (((w.alloc (Tab.to most long A l.length ct)).alloc (xo o k AP n c d s g p v t X)).alloc (.cells #[.int .i64 q, .int .i64 ln, .int .i64 op] 36)).heap.size := by simp
  generalize hg : ((w.alloc (Tab.to most long A l.length ct)).alloc (xo o k AP n c d s g p v t X)).alloc (.cells #[.int .i64 q, .int .i64 ln, .int .i64 op] 36) = W0 at *
  clear hg
  go_cut [7, 8] (fun s7 s8 wx => ∃ m7 m8 : Nat, s7 = .pointer (some ⟨m7, 0, none⟩) ∧ s8 = .pointer (some ⟨m8, 0, none⟩) ∧ W0.heap.size ≤ m7 ∧ W0.heap.size ≤ m8 ∧ m7 ≠ m8 ∧ Below W0.heap.size W0 wx ∧ Bx.Blk wx m7 (Mem.pc o k AP n c) ∧ Bx.Fre wx m8 (Mem.fc d s g p v t X))
  case first =>
    refine wp_region_noPanic ?_
    refine wp_region_held_drew (S := fun w' => Bx.Blk w' (w.heap.size + 1) (xc o k AP n c d s g p v t X)) (by kernel_rfl) (by exact BX.out) (fun hHeld => ?_)
    refine wpAnyH_take (i := 0) (oi := ?o0) (v := ?v0) ?hi0 (by kernel_rfl) (by kernel_rfl) (by kernel_rfl) (fun _ _ _ h => h) ?y0 (by assumption) ?r0
    case hi0 => (simp only [List.getElem?_toArray, List.getElem?_cons_zero]; rfl)
    case y0 => (refine Or.inl ⟨by rfl, ?_⟩; intro w' hSw; (try dsimp only at hSw); go_simp; (try with_reducible rfl))
    try simp only [Act.put, List.setIfInBounds_toArray, List.set_cons_zero, List.set_cons_succ]
    refine wpAnyH_take (i := 1) (oi := ?o1) (v := Mem.pv o k AP n c) ?hi1 (by kernel_rfl) (by kernel_rfl) (by kernel_rfl) (fun _ _ _ h => h) ?y1 (by assumption) ?r1
    case hi1 => (simp only [List.getElem?_toArray, List.getElem?_cons_succ, List.getElem?_cons_zero]; rfl)
    case y1 => (refine yields_plan rfl _ rfl (w.heap.size + 1) rfl o k AP n c d s g p v t X ?_; intro w' hS; exact hS)
    try simp only [Act.put, List.setIfInBounds_toArray, List.set_cons_zero, List.set_cons_succ]
    refine wpAnyH_take (i := 2) (oi := ?o2) (v := ?v2) ?hi2 (by kernel_rfl) (by kernel_rfl) (by kernel_rfl) (fun _ _ _ h => h) ?y2 (by assumption) ?r2
    case hi2 => (simp only [List.getElem?_toArray, List.getElem?_cons_succ, List.getElem?_cons_zero]; rfl)
    case y2 => (refine Or.inl ⟨by rfl, ?_⟩; intro w' hSw; (try dsimp only at hSw); go_simp; (try with_reducible rfl))
    try simp only [Act.put, List.setIfInBounds_toArray, List.set_cons_zero, List.set_cons_succ]
    refine wpAnyH_take (i := 3) (oi := ?o3) (v := fr d s g p v t X) ?hi3 (by kernel_rfl) (by kernel_rfl) (by kernel_rfl) (fun _ _ _ h => h) ?y3 (by assumption) ?r3
    case hi3 => (simp only [List.getElem?_toArray, List.getElem?_cons_succ, List.getElem?_cons_zero]; rfl)
    case y3 => (refine yields_frame rfl _ rfl (w.heap.size + 1) rfl o k AP n c d s g p v t X ?_; intro w' hS; exact hS)
    try simp only [Act.put, List.setIfInBounds_toArray, List.set_cons_zero, List.set_cons_succ]
    refine wpAnyH_ready (rs := [4, 5]) (by kernel_rfl) (by simp) ?_
    refine AllReadyH.cons (o := ?o4) ?hi4 ?hst4 (AllReadyH.cons (o := ?o5) ?hi5 ?hst5 AllReadyH.nil)
    case hi4 => (simp only [List.getElem?_toArray, List.getElem?_cons_succ, List.getElem?_cons_zero]; rfl)
    case hi5 => (simp only [List.getElem?_toArray, List.getElem?_cons_succ, List.getElem?_cons_zero]; rfl)
    case hst4 =>
      intro K hK
      go_simp
      refine hK.out _ _ (Bx.Blk.more hHeld _) (fun hNew => ?_)
      clear hHeld
      have hHeld := hNew
      clear hNew hK K
      have NP := Lib.hid (Bx.Own.new W0 [.int .i64 0, .int .i64 0, .int .i64 0, .int .i64 0, .int .i64 0, .int .i64 0, .int .i64 0, .int .i64 0, .int .i64 0, .int .i64 0, .int .i64 0, .int .i64 0, .int .i64 0, .int .i64 0, .int .i64 0, .int .i64 0, .slice none 0 0] 28).draw
      have BE := Lib.hid (Bx.bel_drewn (Bx.bel_box (Bx.bel_refl W0) (Obj.cells #[.int .i64 0, .int .i64 0, .int .i64 0, .int .i64 0, .int .i64 0, .int .i64 0, .int .i64 0, .int .i64 0, .int .i64 0, .int .i64 0, .int .i64 0, .int .i64 0, .int .i64 0, .int .i64 0, .int .i64 0, .int .i64 0, .slice none 0 0] 28)))
      refine wpAnyH_ready (rs := [5]) (by kernel_rfl) (by simp) ?_
      refine AllReadyH.cons (o := ?o5a) ?hi5a ?hst5a AllReadyH.nil
      case hi5a => (simp only [List.getElem?_toArray, List.getElem?_cons_succ, List.getElem?_cons_zero]; rfl)
      intro K hK
      go_simp
      refine hK.out _ _ (Bx.Blk.more hHeld _) (fun hNew => ?_)
      clear hHeld
      have hHeld := hNew
      clear hNew hK K
      replace NP := Lib.hid (NP.out.more (Obj.cells #[.int .u64 0, .int .u64 0, .bool false, .int .i64 0, .int .i64 0, .int .i64 0, .string ⟨#[]⟩] 32))
      have NF := Lib.hid (Bx.Own.new_at (W := (W0.alloc (Obj.cells #[.int .i64 0, .int .i64 0, .int .i64 0, .int .i64 0, .int .i64 0, .int .i64 0, .int .i64 0, .int .i64 0, .int .i64 0, .int .i64 0, .int .i64 0, .int .i64 0, .int .i64 0, .int .i64 0, .int .i64 0, .int .i64 0, .slice none 0 0] 28)).drew) (k := W0.heap.size + 1) [.int .u64 0, .int .u64 0, .bool false, .int .i64 0, .int .i64 0, .int .i64 0, .string ⟨#[]⟩] 32 (by simp [World.drew]))
      replace BE := Lib.hid (Bx.bel_box BE.out (Obj.cells #[.int .u64 0, .int .u64 0, .bool false, .int .i64 0, .int .i64 0, .int .i64 0, .string ⟨#[]⟩] 32))
      have ZZ := Lib.hid (fun j => show ((W0.alloc (Obj.cells #[.int .i64 0, .int .i64 0, .int .i64 0, .int .i64 0, .int .i64 0, .int .i64 0, .int .i64 0, .int .i64 0, .int .i64 0, .int .i64 0, .int .i64 0, .int .i64 0, .int .i64 0, .int .i64 0, .int .i64 0, .int .i64 0, .slice none 0 0] 28)).drew.alloc (Obj.cells #[.int .u64 0, .int .u64 0, .bool false, .int .i64 0, .int .i64 0, .int .i64 0, .string ⟨#[]⟩] 32)).frozen? ⟨W0.heap.size + 1, j, none⟩ = false from frozen_at (W0.alloc (Obj.cells #[.int .i64 0, .int .i64 0, .int .i64 0, .int .i64 0, .int .i64 0, .int .i64 0, .int .i64 0, .int .i64 0, .int .i64 0, .int .i64 0, .int .i64 0, .int .i64 0, .int .i64 0, .int .i64 0, .int .i64 0, .int .i64 0, .slice none 0 0] 28)).drew #[.int .u64 0, .int .u64 0, .bool false, .int .i64 0, .int .i64 0, .int .i64 0, .string ⟨#[]⟩] 32 (by simp [World.drew]) j)
      refine wpAnyH_ready (rs := [6]) (by kernel_rfl) (by simp) ?_
      refine AllReadyH.cons (o := ?o6a) ?hi6a ?hst6a AllReadyH.nil
      case hi6a => (simp only [List.getElem?_toArray, List.getElem?_cons_succ, List.getElem?_cons_zero]; rfl)
      intro K hK
      rw [if_pos (by rfl)]
      refine wp_store_plan _ _ rfl (W0.heap.size) [.int .i64 0, .int .i64 0, .int .i64 0, .int .i64 0, .int .i64 0, .int .i64 0, .int .i64 0, .int .i64 0, .int .i64 0, .int .i64 0, .int .i64 0, .int .i64 0, .int .i64 0, .int .i64 0, .int .i64 0, .int .i64 0, .slice none 0 0] rfl o k AP n c rfl rfl NP.out ?_
      refine hK.out _ _ (Bx.Blk.apart hHeld (by omega)) (fun hNew => ?_)
      clear hHeld
      have hHeld := hNew
      clear hNew hK K
      replace NP := Lib.hid (NP.out.put (m := (Mem.pc o k AP n c)) rfl)
      replace NF := Lib.hid (NF.out.apart (k' := W0.heap.size) (m := (Mem.pc o k AP n c)) (by omega))
      replace BE := Lib.hid (Bx.bel_cells (k := W0.heap.size) (m := (Mem.pc o k AP n c)) BE.out (Nat.le_refl _))
      refine wpAnyH_ready (rs := [7]) (by kernel_rfl) (by simp) ?_
      refine ready_frame (oi := ?o7a) (x := ?x7a) (y := ?y7a) ?hi7a ?hw7a ?ho7a (W0.heap.size + 1) [.int .u64 0, .int .u64 0, .bool false, .int .i64 0, .int .i64 0, .int .i64 0, .string ⟨#[]⟩] rfl d s g p v t X ?hx7a ?hz7a NF.out (Bx.Blk.apart hHeld (by omega)) ?rest7a
      case hi7a => (simp only [List.getElem?_toArray, List.getElem?_cons_succ, List.getElem?_cons_zero]; rfl)
      case hw7a => rfl
      case ho7a => rfl
      case hx7a => rfl
      case hz7a => rfl
      replace hHeld := Bx.Blk.apart (k' := W0.heap.size + 1) (m := (Mem.fc d s g p v t X)) hHeld (by omega)
      replace NF := Lib.hid (NF.out.put (m := (Mem.fc d s g p v t X)) rfl)
      replace NP := Lib.hid (NP.out.apart (k' := W0.heap.size + 1) (m := (Mem.fc d s g p v t X)) (by omega))
      replace BE := Lib.hid (Bx.bel_cells (k := W0.heap.size + 1) (m := (Mem.fc d s g p v t X)) BE.out (Nat.le_succ _))
      refine wpAnyH_done (by kernel_rfl) ?_ _
      refine NoPanic.normal ?_
      go_wp2_with fail
      go_meet
      exact ⟨W0.heap.size, W0.heap.size + 1, rfl, rfl, (Nat.le_refl _), (Nat.le_succ _), by omega, BE.out, NP.out.1, ⟨NF.out.1, NF.out.1.lt (by simp), fun j => by rw [frozen_cells, frozen_cells]; exact ZZ.out j⟩⟩
    case hst5 =>
      intro K hK
      go_simp
      refine hK.out _ _ (Bx.Blk.more hHeld _) (fun hNew => ?_)
      clear hHeld
      have hHeld := hNew
      clear hNew hK K
      have NF := Lib.hid (Bx.Own.new W0 [.int .u64 0, .int .u64 0, .bool false, .int .i64 0, .int .i64 0, .int .i64 0, .string ⟨#[]⟩] 32).draw
      have BE := Lib.hid (Bx.bel_drewn (Bx.bel_box (Bx.bel_refl W0) (Obj.cells #[.int .u64 0, .int .u64 0, .bool false, .int .i64 0, .int .i64 0, .int .i64 0, .string ⟨#[]⟩] 32)))
      have ZZ := Lib.hid (fun j => show (W0.alloc (Obj.cells #[.int .u64 0, .int .u64 0, .bool false, .int .i64 0, .int .i64 0, .int .i64 0, .string ⟨#[]⟩] 32)).drew.frozen? ⟨W0.heap.size, j, none⟩ = false from World.frozen?_alloc_new W0 #[.int .u64 0, .int .u64 0, .bool false, .int .i64 0, .int .i64 0, .int .i64 0, .string ⟨#[]⟩] 32 j)
      refine wpAnyH_ready (rs := [4]) (by kernel_rfl) (by simp) ?_
      refine AllReadyH.cons (o := ?o4b) ?hi4b ?hst4b AllReadyH.nil
      case hi4b => (simp only [List.getElem?_toArray, List.getElem?_cons_succ, List.getElem?_cons_zero]; rfl)
      intro K hK
      go_simp
      refine hK.out _ _ (Bx.Blk.more hHeld _) (fun hNew => ?_)
      clear hHeld
      have hHeld := hNew
      clear hNew hK K
      replace NF := Lib.hid (NF.out.more (Obj.cells #[.int .i64 0, .int .i64 0, .int .i64 0, .int .i64 0, .int .i64 0, .int .i64 0, .int .i64 0, .int .i64 0, .int .i64 0, .int .i64 0, .int .i64 0, .int .i64 0, .int .i64 0, .int .i64 0, .int .i64 0, .int .i64 0, .slice none 0 0] 28))
      have NP := Lib.hid (Bx.Own.new_at (W := (W0.alloc (Obj.cells #[.int .u64 0, .int .u64 0, .bool false, .int .i64 0, .int .i64 0, .int .i64 0, .string ⟨#[]⟩] 32)).drew) (k := W0.heap.size + 1) [.int .i64 0, .int .i64 0, .int .i64 0, .int .i64 0, .int .i64 0, .int .i64 0, .int .i64 0, .int .i64 0, .int .i64 0, .int .i64 0, .int .i64 0, .int .i64 0, .int .i64 0, .int .i64 0, .int .i64 0, .int .i64 0, .slice none 0 0] 28 (by simp [World.drew]))
      replace BE := Lib.hid (Bx.bel_box BE.out (Obj.cells #[.int .i64 0, .int .i64 0, .int .i64 0, .int .i64 0, .int .i64 0, .int .i64 0, .int .i64 0, .int .i64 0, .int .i64 0, .int .i64 0, .int .i64 0, .int .i64 0, .int .i64 0, .int .i64 0, .int .i64 0, .int .i64 0, .slice none 0 0] 28))
      replace ZZ := Lib.hid (fun j => show ((W0.alloc (Obj.cells #[.int .u64 0, .int .u64 0, .bool false, .int .i64 0, .int .i64 0, .int .i64 0, .string ⟨#[]⟩] 32)).drew.alloc (Obj.cells #[.int .i64 0, .int .i64 0, .int .i64 0, .int .i64 0, .int .i64 0, .int .i64 0, .int .i64 0, .int .i64 0, .int .i64 0, .int .i64 0, .int .i64 0, .int .i64 0, .int .i64 0, .int .i64 0, .int .i64 0, .int .i64 0, .slice none 0 0] 28)).frozen? ⟨W0.heap.size, j, none⟩ = false from (frozen_old (W0.alloc (Obj.cells #[.int .u64 0, .int .u64 0, .bool false, .int .i64 0, .int .i64 0, .int .i64 0, .string ⟨#[]⟩] 32)).drew (Obj.cells #[.int .i64 0, .int .i64 0, .int .i64 0, .int .i64 0, .int .i64 0, .int .i64 0, .int .i64 0, .int .i64 0, .int .i64 0, .int .i64 0, .int .i64 0, .int .i64 0, .int .i64 0, .int .i64 0, .int .i64 0, .int .i64 0, .slice none 0 0] 28) (by simp [World.drew]) j).trans (ZZ.out j))
      refine wpAnyH_ready (rs := [6]) (by kernel_rfl) (by simp) ?_
      refine AllReadyH.cons (o := ?o6b) ?hi6b ?hst6b AllReadyH.nil
      case hi6b => (simp only [List.getElem?_toArray, List.getElem?_cons_succ, List.getElem?_cons_zero]; rfl)
      intro K hK
      rw [if_pos (by rfl)]
      refine wp_store_plan _ _ rfl (W0.heap.size + 1) [.int .i64 0, .int .i64 0, .int .i64 0, .int .i64 0, .int .i64 0, .int .i64 0, .int .i64 0, .int .i64 0, .int .i64 0, .int .i64 0, .int .i64 0, .int .i64 0, .int .i64 0, .int .i64 0, .int .i64 0, .int .i64 0, .slice none 0 0] rfl o k AP n c rfl rfl NP.out ?_
      refine hK.out _ _ (Bx.Blk.apart hHeld (by omega)) (fun hNew => ?_)
      clear hHeld
      have hHeld := hNew
      clear hNew hK K
      replace NP := Lib.hid (NP.out.put (m := (Mem.pc o k AP n c)) rfl)
      replace NF := Lib.hid (NF.out.apart (k' := W0.heap.size + 1) (m := (Mem.pc o k AP n c)) (by omega))
      replace BE := Lib.hid (Bx.bel_cells (k := W0.heap.size + 1) (m := (Mem.pc o k AP n c)) BE.out (Nat.le_succ _))
      refine wpAnyH_ready (rs := [7]) (by kernel_rfl) (by simp) ?_
      refine ready_frame (oi := ?o7b) (x := ?x7b) (y := ?y7b) ?hi7b ?hw7b ?ho7b (W0.heap.size) [.int .u64 0, .int .u64 0, .bool false, .int .i64 0, .int .i64 0, .int .i64 0, .string ⟨#[]⟩] rfl d s g p v t X ?hx7b ?hz7b NF.out (Bx.Blk.apart hHeld (by omega)) ?rest7b
      case hi7b => (simp only [List.getElem?_toArray, List.getElem?_cons_succ, List.getElem?_cons_zero]; rfl)
      case hw7b => rfl
      case ho7b => rfl
      case hx7b => rfl
      case hz7b => rfl
      replace hHeld := Bx.Blk.apart (k' := W0.heap.size) (m := (Mem.fc d s g p v t X)) hHeld (by omega)
      replace NF := Lib.hid (NF.out.put (m := (Mem.fc d s g p v t X)) rfl)
      replace NP := Lib.hid (NP.out.apart (k' := W0.heap.size) (m := (Mem.fc d s g p v t X)) (by omega))
      replace BE := Lib.hid (Bx.bel_cells (k := W0.heap.size) (m := (Mem.fc d s g p v t X)) BE.out (Nat.le_refl _))
      refine wpAnyH_done (by kernel_rfl) ?_ _
      refine NoPanic.normal ?_
      go_wp2_with fail
      go_meet
      exact ⟨W0.heap.size + 1, W0.heap.size, rfl, rfl, (Nat.le_succ _), (Nat.le_refl _), by omega, BE.out, NP.out.1, ⟨NF.out.1, NF.out.1.lt (by simp), fun j => by rw [frozen_cells, frozen_cells]; exact ZZ.out j⟩⟩
  case rest =>
    obtain ⟨m7, m8, rfl, rfl, hm7, hm8, n78, hb, P, FF⟩ := hcut
    have n7a : m7 ≠ w.heap.size ∧ m7 ≠ w.heap.size + 1 + 1 ∧ w.heap.size ≤ m7 := by omega
    have n8a : m8 ≠ w.heap.size ∧ m8 ≠ w.heap.size + 1 + 1 ∧ w.heap.size ≤ m8 := by omega
    replace bel := Bx.then_below bel hb
    replace BT := Lib.hid (BT.out.keep hb)
    replace BY := Lib.hid (BY.out.keep hb)
    replace P := Lib.hid P
    replace FF := Lib.hid FF
    clear hb BX hsz hm7 hm8
    have B0 := BT
    have B1 := BY
    have B2 := P
    have B3 := Lib.hid FF.out.1
    clear BT BY P
    obtain ⟨c0_0, c0_1, c0_2⟩ := B0.out.all3
    obtain ⟨c1_0, c1_1, c1_2⟩ := B1.out.all3
    obtain ⟨c3_0, c3_1, c3_2, c3_3, c3_4, c3_5, c3_6⟩ := B3.out.all7
    go_wp2_with (first | ((with_reducible refine Mem.load_at ?_ ?_ (m7) ?_ o k AP n c ?_ ?_); (· rfl); (· rfl); (· rfl); (· exact B2.out)))
    refine (HLG.out _ bel).mono ?_; rintro e w1 ⟨rfl, hb1⟩
    replace bel := Bx.then_below bel hb1
    replace B0 := Lib.hid (B0.out.keep hb1)
    replace B1 := Lib.hid (B1.out.keep hb1)
    replace B2 := Lib.hid (B2.out.keep hb1)
    replace B3 := Lib.hid (B3.out.keep hb1)
    clear hb1
    clear c0_0 c0_1 c0_2 c1_0 c1_1 c1_2 c3_0 c3_1 c3_2 c3_3 c3_4 c3_5 c3_6
    obtain ⟨c0_0, c0_1, c0_2⟩ := B0.out.all3
    obtain ⟨c1_0, c1_1, c1_2⟩ := B1.out.all3
    obtain ⟨c3_0, c3_1, c3_2, c3_3, c3_4, c3_5, c3_6⟩ := B3.out.all7
    go_wp2_with (first | ((with_reducible refine Mem.load_at ?_ ?_ (m7) ?_ o k AP n c ?_ ?_); (· rfl); (· rfl); (· rfl); (· exact B2.out)))
    refine (HAW.out _ bel).mono ?_; rintro e w2 ⟨rfl, hb2⟩
    replace bel := Bx.then_below bel hb2
    replace B0 := Lib.hid (B0.out.keep hb2)
    replace B1 := Lib.hid (B1.out.keep hb2)
    replace B2 := Lib.hid (B2.out.keep hb2)
    replace B3 := Lib.hid (B3.out.keep hb2)
    clear hb2
    go_wp2_with (first | ((with_reducible refine Mem.load_at ?_ ?_ (m7) ?_ o k AP n c ?_ ?_); (· rfl); (· rfl); (· rfl); (· exact B2.out)))
    go_ret
    exact ⟨rfl, bel⟩

set_option maxRecDepth 100000 in
set_option maxHeartbeats 8000000 in
theorem floods_body (most long : Int) (l : List Tab.En) (hl : l.length ≤ maxLen) (A : Option Addr) (ct : Nat) (o k : Nat → Int) (AP : Option Addr) (n c : Nat) (d s : Int) (g : Bool) (p v t : Int) (X : ByteArray) (q ln op : Int) (w : World) (hT : ¬ (60 : Int) < l.length) (hX : 12000 < X.size)
    (HLG : Hid (∀ w', Below w.heap.size w w' → Calls Tryd.prog 6 #[Mem.pv o k AP n c] w' fun e w'' => e = .returned (.bool false) ∧ Below w'.heap.size w' w''))
    (HAW : Hid (∀ w', Below w.heap.size w w' → Calls Tryd.prog 8 #[] w' fun e w'' => e = .returned (.bool true) ∧ Below w'.heap.size w' w'')) :
    Calls Tryd.prog 5 #[tv most long A l.length ct, xv o k AP n c d s g p v t X, .agg #[.int .i64 q, .int .i64 ln, .int .i64 op]] w fun e w' => e = .returned (.bool true) ∧ Below w.heap.size w w' := by
  have hl' : l.length ≤ 9223372036854775807 := hl
  go_enter Tryd.func5, Tryd.ntmps5
  go_wp2
  have BX := Lib.hid ((Bx.Blk.new_at (W := w.alloc (Tab.to most long A l.length ct)) (k := w.heap.size + 1) (xc o k AP n c d s g p v t X) 34 (by simp)).more (.cells #[.int .i64 q, .int .i64 ln, .int .i64 op] 36))
  have BT := Lib.hid (((Bx.Blk.new w [.int .i64 most, .int .i64 long, .slice A l.length ct] 24).more (xo o k AP n c d s g p v t X)).more (.cells #[.int .i64 q, .int .i64 ln, .int .i64 op] 36))
  have BY := Lib.hid (Bx.Blk.new_at (W := (w.alloc (Tab.to most long A l.length ct)).alloc (xo o k AP n c d s g p v t X)) (k := w.heap.size + 1 + 1) [.int .i64 q, .int .i64 ln, .int .i64 op] 36 (by simp))
  have bel := Bx.bel_box (Bx.bel_box (Bx.box_below w (Tab.to most long A l.length ct)) (xo o k AP n c d s g p v t X)) (.cells #[.int .i64 q, .int .i64 ln, .int .i64 op] 36)
  have hsz : w.heap.size + 3 = (((w.alloc (Tab.to most long A l.length ct)).alloc (xo o k AP n c d s g p v t X)).alloc (.cells #[.int .i64 q, .int .i64 ln, .int .i64 op] 36)).heap.size := by simp
  generalize hg : ((w.alloc (Tab.to most long A l.length ct)).alloc (xo o k AP n c d s g p v t X)).alloc (.cells #[.int .i64 q, .int .i64 ln, .int .i64 op] 36) = W0 at *
  clear hg
  go_cut [7, 8] (fun s7 s8 wx => ∃ m7 m8 : Nat, s7 = .pointer (some ⟨m7, 0, none⟩) ∧ s8 = .pointer (some ⟨m8, 0, none⟩) ∧ W0.heap.size ≤ m7 ∧ W0.heap.size ≤ m8 ∧ m7 ≠ m8 ∧ Below W0.heap.size W0 wx ∧ Bx.Blk wx m7 (Mem.pc o k AP n c) ∧ Bx.Fre wx m8 (Mem.fc d s g p v t X))
  case first =>
    refine wp_region_noPanic ?_
    refine wp_region_held_drew (S := fun w' => Bx.Blk w' (w.heap.size + 1) (xc o k AP n c d s g p v t X)) (by kernel_rfl) (by exact BX.out) (fun hHeld => ?_)
    refine wpAnyH_take (i := 0) (oi := ?o0) (v := ?v0) ?hi0 (by kernel_rfl) (by kernel_rfl) (by kernel_rfl) (fun _ _ _ h => h) ?y0 (by assumption) ?r0
    case hi0 => (simp only [List.getElem?_toArray, List.getElem?_cons_zero]; rfl)
    case y0 => (refine Or.inl ⟨by rfl, ?_⟩; intro w' hSw; (try dsimp only at hSw); go_simp; (try with_reducible rfl))
    try simp only [Act.put, List.setIfInBounds_toArray, List.set_cons_zero, List.set_cons_succ]
    refine wpAnyH_take (i := 1) (oi := ?o1) (v := Mem.pv o k AP n c) ?hi1 (by kernel_rfl) (by kernel_rfl) (by kernel_rfl) (fun _ _ _ h => h) ?y1 (by assumption) ?r1
    case hi1 => (simp only [List.getElem?_toArray, List.getElem?_cons_succ, List.getElem?_cons_zero]; rfl)
    case y1 => (refine yields_plan rfl _ rfl (w.heap.size + 1) rfl o k AP n c d s g p v t X ?_; intro w' hS; exact hS)
    try simp only [Act.put, List.setIfInBounds_toArray, List.set_cons_zero, List.set_cons_succ]
    refine wpAnyH_take (i := 2) (oi := ?o2) (v := ?v2) ?hi2 (by kernel_rfl) (by kernel_rfl) (by kernel_rfl) (fun _ _ _ h => h) ?y2 (by assumption) ?r2
    case hi2 => (simp only [List.getElem?_toArray, List.getElem?_cons_succ, List.getElem?_cons_zero]; rfl)
    case y2 => (refine Or.inl ⟨by rfl, ?_⟩; intro w' hSw; (try dsimp only at hSw); go_simp; (try with_reducible rfl))
    try simp only [Act.put, List.setIfInBounds_toArray, List.set_cons_zero, List.set_cons_succ]
    refine wpAnyH_take (i := 3) (oi := ?o3) (v := fr d s g p v t X) ?hi3 (by kernel_rfl) (by kernel_rfl) (by kernel_rfl) (fun _ _ _ h => h) ?y3 (by assumption) ?r3
    case hi3 => (simp only [List.getElem?_toArray, List.getElem?_cons_succ, List.getElem?_cons_zero]; rfl)
    case y3 => (refine yields_frame rfl _ rfl (w.heap.size + 1) rfl o k AP n c d s g p v t X ?_; intro w' hS; exact hS)
    try simp only [Act.put, List.setIfInBounds_toArray, List.set_cons_zero, List.set_cons_succ]
    refine wpAnyH_ready (rs := [4, 5]) (by kernel_rfl) (by simp) ?_
    refine AllReadyH.cons (o := ?o4) ?hi4 ?hst4 (AllReadyH.cons (o := ?o5) ?hi5 ?hst5 AllReadyH.nil)
    case hi4 => (simp only [List.getElem?_toArray, List.getElem?_cons_succ, List.getElem?_cons_zero]; rfl)
    case hi5 => (simp only [List.getElem?_toArray, List.getElem?_cons_succ, List.getElem?_cons_zero]; rfl)
    case hst4 =>
      intro K hK
      go_simp
      refine hK.out _ _ (Bx.Blk.more hHeld _) (fun hNew => ?_)
      clear hHeld
      have hHeld := hNew
      clear hNew hK K
      have NP := Lib.hid (Bx.Own.new W0 [.int .i64 0, .int .i64 0, .int .i64 0, .int .i64 0, .int .i64 0, .int .i64 0, .int .i64 0, .int .i64 0, .int .i64 0, .int .i64 0, .int .i64 0, .int .i64 0, .int .i64 0, .int .i64 0, .int .i64 0, .int .i64 0, .slice none 0 0] 28).draw
      have BE := Lib.hid (Bx.bel_drewn (Bx.bel_box (Bx.bel_refl W0) (Obj.cells #[.int .i64 0, .int .i64 0, .int .i64 0, .int .i64 0, .int .i64 0, .int .i64 0, .int .i64 0, .int .i64 0, .int .i64 0, .int .i64 0, .int .i64 0, .int .i64 0, .int .i64 0, .int .i64 0, .int .i64 0, .int .i64 0, .slice none 0 0] 28)))
      refine wpAnyH_ready (rs := [5]) (by kernel_rfl) (by simp) ?_
      refine AllReadyH.cons (o := ?o5a) ?hi5a ?hst5a AllReadyH.nil
      case hi5a => (simp only [List.getElem?_toArray, List.getElem?_cons_succ, List.getElem?_cons_zero]; rfl)
      intro K hK
      go_simp
      refine hK.out _ _ (Bx.Blk.more hHeld _) (fun hNew => ?_)
      clear hHeld
      have hHeld := hNew
      clear hNew hK K
      replace NP := Lib.hid (NP.out.more (Obj.cells #[.int .u64 0, .int .u64 0, .bool false, .int .i64 0, .int .i64 0, .int .i64 0, .string ⟨#[]⟩] 32))
      have NF := Lib.hid (Bx.Own.new_at (W := (W0.alloc (Obj.cells #[.int .i64 0, .int .i64 0, .int .i64 0, .int .i64 0, .int .i64 0, .int .i64 0, .int .i64 0, .int .i64 0, .int .i64 0, .int .i64 0, .int .i64 0, .int .i64 0, .int .i64 0, .int .i64 0, .int .i64 0, .int .i64 0, .slice none 0 0] 28)).drew) (k := W0.heap.size + 1) [.int .u64 0, .int .u64 0, .bool false, .int .i64 0, .int .i64 0, .int .i64 0, .string ⟨#[]⟩] 32 (by simp [World.drew]))
      replace BE := Lib.hid (Bx.bel_box BE.out (Obj.cells #[.int .u64 0, .int .u64 0, .bool false, .int .i64 0, .int .i64 0, .int .i64 0, .string ⟨#[]⟩] 32))
      have ZZ := Lib.hid (fun j => show ((W0.alloc (Obj.cells #[.int .i64 0, .int .i64 0, .int .i64 0, .int .i64 0, .int .i64 0, .int .i64 0, .int .i64 0, .int .i64 0, .int .i64 0, .int .i64 0, .int .i64 0, .int .i64 0, .int .i64 0, .int .i64 0, .int .i64 0, .int .i64 0, .slice none 0 0] 28)).drew.alloc (Obj.cells #[.int .u64 0, .int .u64 0, .bool false, .int .i64 0, .int .i64 0, .int .i64 0, .string ⟨#[]⟩] 32)).frozen? ⟨W0.heap.size + 1, j, none⟩ = false from frozen_at (W0.alloc (Obj.cells #[.int .i64 0, .int .i64 0, .int .i64 0, .int .i64 0, .int .i64 0, .int .i64 0, .int .i64 0, .int .i64 0, .int .i64 0, .int .i64 0, .int .i64 0, .int .i64 0, .int .i64 0, .int .i64 0, .int .i64 0, .int .i64 0, .slice none 0 0] 28)).drew #[.int .u64 0, .int .u64 0, .bool false, .int .i64 0, .int .i64 0, .int .i64 0, .string ⟨#[]⟩] 32 (by simp [World.drew]) j)
      refine wpAnyH_ready (rs := [6]) (by kernel_rfl) (by simp) ?_
      refine AllReadyH.cons (o := ?o6a) ?hi6a ?hst6a AllReadyH.nil
      case hi6a => (simp only [List.getElem?_toArray, List.getElem?_cons_succ, List.getElem?_cons_zero]; rfl)
      intro K hK
      rw [if_pos (by rfl)]
      refine wp_store_plan _ _ rfl (W0.heap.size) [.int .i64 0, .int .i64 0, .int .i64 0, .int .i64 0, .int .i64 0, .int .i64 0, .int .i64 0, .int .i64 0, .int .i64 0, .int .i64 0, .int .i64 0, .int .i64 0, .int .i64 0, .int .i64 0, .int .i64 0, .int .i64 0, .slice none 0 0] rfl o k AP n c rfl rfl NP.out ?_
      refine hK.out _ _ (Bx.Blk.apart hHeld (by omega)) (fun hNew => ?_)
      clear hHeld
      have hHeld := hNew
      clear hNew hK K
      replace NP := Lib.hid (NP.out.put (m := (Mem.pc o k AP n c)) rfl)
      replace NF := Lib.hid (NF.out.apart (k' := W0.heap.size) (m := (Mem.pc o k AP n c)) (by omega))
      replace BE := Lib.hid (Bx.bel_cells (k := W0.heap.size) (m := (Mem.pc o k AP n c)) BE.out (Nat.le_refl _))
      refine wpAnyH_ready (rs := [7]) (by kernel_rfl) (by simp) ?_
      refine ready_frame (oi := ?o7a) (x := ?x7a) (y := ?y7a) ?hi7a ?hw7a ?ho7a (W0.heap.size + 1) [.int .u64 0, .int .u64 0, .bool false, .int .i64 0, .int .i64 0, .int .i64 0, .string ⟨#[]⟩] rfl d s g p v t X ?hx7a ?hz7a NF.out (Bx.Blk.apart hHeld (by omega)) ?rest7a
      case hi7a => (simp only [List.getElem?_toArray, List.getElem?_cons_succ, List.getElem?_cons_zero]; rfl)
      case hw7a => rfl
      case ho7a => rfl
      case hx7a => rfl
      case hz7a => rfl
      replace hHeld := Bx.Blk.apart (k' := W0.heap.size + 1) (m := (Mem.fc d s g p v t X)) hHeld (by omega)
      replace NF := Lib.hid (NF.out.put (m := (Mem.fc d s g p v t X)) rfl)
      replace NP := Lib.hid (NP.out.apart (k' := W0.heap.size + 1) (m := (Mem.fc d s g p v t X)) (by omega))
      replace BE := Lib.hid (Bx.bel_cells (k := W0.heap.size + 1) (m := (Mem.fc d s g p v t X)) BE.out (Nat.le_succ _))
      refine wpAnyH_done (by kernel_rfl) ?_ _
      refine NoPanic.normal ?_
      go_wp2_with fail
      go_meet
      exact ⟨W0.heap.size, W0.heap.size + 1, rfl, rfl, (Nat.le_refl _), (Nat.le_succ _), by omega, BE.out, NP.out.1, ⟨NF.out.1, NF.out.1.lt (by simp), fun j => by rw [frozen_cells, frozen_cells]; exact ZZ.out j⟩⟩
    case hst5 =>
      intro K hK
      go_simp
      refine hK.out _ _ (Bx.Blk.more hHeld _) (fun hNew => ?_)
      clear hHeld
      have hHeld := hNew
      clear hNew hK K
      have NF := Lib.hid (Bx.Own.new W0 [.int .u64 0, .int .u64 0, .bool false, .int .i64 0, .int .i64 0, .int .i64 0, .string ⟨#[]⟩] 32).draw
      have BE := Lib.hid (Bx.bel_drewn (Bx.bel_box (Bx.bel_refl W0) (Obj.cells #[.int .u64 0, .int .u64 0, .bool false, .int .i64 0, .int .i64 0, .int .i64 0, .string ⟨#[]⟩] 32)))
      have ZZ := Lib.hid (fun j => show (W0.alloc (Obj.cells #[.int .u64 0, .int .u64 0, .bool false, .int .i64 0, .int .i64 0, .int .i64 0, .string ⟨#[]⟩] 32)).drew.frozen? ⟨W0.heap.size, j, none⟩ = false from World.frozen?_alloc_new W0 #[.int .u64 0, .int .u64 0, .bool false, .int .i64 0, .int .i64 0, .int .i64 0, .string ⟨#[]⟩] 32 j)
      refine wpAnyH_ready (rs := [4]) (by kernel_rfl) (by simp) ?_
      refine AllReadyH.cons (o := ?o4b) ?hi4b ?hst4b AllReadyH.nil
      case hi4b => (simp only [List.getElem?_toArray, List.getElem?_cons_succ, List.getElem?_cons_zero]; rfl)
      intro K hK
      go_simp
      refine hK.out _ _ (Bx.Blk.more hHeld _) (fun hNew => ?_)
      clear hHeld
      have hHeld := hNew
      clear hNew hK K
      replace NF := Lib.hid (NF.out.more (Obj.cells #[.int .i64 0, .int .i64 0, .int .i64 0, .int .i64 0, .int .i64 0, .int .i64 0, .int .i64 0, .int .i64 0, .int .i64 0, .int .i64 0, .int .i64 0, .int .i64 0, .int .i64 0, .int .i64 0, .int .i64 0, .int .i64 0, .slice none 0 0] 28))
      have NP := Lib.hid (Bx.Own.new_at (W := (W0.alloc (Obj.cells #[.int .u64 0, .int .u64 0, .bool false, .int .i64 0, .int .i64 0, .int .i64 0, .string ⟨#[]⟩] 32)).drew) (k := W0.heap.size + 1) [.int .i64 0, .int .i64 0, .int .i64 0, .int .i64 0, .int .i64 0, .int .i64 0, .int .i64 0, .int .i64 0, .int .i64 0, .int .i64 0, .int .i64 0, .int .i64 0, .int .i64 0, .int .i64 0, .int .i64 0, .int .i64 0, .slice none 0 0] 28 (by simp [World.drew]))
      replace BE := Lib.hid (Bx.bel_box BE.out (Obj.cells #[.int .i64 0, .int .i64 0, .int .i64 0, .int .i64 0, .int .i64 0, .int .i64 0, .int .i64 0, .int .i64 0, .int .i64 0, .int .i64 0, .int .i64 0, .int .i64 0, .int .i64 0, .int .i64 0, .int .i64 0, .int .i64 0, .slice none 0 0] 28))
      replace ZZ := Lib.hid (fun j => show ((W0.alloc (Obj.cells #[.int .u64 0, .int .u64 0, .bool false, .int .i64 0, .int .i64 0, .int .i64 0, .string ⟨#[]⟩] 32)).drew.alloc (Obj.cells #[.int .i64 0, .int .i64 0, .int .i64 0, .int .i64 0, .int .i64 0, .int .i64 0, .int .i64 0, .int .i64 0, .int .i64 0, .int .i64 0, .int .i64 0, .int .i64 0, .int .i64 0, .int .i64 0, .int .i64 0, .int .i64 0, .slice none 0 0] 28)).frozen? ⟨W0.heap.size, j, none⟩ = false from (frozen_old (W0.alloc (Obj.cells #[.int .u64 0, .int .u64 0, .bool false, .int .i64 0, .int .i64 0, .int .i64 0, .string ⟨#[]⟩] 32)).drew (Obj.cells #[.int .i64 0, .int .i64 0, .int .i64 0, .int .i64 0, .int .i64 0, .int .i64 0, .int .i64 0, .int .i64 0, .int .i64 0, .int .i64 0, .int .i64 0, .int .i64 0, .int .i64 0, .int .i64 0, .int .i64 0, .int .i64 0, .slice none 0 0] 28) (by simp [World.drew]) j).trans (ZZ.out j))
      refine wpAnyH_ready (rs := [6]) (by kernel_rfl) (by simp) ?_
      refine AllReadyH.cons (o := ?o6b) ?hi6b ?hst6b AllReadyH.nil
      case hi6b => (simp only [List.getElem?_toArray, List.getElem?_cons_succ, List.getElem?_cons_zero]; rfl)
      intro K hK
      rw [if_pos (by rfl)]
      refine wp_store_plan _ _ rfl (W0.heap.size + 1) [.int .i64 0, .int .i64 0, .int .i64 0, .int .i64 0, .int .i64 0, .int .i64 0, .int .i64 0, .int .i64 0, .int .i64 0, .int .i64 0, .int .i64 0, .int .i64 0, .int .i64 0, .int .i64 0, .int .i64 0, .int .i64 0, .slice none 0 0] rfl o k AP n c rfl rfl NP.out ?_
      refine hK.out _ _ (Bx.Blk.apart hHeld (by omega)) (fun hNew => ?_)
      clear hHeld
      have hHeld := hNew
      clear hNew hK K
      replace NP := Lib.hid (NP.out.put (m := (Mem.pc o k AP n c)) rfl)
      replace NF := Lib.hid (NF.out.apart (k' := W0.heap.size + 1) (m := (Mem.pc o k AP n c)) (by omega))
      replace BE := Lib.hid (Bx.bel_cells (k := W0.heap.size + 1) (m := (Mem.pc o k AP n c)) BE.out (Nat.le_succ _))
      refine wpAnyH_ready (rs := [7]) (by kernel_rfl) (by simp) ?_
      refine ready_frame (oi := ?o7b) (x := ?x7b) (y := ?y7b) ?hi7b ?hw7b ?ho7b (W0.heap.size) [.int .u64 0, .int .u64 0, .bool false, .int .i64 0, .int .i64 0, .int .i64 0, .string ⟨#[]⟩] rfl d s g p v t X ?hx7b ?hz7b NF.out (Bx.Blk.apart hHeld (by omega)) ?rest7b
      case hi7b => (simp only [List.getElem?_toArray, List.getElem?_cons_succ, List.getElem?_cons_zero]; rfl)
      case hw7b => rfl
      case ho7b => rfl
      case hx7b => rfl
      case hz7b => rfl
      replace hHeld := Bx.Blk.apart (k' := W0.heap.size) (m := (Mem.fc d s g p v t X)) hHeld (by omega)
      replace NF := Lib.hid (NF.out.put (m := (Mem.fc d s g p v t X)) rfl)
      replace NP := Lib.hid (NP.out.apart (k' := W0.heap.size) (m := (Mem.fc d s g p v t X)) (by omega))
      replace BE := Lib.hid (Bx.bel_cells (k := W0.heap.size) (m := (Mem.fc d s g p v t X)) BE.out (Nat.le_refl _))
      refine wpAnyH_done (by kernel_rfl) ?_ _
      refine NoPanic.normal ?_
      go_wp2_with fail
      go_meet
      exact ⟨W0.heap.size + 1, W0.heap.size, rfl, rfl, (Nat.le_succ _), (Nat.le_refl _), by omega, BE.out, NP.out.1, ⟨NF.out.1, NF.out.1.lt (by simp), fun j => by rw [frozen_cells, frozen_cells]; exact ZZ.out j⟩⟩
  case rest =>
    obtain ⟨m7, m8, rfl, rfl, hm7, hm8, n78, hb, P, FF⟩ := hcut
    have n7a : m7 ≠ w.heap.size ∧ m7 ≠ w.heap.size + 1 + 1 ∧ w.heap.size ≤ m7 := by omega
    have n8a : m8 ≠ w.heap.size ∧ m8 ≠ w.heap.size + 1 + 1 ∧ w.heap.size ≤ m8 := by omega
    replace bel := Bx.then_below bel hb
    replace BT := Lib.hid (BT.out.keep hb)
    replace BY := Lib.hid (BY.out.keep hb)
    replace P := Lib.hid P
    replace FF := Lib.hid FF
    clear hb BX hsz hm7 hm8
    have B0 := BT
    have B1 := BY
    have B2 := P
    have B3 := Lib.hid FF.out.1
    clear BT BY P
    obtain ⟨c0_0, c0_1, c0_2⟩ := B0.out.all3
    obtain ⟨c1_0, c1_1, c1_2⟩ := B1.out.all3
    obtain ⟨c3_0, c3_1, c3_2, c3_3, c3_4, c3_5, c3_6⟩ := B3.out.all7
    go_wp2_with (first | ((with_reducible refine Mem.load_at ?_ ?_ (m7) ?_ o k AP n c ?_ ?_); (· rfl); (· rfl); (· rfl); (· exact B2.out)))
    refine (HLG.out _ bel).mono ?_; rintro e w1 ⟨rfl, hb1⟩
    replace bel := Bx.then_below bel hb1
    replace B0 := Lib.hid (B0.out.keep hb1)
    replace B1 := Lib.hid (B1.out.keep hb1)
    replace B2 := Lib.hid (B2.out.keep hb1)
    replace B3 := Lib.hid (B3.out.keep hb1)
    clear hb1
    clear c0_0 c0_1 c0_2 c1_0 c1_1 c1_2 c3_0 c3_1 c3_2 c3_3 c3_4 c3_5 c3_6
    obtain ⟨c0_0, c0_1, c0_2⟩ := B0.out.all3
    obtain ⟨c1_0, c1_1, c1_2⟩ := B1.out.all3
    obtain ⟨c3_0, c3_1, c3_2, c3_3, c3_4, c3_5, c3_6⟩ := B3.out.all7
    go_wp2_with (first | ((with_reducible refine Mem.load_at ?_ ?_ (m7) ?_ o k AP n c ?_ ?_); (· rfl); (· rfl); (· rfl); (· exact B2.out)))
    refine (HAW.out _ bel).mono ?_; rintro e w2 ⟨rfl, hb2⟩
    replace bel := Bx.then_below bel hb2
    replace B0 := Lib.hid (B0.out.keep hb2)
    replace B1 := Lib.hid (B1.out.keep hb2)
    replace B2 := Lib.hid (B2.out.keep hb2)
    replace B3 := Lib.hid (B3.out.keep hb2)
    clear hb2
    go_wp2_with (first | ((with_reducible refine Mem.load_at ?_ ?_ (m7) ?_ o k AP n c ?_ ?_); (· rfl); (· rfl); (· rfl); (· exact B2.out)))
    go_ret
    exact ⟨rfl, bel⟩

set_option maxRecDepth 100000 in
set_option maxHeartbeats 8000000 in
theorem floods_true (most long : Int) (l : List Tab.En) (hl : l.length ≤ maxLen) (A : Option Addr) (ct : Nat) (o k : Nat → Int) (AP : Option Addr) (n c : Nat) (d s : Int) (g : Bool) (p v t : Int) (X : ByteArray) (q ln op : Int) (w : World) (hT : ¬ (60 : Int) < l.length) (hX : ¬ 12000 < X.size) (E F O : Int) (hE : bits .or .u64 1099511627776 (bits .and .u64 d 65535) = E)
    (HLG : Hid (∀ w', Below w.heap.size w w' → Calls Tryd.prog 6 #[Mem.pv o k AP n c] w' fun e w'' => e = .returned (.bool false) ∧ Below w'.heap.size w' w''))
    (HOF : Hid (∀ w', Below w.heap.size w w' → Calls Tryd.prog 27 #[Mem.pv o k AP n c, .int .i64 v] w' fun e w'' => e = .returned (.int .i64 F) ∧ Below w'.heap.size w' w''))
    (HWO : Hid (∀ w', Below w.heap.size w w' → Calls Tryd.prog 29 #[.int .i64 (bits .and .i64 F op), .int .i64 q] w' fun e w'' => e = .returned (.int .i64 O) ∧ Below w'.heap.size w' w''))
    (HHA : Hid (∀ w', Below w.heap.size w w' → Calls Tryd.prog 22 #[.int .i64 op, .int .i64 q] w' fun e w'' => e = .returned (.bool true) ∧ Below w'.heap.size w' w''))
    (HPO : Hid (∀ w', Below w.heap.size w w' → Calls Tryd.prog 16 #[tv most long A l.length ct, Mem.pv o k AP n c, fr E s g p v 2048 X, .int .i64 v, .int .i64 q, .int .i64 op] w' fun e w'' => e = .returned (.int .i64 O) ∧ Below w'.heap.size w' w''))
    (HKI : Hid (∀ w', Below w.heap.size w w' → Calls Tryd.prog 12 #[fr E s g p v 2048 X] w' fun e w'' => e = .returned (.int .i64 0) ∧ Below w'.heap.size w' w''))
    (HAW : Hid (∀ w', Below w.heap.size w w' → Calls Tryd.prog 8 #[] w' fun e w'' => e = .returned (.bool true) ∧ Below w'.heap.size w' w'')) :
    Calls Tryd.prog 5 #[tv most long A l.length ct, xv o k AP n c d s g p v t X, .agg #[.int .i64 q, .int .i64 ln, .int .i64 op]] w fun e w' => e = .returned (.bool true) ∧ Below w.heap.size w w' := by
  have hl' : l.length ≤ 9223372036854775807 := hl
  go_enter Tryd.func5, Tryd.ntmps5
  go_wp2
  have BX := Lib.hid ((Bx.Blk.new_at (W := w.alloc (Tab.to most long A l.length ct)) (k := w.heap.size + 1) (xc o k AP n c d s g p v t X) 34 (by simp)).more (.cells #[.int .i64 q, .int .i64 ln, .int .i64 op] 36))
  have BT := Lib.hid (((Bx.Blk.new w [.int .i64 most, .int .i64 long, .slice A l.length ct] 24).more (xo o k AP n c d s g p v t X)).more (.cells #[.int .i64 q, .int .i64 ln, .int .i64 op] 36))
  have BY := Lib.hid (Bx.Blk.new_at (W := (w.alloc (Tab.to most long A l.length ct)).alloc (xo o k AP n c d s g p v t X)) (k := w.heap.size + 1 + 1) [.int .i64 q, .int .i64 ln, .int .i64 op] 36 (by simp))
  have bel := Bx.bel_box (Bx.bel_box (Bx.box_below w (Tab.to most long A l.length ct)) (xo o k AP n c d s g p v t X)) (.cells #[.int .i64 q, .int .i64 ln, .int .i64 op] 36)
  have hsz : w.heap.size + 3 = (((w.alloc (Tab.to most long A l.length ct)).alloc (xo o k AP n c d s g p v t X)).alloc (.cells #[.int .i64 q, .int .i64 ln, .int .i64 op] 36)).heap.size := by simp
  generalize hg : ((w.alloc (Tab.to most long A l.length ct)).alloc (xo o k AP n c d s g p v t X)).alloc (.cells #[.int .i64 q, .int .i64 ln, .int .i64 op] 36) = W0 at *
  clear hg
  go_cut [7, 8] (fun s7 s8 wx => ∃ m7 m8 : Nat, s7 = .pointer (some ⟨m7, 0, none⟩) ∧ s8 = .pointer (some ⟨m8, 0, none⟩) ∧ W0.heap.size ≤ m7 ∧ W0.heap.size ≤ m8 ∧ m7 ≠ m8 ∧ Below W0.heap.size W0 wx ∧ Bx.Blk wx m7 (Mem.pc o k AP n c) ∧ Bx.Fre wx m8 (Mem.fc d s g p v t X))
  case first =>
    refine wp_region_noPanic ?_
    refine wp_region_held_drew (S := fun w' => Bx.Blk w' (w.heap.size + 1) (xc o k AP n c d s g p v t X)) (by kernel_rfl) (by exact BX.out) (fun hHeld => ?_)
    refine wpAnyH_take (i := 0) (oi := ?o0) (v := ?v0) ?hi0 (by kernel_rfl) (by kernel_rfl) (by kernel_rfl) (fun _ _ _ h => h) ?y0 (by assumption) ?r0
    case hi0 => (simp only [List.getElem?_toArray, List.getElem?_cons_zero]; rfl)
    case y0 => (refine Or.inl ⟨by rfl, ?_⟩; intro w' hSw; (try dsimp only at hSw); go_simp; (try with_reducible rfl))
    try simp only [Act.put, List.setIfInBounds_toArray, List.set_cons_zero, List.set_cons_succ]
    refine wpAnyH_take (i := 1) (oi := ?o1) (v := Mem.pv o k AP n c) ?hi1 (by kernel_rfl) (by kernel_rfl) (by kernel_rfl) (fun _ _ _ h => h) ?y1 (by assumption) ?r1
    case hi1 => (simp only [List.getElem?_toArray, List.getElem?_cons_succ, List.getElem?_cons_zero]; rfl)
    case y1 => (refine yields_plan rfl _ rfl (w.heap.size + 1) rfl o k AP n c d s g p v t X ?_; intro w' hS; exact hS)
    try simp only [Act.put, List.setIfInBounds_toArray, List.set_cons_zero, List.set_cons_succ]
    refine wpAnyH_take (i := 2) (oi := ?o2) (v := ?v2) ?hi2 (by kernel_rfl) (by kernel_rfl) (by kernel_rfl) (fun _ _ _ h => h) ?y2 (by assumption) ?r2
    case hi2 => (simp only [List.getElem?_toArray, List.getElem?_cons_succ, List.getElem?_cons_zero]; rfl)
    case y2 => (refine Or.inl ⟨by rfl, ?_⟩; intro w' hSw; (try dsimp only at hSw); go_simp; (try with_reducible rfl))
    try simp only [Act.put, List.setIfInBounds_toArray, List.set_cons_zero, List.set_cons_succ]
    refine wpAnyH_take (i := 3) (oi := ?o3) (v := fr d s g p v t X) ?hi3 (by kernel_rfl) (by kernel_rfl) (by kernel_rfl) (fun _ _ _ h => h) ?y3 (by assumption) ?r3
    case hi3 => (simp only [List.getElem?_toArray, List.getElem?_cons_succ, List.getElem?_cons_zero]; rfl)
    case y3 => (refine yields_frame rfl _ rfl (w.heap.size + 1) rfl o k AP n c d s g p v t X ?_; intro w' hS; exact hS)
    try simp only [Act.put, List.setIfInBounds_toArray, List.set_cons_zero, List.set_cons_succ]
    refine wpAnyH_ready (rs := [4, 5]) (by kernel_rfl) (by simp) ?_
    refine AllReadyH.cons (o := ?o4) ?hi4 ?hst4 (AllReadyH.cons (o := ?o5) ?hi5 ?hst5 AllReadyH.nil)
    case hi4 => (simp only [List.getElem?_toArray, List.getElem?_cons_succ, List.getElem?_cons_zero]; rfl)
    case hi5 => (simp only [List.getElem?_toArray, List.getElem?_cons_succ, List.getElem?_cons_zero]; rfl)
    case hst4 =>
      intro K hK
      go_simp
      refine hK.out _ _ (Bx.Blk.more hHeld _) (fun hNew => ?_)
      clear hHeld
      have hHeld := hNew
      clear hNew hK K
      have NP := Lib.hid (Bx.Own.new W0 [.int .i64 0, .int .i64 0, .int .i64 0, .int .i64 0, .int .i64 0, .int .i64 0, .int .i64 0, .int .i64 0, .int .i64 0, .int .i64 0, .int .i64 0, .int .i64 0, .int .i64 0, .int .i64 0, .int .i64 0, .int .i64 0, .slice none 0 0] 28).draw
      have BE := Lib.hid (Bx.bel_drewn (Bx.bel_box (Bx.bel_refl W0) (Obj.cells #[.int .i64 0, .int .i64 0, .int .i64 0, .int .i64 0, .int .i64 0, .int .i64 0, .int .i64 0, .int .i64 0, .int .i64 0, .int .i64 0, .int .i64 0, .int .i64 0, .int .i64 0, .int .i64 0, .int .i64 0, .int .i64 0, .slice none 0 0] 28)))
      refine wpAnyH_ready (rs := [5]) (by kernel_rfl) (by simp) ?_
      refine AllReadyH.cons (o := ?o5a) ?hi5a ?hst5a AllReadyH.nil
      case hi5a => (simp only [List.getElem?_toArray, List.getElem?_cons_succ, List.getElem?_cons_zero]; rfl)
      intro K hK
      go_simp
      refine hK.out _ _ (Bx.Blk.more hHeld _) (fun hNew => ?_)
      clear hHeld
      have hHeld := hNew
      clear hNew hK K
      replace NP := Lib.hid (NP.out.more (Obj.cells #[.int .u64 0, .int .u64 0, .bool false, .int .i64 0, .int .i64 0, .int .i64 0, .string ⟨#[]⟩] 32))
      have NF := Lib.hid (Bx.Own.new_at (W := (W0.alloc (Obj.cells #[.int .i64 0, .int .i64 0, .int .i64 0, .int .i64 0, .int .i64 0, .int .i64 0, .int .i64 0, .int .i64 0, .int .i64 0, .int .i64 0, .int .i64 0, .int .i64 0, .int .i64 0, .int .i64 0, .int .i64 0, .int .i64 0, .slice none 0 0] 28)).drew) (k := W0.heap.size + 1) [.int .u64 0, .int .u64 0, .bool false, .int .i64 0, .int .i64 0, .int .i64 0, .string ⟨#[]⟩] 32 (by simp [World.drew]))
      replace BE := Lib.hid (Bx.bel_box BE.out (Obj.cells #[.int .u64 0, .int .u64 0, .bool false, .int .i64 0, .int .i64 0, .int .i64 0, .string ⟨#[]⟩] 32))
      have ZZ := Lib.hid (fun j => show ((W0.alloc (Obj.cells #[.int .i64 0, .int .i64 0, .int .i64 0, .int .i64 0, .int .i64 0, .int .i64 0, .int .i64 0, .int .i64 0, .int .i64 0, .int .i64 0, .int .i64 0, .int .i64 0, .int .i64 0, .int .i64 0, .int .i64 0, .int .i64 0, .slice none 0 0] 28)).drew.alloc (Obj.cells #[.int .u64 0, .int .u64 0, .bool false, .int .i64 0, .int .i64 0, .int .i64 0, .string ⟨#[]⟩] 32)).frozen? ⟨W0.heap.size + 1, j, none⟩ = false from frozen_at (W0.alloc (Obj.cells #[.int .i64 0, .int .i64 0, .int .i64 0, .int .i64 0, .int .i64 0, .int .i64 0, .int .i64 0, .int .i64 0, .int .i64 0, .int .i64 0, .int .i64 0, .int .i64 0, .int .i64 0, .int .i64 0, .int .i64 0, .int .i64 0, .slice none 0 0] 28)).drew #[.int .u64 0, .int .u64 0, .bool false, .int .i64 0, .int .i64 0, .int .i64 0, .string ⟨#[]⟩] 32 (by simp [World.drew]) j)
      refine wpAnyH_ready (rs := [6]) (by kernel_rfl) (by simp) ?_
      refine AllReadyH.cons (o := ?o6a) ?hi6a ?hst6a AllReadyH.nil
      case hi6a => (simp only [List.getElem?_toArray, List.getElem?_cons_succ, List.getElem?_cons_zero]; rfl)
      intro K hK
      rw [if_pos (by rfl)]
      refine wp_store_plan _ _ rfl (W0.heap.size) [.int .i64 0, .int .i64 0, .int .i64 0, .int .i64 0, .int .i64 0, .int .i64 0, .int .i64 0, .int .i64 0, .int .i64 0, .int .i64 0, .int .i64 0, .int .i64 0, .int .i64 0, .int .i64 0, .int .i64 0, .int .i64 0, .slice none 0 0] rfl o k AP n c rfl rfl NP.out ?_
      refine hK.out _ _ (Bx.Blk.apart hHeld (by omega)) (fun hNew => ?_)
      clear hHeld
      have hHeld := hNew
      clear hNew hK K
      replace NP := Lib.hid (NP.out.put (m := (Mem.pc o k AP n c)) rfl)
      replace NF := Lib.hid (NF.out.apart (k' := W0.heap.size) (m := (Mem.pc o k AP n c)) (by omega))
      replace BE := Lib.hid (Bx.bel_cells (k := W0.heap.size) (m := (Mem.pc o k AP n c)) BE.out (Nat.le_refl _))
      refine wpAnyH_ready (rs := [7]) (by kernel_rfl) (by simp) ?_
      refine ready_frame (oi := ?o7a) (x := ?x7a) (y := ?y7a) ?hi7a ?hw7a ?ho7a (W0.heap.size + 1) [.int .u64 0, .int .u64 0, .bool false, .int .i64 0, .int .i64 0, .int .i64 0, .string ⟨#[]⟩] rfl d s g p v t X ?hx7a ?hz7a NF.out (Bx.Blk.apart hHeld (by omega)) ?rest7a
      case hi7a => (simp only [List.getElem?_toArray, List.getElem?_cons_succ, List.getElem?_cons_zero]; rfl)
      case hw7a => rfl
      case ho7a => rfl
      case hx7a => rfl
      case hz7a => rfl
      replace hHeld := Bx.Blk.apart (k' := W0.heap.size + 1) (m := (Mem.fc d s g p v t X)) hHeld (by omega)
      replace NF := Lib.hid (NF.out.put (m := (Mem.fc d s g p v t X)) rfl)
      replace NP := Lib.hid (NP.out.apart (k' := W0.heap.size + 1) (m := (Mem.fc d s g p v t X)) (by omega))
      replace BE := Lib.hid (Bx.bel_cells (k := W0.heap.size + 1) (m := (Mem.fc d s g p v t X)) BE.out (Nat.le_succ _))
      refine wpAnyH_done (by kernel_rfl) ?_ _
      refine NoPanic.normal ?_
      go_wp2_with fail
      go_meet
      exact ⟨W0.heap.size, W0.heap.size + 1, rfl, rfl, (Nat.le_refl _), (Nat.le_succ _), by omega, BE.out, NP.out.1, ⟨NF.out.1, NF.out.1.lt (by simp), fun j => by rw [frozen_cells, frozen_cells]; exact ZZ.out j⟩⟩
    case hst5 =>
      intro K hK
      go_simp
      refine hK.out _ _ (Bx.Blk.more hHeld _) (fun hNew => ?_)
      clear hHeld
      have hHeld := hNew
      clear hNew hK K
      have NF := Lib.hid (Bx.Own.new W0 [.int .u64 0, .int .u64 0, .bool false, .int .i64 0, .int .i64 0, .int .i64 0, .string ⟨#[]⟩] 32).draw
      have BE := Lib.hid (Bx.bel_drewn (Bx.bel_box (Bx.bel_refl W0) (Obj.cells #[.int .u64 0, .int .u64 0, .bool false, .int .i64 0, .int .i64 0, .int .i64 0, .string ⟨#[]⟩] 32)))
      have ZZ := Lib.hid (fun j => show (W0.alloc (Obj.cells #[.int .u64 0, .int .u64 0, .bool false, .int .i64 0, .int .i64 0, .int .i64 0, .string ⟨#[]⟩] 32)).drew.frozen? ⟨W0.heap.size, j, none⟩ = false from World.frozen?_alloc_new W0 #[.int .u64 0, .int .u64 0, .bool false, .int .i64 0, .int .i64 0, .int .i64 0, .string ⟨#[]⟩] 32 j)
      refine wpAnyH_ready (rs := [4]) (by kernel_rfl) (by simp) ?_
      refine AllReadyH.cons (o := ?o4b) ?hi4b ?hst4b AllReadyH.nil
      case hi4b => (simp only [List.getElem?_toArray, List.getElem?_cons_succ, List.getElem?_cons_zero]; rfl)
      intro K hK
      go_simp
      refine hK.out _ _ (Bx.Blk.more hHeld _) (fun hNew => ?_)
      clear hHeld
      have hHeld := hNew
      clear hNew hK K
      replace NF := Lib.hid (NF.out.more (Obj.cells #[.int .i64 0, .int .i64 0, .int .i64 0, .int .i64 0, .int .i64 0, .int .i64 0, .int .i64 0, .int .i64 0, .int .i64 0, .int .i64 0, .int .i64 0, .int .i64 0, .int .i64 0, .int .i64 0, .int .i64 0, .int .i64 0, .slice none 0 0] 28))
      have NP := Lib.hid (Bx.Own.new_at (W := (W0.alloc (Obj.cells #[.int .u64 0, .int .u64 0, .bool false, .int .i64 0, .int .i64 0, .int .i64 0, .string ⟨#[]⟩] 32)).drew) (k := W0.heap.size + 1) [.int .i64 0, .int .i64 0, .int .i64 0, .int .i64 0, .int .i64 0, .int .i64 0, .int .i64 0, .int .i64 0, .int .i64 0, .int .i64 0, .int .i64 0, .int .i64 0, .int .i64 0, .int .i64 0, .int .i64 0, .int .i64 0, .slice none 0 0] 28 (by simp [World.drew]))
      replace BE := Lib.hid (Bx.bel_box BE.out (Obj.cells #[.int .i64 0, .int .i64 0, .int .i64 0, .int .i64 0, .int .i64 0, .int .i64 0, .int .i64 0, .int .i64 0, .int .i64 0, .int .i64 0, .int .i64 0, .int .i64 0, .int .i64 0, .int .i64 0, .int .i64 0, .int .i64 0, .slice none 0 0] 28))
      replace ZZ := Lib.hid (fun j => show ((W0.alloc (Obj.cells #[.int .u64 0, .int .u64 0, .bool false, .int .i64 0, .int .i64 0, .int .i64 0, .string ⟨#[]⟩] 32)).drew.alloc (Obj.cells #[.int .i64 0, .int .i64 0, .int .i64 0, .int .i64 0, .int .i64 0, .int .i64 0, .int .i64 0, .int .i64 0, .int .i64 0, .int .i64 0, .int .i64 0, .int .i64 0, .int .i64 0, .int .i64 0, .int .i64 0, .int .i64 0, .slice none 0 0] 28)).frozen? ⟨W0.heap.size, j, none⟩ = false from (frozen_old (W0.alloc (Obj.cells #[.int .u64 0, .int .u64 0, .bool false, .int .i64 0, .int .i64 0, .int .i64 0, .string ⟨#[]⟩] 32)).drew (Obj.cells #[.int .i64 0, .int .i64 0, .int .i64 0, .int .i64 0, .int .i64 0, .int .i64 0, .int .i64 0, .int .i64 0, .int .i64 0, .int .i64 0, .int .i64 0, .int .i64 0, .int .i64 0, .int .i64 0, .int .i64 0, .int .i64 0, .slice none 0 0] 28) (by simp [World.drew]) j).trans (ZZ.out j))
      refine wpAnyH_ready (rs := [6]) (by kernel_rfl) (by simp) ?_
      refine AllReadyH.cons (o := ?o6b) ?hi6b ?hst6b AllReadyH.nil
      case hi6b => (simp only [List.getElem?_toArray, List.getElem?_cons_succ, List.getElem?_cons_zero]; rfl)
      intro K hK
      rw [if_pos (by rfl)]
      refine wp_store_plan _ _ rfl (W0.heap.size + 1) [.int .i64 0, .int .i64 0, .int .i64 0, .int .i64 0, .int .i64 0, .int .i64 0, .int .i64 0, .int .i64 0, .int .i64 0, .int .i64 0, .int .i64 0, .int .i64 0, .int .i64 0, .int .i64 0, .int .i64 0, .int .i64 0, .slice none 0 0] rfl o k AP n c rfl rfl NP.out ?_
      refine hK.out _ _ (Bx.Blk.apart hHeld (by omega)) (fun hNew => ?_)
      clear hHeld
      have hHeld := hNew
      clear hNew hK K
      replace NP := Lib.hid (NP.out.put (m := (Mem.pc o k AP n c)) rfl)
      replace NF := Lib.hid (NF.out.apart (k' := W0.heap.size + 1) (m := (Mem.pc o k AP n c)) (by omega))
      replace BE := Lib.hid (Bx.bel_cells (k := W0.heap.size + 1) (m := (Mem.pc o k AP n c)) BE.out (Nat.le_succ _))
      refine wpAnyH_ready (rs := [7]) (by kernel_rfl) (by simp) ?_
      refine ready_frame (oi := ?o7b) (x := ?x7b) (y := ?y7b) ?hi7b ?hw7b ?ho7b (W0.heap.size) [.int .u64 0, .int .u64 0, .bool false, .int .i64 0, .int .i64 0, .int .i64 0, .string ⟨#[]⟩] rfl d s g p v t X ?hx7b ?hz7b NF.out (Bx.Blk.apart hHeld (by omega)) ?rest7b
      case hi7b => (simp only [List.getElem?_toArray, List.getElem?_cons_succ, List.getElem?_cons_zero]; rfl)
      case hw7b => rfl
      case ho7b => rfl
      case hx7b => rfl
      case hz7b => rfl
      replace hHeld := Bx.Blk.apart (k' := W0.heap.size) (m := (Mem.fc d s g p v t X)) hHeld (by omega)
      replace NF := Lib.hid (NF.out.put (m := (Mem.fc d s g p v t X)) rfl)
      replace NP := Lib.hid (NP.out.apart (k' := W0.heap.size) (m := (Mem.fc d s g p v t X)) (by omega))
      replace BE := Lib.hid (Bx.bel_cells (k := W0.heap.size) (m := (Mem.fc d s g p v t X)) BE.out (Nat.le_refl _))
      refine wpAnyH_done (by kernel_rfl) ?_ _
      refine NoPanic.normal ?_
      go_wp2_with fail
      go_meet
      exact ⟨W0.heap.size + 1, W0.heap.size, rfl, rfl, (Nat.le_succ _), (Nat.le_refl _), by omega, BE.out, NP.out.1, ⟨NF.out.1, NF.out.1.lt (by simp), fun j => by rw [frozen_cells, frozen_cells]; exact ZZ.out j⟩⟩
  case rest =>
    obtain ⟨m7, m8, rfl, rfl, hm7, hm8, n78, hb, P, FF⟩ := hcut
    have n7a : m7 ≠ w.heap.size ∧ m7 ≠ w.heap.size + 1 + 1 ∧ w.heap.size ≤ m7 := by omega
    have n8a : m8 ≠ w.heap.size ∧ m8 ≠ w.heap.size + 1 + 1 ∧ w.heap.size ≤ m8 := by omega
    replace bel := Bx.then_below bel hb
    replace BT := Lib.hid (BT.out.keep hb)
    replace BY := Lib.hid (BY.out.keep hb)
    replace P := Lib.hid P
    replace FF := Lib.hid FF
    clear hb BX hsz hm7 hm8
    have B0 := BT
    have B1 := BY
    have B2 := P
    have B3 := Lib.hid FF.out.1
    clear BT BY P
    obtain ⟨c0_0, c0_1, c0_2⟩ := B0.out.all3
    obtain ⟨c1_0, c1_1, c1_2⟩ := B1.out.all3
    obtain ⟨c3_0, c3_1, c3_2, c3_3, c3_4, c3_5, c3_6⟩ := B3.out.all7
    go_wp2_with (first | ((with_reducible refine Mem.load_at ?_ ?_ (m7) ?_ o k AP n c ?_ ?_); (· rfl); (· rfl); (· rfl); (· exact B2.out)))
    refine (HLG.out _ bel).mono ?_; rintro e w1 ⟨rfl, hb1⟩
    replace bel := Bx.then_below bel hb1
    replace B0 := Lib.hid (B0.out.keep hb1)
    replace B1 := Lib.hid (B1.out.keep hb1)
    replace B2 := Lib.hid (B2.out.keep hb1)
    replace FF := Lib.hid (FF.out.keep hb1)
    clear hb1 B3 c0_0 c0_1 c0_2 c1_0 c1_1 c1_2 c3_0 c3_1 c3_2 c3_3 c3_4 c3_5 c3_6
    obtain ⟨⟨f0, f1, f2, f3, f4, f5, f6⟩, z0, z1, z2, z3, z4, z5, z6⟩ := FF.out.all7
    obtain ⟨c0_0, c0_1, c0_2⟩ := B0.out.all3
    have F2 := Lib.hid ((FF.out.set 0 (.int .u64 E)).set 5 (.int .i64 2048)).1
    have B3 := Lib.hid (show Bx.Blk ((w1.setCell ⟨m8, 0, none⟩ (.int .u64 E)).setCell ⟨m8, 5, none⟩ (.int .i64 2048)) m8 (Mem.fc E s g p v 2048 X) from F2.out)
    replace B0 := Lib.hid ((B0.out.other (o := 0) (x := .int .u64 E) n8a.1.symm).other (o := 5) (x := .int .i64 2048) n8a.1.symm)
    replace B1 := Lib.hid ((B1.out.other (o := 0) (x := .int .u64 E) n8a.2.1.symm).other (o := 5) (x := .int .i64 2048) n8a.2.1.symm)
    replace B2 := Lib.hid ((B2.out.other (o := 0) (x := .int .u64 E) n78).other (o := 5) (x := .int .i64 2048) n78)
    replace bel := (bel.setCell (p := ⟨m8, 0, none⟩) n8a.2.2 (.int .u64 E)).setCell (p := ⟨m8, 5, none⟩) n8a.2.2 (.int .i64 2048)
    clear F2
    go_wp2_with fail
    clear FF f0 f1 f2 f3 f4 f5 f6 z0 z1 z2 z3 z4 z5 z6 c0_0 c0_1 c0_2
    generalize (w1.setCell ⟨m8, 0, none⟩ (.int .u64 E)).setCell ⟨m8, 5, none⟩ (.int .i64 2048) = W2 at *
    have c3_4 := B3.out.at 4 rfl
    have c1_0 := B1.out.at 0 rfl
    have c1_2 := B1.out.at 2 rfl
    replace B0 := Lib.hid B0.out.draw
    replace B1 := Lib.hid B1.out.draw
    replace B2 := Lib.hid B2.out.draw
    replace B3 := Lib.hid B3.out.draw
    refine wp_region_noPanic ?_
    refine wp_region_held_drew (S := fun w' => Bx.Blk w' m7 (Mem.pc o k AP n c) ∧ w'.cell? ⟨m8, 4, none⟩ = some (.int .i64 v) ∧ w'.cell? ⟨w.heap.size + 1 + 1, 0, none⟩ = some (.int .i64 q) ∧ w'.cell? ⟨w.heap.size + 1 + 1, 2, none⟩ = some (.int .i64 op)) (by kernel_rfl) (by exact ⟨B2.out, c3_4, c1_0, c1_2⟩) (fun hHeld => ?_)
    replace bel := Bx.bel_drewn bel
    refine wpAnyH_take (i := 0) (oi := ?o0r) (v := Mem.pv o k AP n c) ?hi0r (by kernel_rfl) (by kernel_rfl) (by kernel_rfl) (fun _ _ _ h => h) ?y0r (by assumption) ?r0r
    case hi0r => (simp only [List.getElem?_toArray, List.getElem?_cons_zero]; rfl)
    case y0r => (refine Mem.yields_pl rfl _ rfl (m7) rfl o k AP n c ?_; intro w' hS; exact hS.1)
    try simp only [Act.put, List.setIfInBounds_toArray, List.set_cons_zero, List.set_cons_succ]
    refine wpAnyH_take (i := 1) (oi := ?o1r) (v := ?v1r) ?hi1r (by kernel_rfl) (by kernel_rfl) (by kernel_rfl) (fun _ _ _ h => h) ?y1r (by assumption) ?r1r
    case hi1r => (simp only [List.getElem?_toArray, List.getElem?_cons_succ, List.getElem?_cons_zero]; rfl)
    case y1r => (refine Or.inl ⟨by rfl, ?_⟩; intro w' hSw; (try dsimp only at hSw); go_simp; (try with_reducible rfl))
    try simp only [Act.put, List.setIfInBounds_toArray, List.set_cons_zero, List.set_cons_succ]
    refine wpAnyH_take (i := 2) (oi := ?o2r) (v := ?v2r) ?hi2r (by kernel_rfl) (by kernel_rfl) (by kernel_rfl) (fun _ _ _ h => h) ?y2r (by assumption) ?r2r
    case hi2r => (simp only [List.getElem?_toArray, List.getElem?_cons_succ, List.getElem?_cons_zero]; rfl)
    case y2r => (refine Or.inl ⟨by rfl, ?_⟩; intro w' hSw; (try dsimp only at hSw); go_simp; (try with_reducible rfl))
    try simp only [Act.put, List.setIfInBounds_toArray, List.set_cons_zero, List.set_cons_succ]
    refine wpAnyH_take (i := 4) (oi := ?o4r) (v := ?v4r) ?hi4r (by kernel_rfl) (by kernel_rfl) (by kernel_rfl) (fun _ _ _ h => h) ?y4r (by assumption) ?r4r
    case hi4r => (simp only [List.getElem?_toArray, List.getElem?_cons_succ, List.getElem?_cons_zero]; rfl)
    case y4r => (refine Or.inl ⟨by rfl, ?_⟩; intro w' hSw; (try dsimp only at hSw); go_simp; (try with_reducible rfl))
    try simp only [Act.put, List.setIfInBounds_toArray, List.set_cons_zero, List.set_cons_succ]
    refine wpAnyH_take (i := 5) (oi := ?o5r) (v := ?v5r) ?hi5r (by kernel_rfl) (by kernel_rfl) (by kernel_rfl) (fun _ _ _ h => h) ?y5r (by assumption) ?r5r
    case hi5r => (simp only [List.getElem?_toArray, List.getElem?_cons_succ, List.getElem?_cons_zero]; rfl)
    case y5r => (refine Or.inl ⟨by rfl, ?_⟩; intro w' hSw; (try dsimp only at hSw); go_simp; (try with_reducible rfl))
    try simp only [Act.put, List.setIfInBounds_toArray, List.set_cons_zero, List.set_cons_succ]
    refine wpAnyH_take (i := 7) (oi := ?o7r) (v := ?v7r) ?hi7r (by kernel_rfl) (by kernel_rfl) (by kernel_rfl) (fun _ _ _ h => h) ?y7r (by assumption) ?r7r
    case hi7r => (simp only [List.getElem?_toArray, List.getElem?_cons_succ, List.getElem?_cons_zero]; rfl)
    case y7r => (refine Or.inl ⟨by rfl, ?_⟩; intro w' hSw; (try dsimp only at hSw); go_simp; (try with_reducible rfl))
    try simp only [Act.put, List.setIfInBounds_toArray, List.set_cons_zero, List.set_cons_succ]
    refine wpAnyH_take (i := 8) (oi := ?o8r) (v := ?v8r) ?hi8r (by kernel_rfl) (by kernel_rfl) (by kernel_rfl) (fun _ _ _ h => h) ?y8r (by assumption) ?r8r
    case hi8r => (simp only [List.getElem?_toArray, List.getElem?_cons_succ, List.getElem?_cons_zero]; rfl)
    case y8r => (refine Or.inl ⟨by rfl, ?_⟩; intro w' hSw; (try dsimp only at hSw); go_simp; (try with_reducible rfl))
    try simp only [Act.put, List.setIfInBounds_toArray, List.set_cons_zero, List.set_cons_succ]
    refine wpAnyH_ready (rs := [3]) (by kernel_rfl) (by simp) ?_
    refine AllReadyH.cons (o := ?o3r) ?hi3r ?hst3r AllReadyH.nil
    case hi3r => (simp only [List.getElem?_toArray, List.getElem?_cons_succ, List.getElem?_cons_zero]; rfl)
    intro K hK
    go_simp
    (go_at_call 27; (with_reducible refine (HOF.out _ bel).mono ?_); rintro e w2 ⟨rfl, hb2⟩)
    go_wp2_with fail
    refine hK.out _ _ (⟨Bx.Blk.keep hHeld.1 hb2, Bx.keep_cell hb2 hHeld.2.1, Bx.keep_cell hb2 hHeld.2.2.1, Bx.keep_cell hb2 hHeld.2.2.2⟩) (fun hNew => ?_)
    clear hHeld
    have hHeld := hNew
    clear hNew hK K
    replace bel := Bx.then_below bel hb2
    replace B0 := Lib.hid (B0.out.keep hb2)
    replace B1 := Lib.hid (B1.out.keep hb2)
    replace B2 := Lib.hid (B2.out.keep hb2)
    replace B3 := Lib.hid (B3.out.keep hb2)
    clear hb2
    refine wpAnyH_take (i := 6) (oi := ?o6r) (v := ?v6r) ?hi6r (by kernel_rfl) (by kernel_rfl) (by kernel_rfl) (fun _ _ _ h => h) ?y6r (by assumption) ?r6r
    case hi6r => (simp only [List.getElem?_toArray, List.getElem?_cons_succ, List.getElem?_cons_zero]; rfl)
    case y6r => (refine Or.inl ⟨by rfl, ?_⟩; intro w' hSw; (try dsimp only at hSw); go_simp; (try with_reducible rfl))
    try simp only [Act.put, List.setIfInBounds_toArray, List.set_cons_zero, List.set_cons_succ]
    refine wpAnyH_ready (rs := [9]) (by kernel_rfl) (by simp) ?_
    refine AllReadyH.cons (o := ?o9r) ?hi9r ?hst9r AllReadyH.nil
    case hi9r => (simp only [List.getElem?_toArray, List.getElem?_cons_succ, List.getElem?_cons_zero]; rfl)
    intro K hK
    go_simp
    (go_at_call 29; (with_reducible refine (HWO.out _ bel).mono ?_); rintro e w3 ⟨rfl, hb3⟩)
    go_wp2_with fail
    refine hK.out _ _ (⟨Bx.Blk.keep hHeld.1 hb3, Bx.keep_cell hb3 hHeld.2.1, Bx.keep_cell hb3 hHeld.2.2.1, Bx.keep_cell hb3 hHeld.2.2.2⟩) (fun hNew => ?_)
    clear hHeld
    have hHeld := hNew
    clear hNew hK K
    replace bel := Bx.then_below bel hb3
    replace B0 := Lib.hid (B0.out.keep hb3)
    replace B1 := Lib.hid (B1.out.keep hb3)
    replace B2 := Lib.hid (B2.out.keep hb3)
    replace B3 := Lib.hid (B3.out.keep hb3)
    clear hb3
    refine wpAnyH_take (i := 10) (oi := ?o10r) (v := ?v10r) ?hi10r (by kernel_rfl) (by kernel_rfl) (by kernel_rfl) (fun _ _ _ h => h) ?y10r (by assumption) ?r10r
    case hi10r => (simp only [List.getElem?_toArray, List.getElem?_cons_succ, List.getElem?_cons_zero]; rfl)
    case y10r => (refine Or.inl ⟨by rfl, ?_⟩; intro w' hSw; (try dsimp only at hSw); go_simp; (try with_reducible rfl))
    try simp only [Act.put, List.setIfInBounds_toArray, List.set_cons_zero, List.set_cons_succ]
    refine wpAnyH_done (by kernel_rfl) ?_ _
    refine NoPanic.normal ?_
    clear hHeld c3_4 c1_0 c1_2
    obtain ⟨c0_0, c0_1, c0_2⟩ := B0.out.all3
    obtain ⟨c1_0, c1_1, c1_2⟩ := B1.out.all3
    obtain ⟨c3_0, c3_1, c3_2, c3_3, c3_4, c3_5, c3_6⟩ := B3.out.all7
    go_wp2_with (first | ((with_reducible refine Mem.load_at ?_ ?_ (m7) ?_ o k AP n c ?_ ?_); (· rfl); (· rfl); (· rfl); (· exact B2.out)))
    refine (HHA.out _ bel).mono ?_; rintro e w4 ⟨rfl, hb4⟩
    replace bel := Bx.then_below bel hb4
    replace B0 := Lib.hid (B0.out.keep hb4)
    replace B1 := Lib.hid (B1.out.keep hb4)
    replace B2 := Lib.hid (B2.out.keep hb4)
    replace B3 := Lib.hid (B3.out.keep hb4)
    clear hb4
    clear c0_0 c0_1 c0_2 c1_0 c1_1 c1_2 c3_0 c3_1 c3_2 c3_3 c3_4 c3_5 c3_6
    obtain ⟨c0_0, c0_1, c0_2⟩ := B0.out.all3
    obtain ⟨c1_0, c1_1, c1_2⟩ := B1.out.all3
    obtain ⟨c3_0, c3_1, c3_2, c3_3, c3_4, c3_5, c3_6⟩ := B3.out.all7
    go_wp2_with (first | ((with_reducible refine Mem.load_at ?_ ?_ (m7) ?_ o k AP n c ?_ ?_); (· rfl); (· rfl); (· rfl); (· exact B2.out)))
    refine (HPO.out _ bel).mono ?_; rintro e w5 ⟨rfl, hb5⟩
    replace bel := Bx.then_below bel hb5
    replace B0 := Lib.hid (B0.out.keep hb5)
    replace B1 := Lib.hid (B1.out.keep hb5)
    replace B2 := Lib.hid (B2.out.keep hb5)
    replace B3 := Lib.hid (B3.out.keep hb5)
    clear hb5
    clear c0_0 c0_1 c0_2 c1_0 c1_1 c1_2 c3_0 c3_1 c3_2 c3_3 c3_4 c3_5 c3_6
    obtain ⟨c0_0, c0_1, c0_2⟩ := B0.out.all3
    obtain ⟨c1_0, c1_1, c1_2⟩ := B1.out.all3
    obtain ⟨c3_0, c3_1, c3_2, c3_3, c3_4, c3_5, c3_6⟩ := B3.out.all7
    go_wp2_with (first | ((with_reducible refine Mem.load_at ?_ ?_ (m7) ?_ o k AP n c ?_ ?_); (· rfl); (· rfl); (· rfl); (· exact B2.out)))
    refine (HKI.out _ bel).mono ?_; rintro e w6 ⟨rfl, hb6⟩
    replace bel := Bx.then_below bel hb6
    replace B0 := Lib.hid (B0.out.keep hb6)
    replace B1 := Lib.hid (B1.out.keep hb6)
    replace B2 := Lib.hid (B2.out.keep hb6)
    replace B3 := Lib.hid (B3.out.keep hb6)
    clear hb6
    clear c0_0 c0_1 c0_2 c1_0 c1_1 c1_2 c3_0 c3_1 c3_2 c3_3 c3_4 c3_5 c3_6
    obtain ⟨c0_0, c0_1, c0_2⟩ := B0.out.all3
    obtain ⟨c1_0, c1_1, c1_2⟩ := B1.out.all3
    obtain ⟨c3_0, c3_1, c3_2, c3_3, c3_4, c3_5, c3_6⟩ := B3.out.all7
    go_wp2_with (first | ((with_reducible refine Mem.load_at ?_ ?_ (m7) ?_ o k AP n c ?_ ?_); (· rfl); (· rfl); (· rfl); (· exact B2.out)))
    refine (HAW.out _ bel).mono ?_; rintro e w7 ⟨rfl, hb7⟩
    replace bel := Bx.then_below bel hb7
    replace B0 := Lib.hid (B0.out.keep hb7)
    replace B1 := Lib.hid (B1.out.keep hb7)
    replace B2 := Lib.hid (B2.out.keep hb7)
    replace B3 := Lib.hid (B3.out.keep hb7)
    clear hb7
    go_wp2_with (first | ((with_reducible refine Mem.load_at ?_ ?_ (m7) ?_ o k AP n c ?_ ?_); (· rfl); (· rfl); (· rfl); (· exact B2.out)))
    go_ret
    exact ⟨rfl, bel⟩

set_option maxRecDepth 100000 in
set_option maxHeartbeats 8000000 in
theorem floods_false (most long : Int) (l : List Tab.En) (hl : l.length ≤ maxLen) (A : Option Addr) (ct : Nat) (o k : Nat → Int) (AP : Option Addr) (n c : Nat) (d s : Int) (g : Bool) (p v t : Int) (X : ByteArray) (q ln op : Int) (w : World) (hT : ¬ (60 : Int) < l.length) (hX : ¬ 12000 < X.size) (E F O : Int) (hE : bits .or .u64 1099511627776 (bits .and .u64 d 65535) = E)
    (HLG : Hid (∀ w', Below w.heap.size w w' → Calls Tryd.prog 6 #[Mem.pv o k AP n c] w' fun e w'' => e = .returned (.bool false) ∧ Below w'.heap.size w' w''))
    (HOF : Hid (∀ w', Below w.heap.size w w' → Calls Tryd.prog 27 #[Mem.pv o k AP n c, .int .i64 v] w' fun e w'' => e = .returned (.int .i64 F) ∧ Below w'.heap.size w' w''))
    (HWO : Hid (∀ w', Below w.heap.size w w' → Calls Tryd.prog 29 #[.int .i64 (bits .and .i64 F op), .int .i64 q] w' fun e w'' => e = .returned (.int .i64 O) ∧ Below w'.heap.size w' w''))
    (HHA : Hid (∀ w', Below w.heap.size w w' → Calls Tryd.prog 22 #[.int .i64 op, .int .i64 q] w' fun e w'' => e = .returned (.bool false) ∧ Below w'.heap.size w' w''))
    (HPO : Hid (∀ w', Below w.heap.size w w' → Calls Tryd.prog 16 #[tv most long A l.length ct, Mem.pv o k AP n c, fr E s g p v 2048 X, .int .i64 v, .int .i64 q, .int .i64 op] w' fun e w'' => e = .returned (.int .i64 0) ∧ Below w'.heap.size w' w''))
    (HKI : Hid (∀ w', Below w.heap.size w w' → Calls Tryd.prog 12 #[fr E s g p v 2048 X] w' fun e w'' => e = .returned (.int .i64 0) ∧ Below w'.heap.size w' w''))
    (HAW : Hid (∀ w', Below w.heap.size w w' → Calls Tryd.prog 8 #[] w' fun e w'' => e = .returned (.bool true) ∧ Below w'.heap.size w' w'')) :
    Calls Tryd.prog 5 #[tv most long A l.length ct, xv o k AP n c d s g p v t X, .agg #[.int .i64 q, .int .i64 ln, .int .i64 op]] w fun e w' => e = .returned (.bool true) ∧ Below w.heap.size w w' := by
  have hl' : l.length ≤ 9223372036854775807 := hl
  go_enter Tryd.func5, Tryd.ntmps5
  go_wp2
  have BX := Lib.hid ((Bx.Blk.new_at (W := w.alloc (Tab.to most long A l.length ct)) (k := w.heap.size + 1) (xc o k AP n c d s g p v t X) 34 (by simp)).more (.cells #[.int .i64 q, .int .i64 ln, .int .i64 op] 36))
  have BT := Lib.hid (((Bx.Blk.new w [.int .i64 most, .int .i64 long, .slice A l.length ct] 24).more (xo o k AP n c d s g p v t X)).more (.cells #[.int .i64 q, .int .i64 ln, .int .i64 op] 36))
  have BY := Lib.hid (Bx.Blk.new_at (W := (w.alloc (Tab.to most long A l.length ct)).alloc (xo o k AP n c d s g p v t X)) (k := w.heap.size + 1 + 1) [.int .i64 q, .int .i64 ln, .int .i64 op] 36 (by simp))
  have bel := Bx.bel_box (Bx.bel_box (Bx.box_below w (Tab.to most long A l.length ct)) (xo o k AP n c d s g p v t X)) (.cells #[.int .i64 q, .int .i64 ln, .int .i64 op] 36)
  have hsz : w.heap.size + 3 = (((w.alloc (Tab.to most long A l.length ct)).alloc (xo o k AP n c d s g p v t X)).alloc (.cells #[.int .i64 q, .int .i64 ln, .int .i64 op] 36)).heap.size := by simp
  generalize hg : ((w.alloc (Tab.to most long A l.length ct)).alloc (xo o k AP n c d s g p v t X)).alloc (.cells #[.int .i64 q, .int .i64 ln, .int .i64 op] 36) = W0 at *
  clear hg
  go_cut [7, 8] (fun s7 s8 wx => ∃ m7 m8 : Nat, s7 = .pointer (some ⟨m7, 0, none⟩) ∧ s8 = .pointer (some ⟨m8, 0, none⟩) ∧ W0.heap.size ≤ m7 ∧ W0.heap.size ≤ m8 ∧ m7 ≠ m8 ∧ Below W0.heap.size W0 wx ∧ Bx.Blk wx m7 (Mem.pc o k AP n c) ∧ Bx.Fre wx m8 (Mem.fc d s g p v t X))
  case first =>
    refine wp_region_noPanic ?_
    refine wp_region_held_drew (S := fun w' => Bx.Blk w' (w.heap.size + 1) (xc o k AP n c d s g p v t X)) (by kernel_rfl) (by exact BX.out) (fun hHeld => ?_)
    refine wpAnyH_take (i := 0) (oi := ?o0) (v := ?v0) ?hi0 (by kernel_rfl) (by kernel_rfl) (by kernel_rfl) (fun _ _ _ h => h) ?y0 (by assumption) ?r0
    case hi0 => (simp only [List.getElem?_toArray, List.getElem?_cons_zero]; rfl)
    case y0 => (refine Or.inl ⟨by rfl, ?_⟩; intro w' hSw; (try dsimp only at hSw); go_simp; (try with_reducible rfl))
    try simp only [Act.put, List.setIfInBounds_toArray, List.set_cons_zero, List.set_cons_succ]
    refine wpAnyH_take (i := 1) (oi := ?o1) (v := Mem.pv o k AP n c) ?hi1 (by kernel_rfl) (by kernel_rfl) (by kernel_rfl) (fun _ _ _ h => h) ?y1 (by assumption) ?r1
    case hi1 => (simp only [List.getElem?_toArray, List.getElem?_cons_succ, List.getElem?_cons_zero]; rfl)
    case y1 => (refine yields_plan rfl _ rfl (w.heap.size + 1) rfl o k AP n c d s g p v t X ?_; intro w' hS; exact hS)
    try simp only [Act.put, List.setIfInBounds_toArray, List.set_cons_zero, List.set_cons_succ]
    refine wpAnyH_take (i := 2) (oi := ?o2) (v := ?v2) ?hi2 (by kernel_rfl) (by kernel_rfl) (by kernel_rfl) (fun _ _ _ h => h) ?y2 (by assumption) ?r2
    case hi2 => (simp only [List.getElem?_toArray, List.getElem?_cons_succ, List.getElem?_cons_zero]; rfl)
    case y2 => (refine Or.inl ⟨by rfl, ?_⟩; intro w' hSw; (try dsimp only at hSw); go_simp; (try with_reducible rfl))
    try simp only [Act.put, List.setIfInBounds_toArray, List.set_cons_zero, List.set_cons_succ]
    refine wpAnyH_take (i := 3) (oi := ?o3) (v := fr d s g p v t X) ?hi3 (by kernel_rfl) (by kernel_rfl) (by kernel_rfl) (fun _ _ _ h => h) ?y3 (by assumption) ?r3
    case hi3 => (simp only [List.getElem?_toArray, List.getElem?_cons_succ, List.getElem?_cons_zero]; rfl)
    case y3 => (refine yields_frame rfl _ rfl (w.heap.size + 1) rfl o k AP n c d s g p v t X ?_; intro w' hS; exact hS)
    try simp only [Act.put, List.setIfInBounds_toArray, List.set_cons_zero, List.set_cons_succ]
    refine wpAnyH_ready (rs := [4, 5]) (by kernel_rfl) (by simp) ?_
    refine AllReadyH.cons (o := ?o4) ?hi4 ?hst4 (AllReadyH.cons (o := ?o5) ?hi5 ?hst5 AllReadyH.nil)
    case hi4 => (simp only [List.getElem?_toArray, List.getElem?_cons_succ, List.getElem?_cons_zero]; rfl)
    case hi5 => (simp only [List.getElem?_toArray, List.getElem?_cons_succ, List.getElem?_cons_zero]; rfl)
    case hst4 =>
      intro K hK
      go_simp
      refine hK.out _ _ (Bx.Blk.more hHeld _) (fun hNew => ?_)
      clear hHeld
      have hHeld := hNew
      clear hNew hK K
      have NP := Lib.hid (Bx.Own.new W0 [.int .i64 0, .int .i64 0, .int .i64 0, .int .i64 0, .int .i64 0, .int .i64 0, .int .i64 0, .int .i64 0, .int .i64 0, .int .i64 0, .int .i64 0, .int .i64 0, .int .i64 0, .int .i64 0, .int .i64 0, .int .i64 0, .slice none 0 0] 28).draw
      have BE := Lib.hid (Bx.bel_drewn (Bx.bel_box (Bx.bel_refl W0) (Obj.cells #[.int .i64 0, .int .i64 0, .int .i64 0, .int .i64 0, .int .i64 0, .int .i64 0, .int .i64 0, .int .i64 0, .int .i64 0, .int .i64 0, .int .i64 0, .int .i64 0, .int .i64 0, .int .i64 0, .int .i64 0, .int .i64 0, .slice none 0 0] 28)))
      refine wpAnyH_ready (rs := [5]) (by kernel_rfl) (by simp) ?_
      refine AllReadyH.cons (o := ?o5a) ?hi5a ?hst5a AllReadyH.nil
      case hi5a => (simp only [List.getElem?_toArray, List.getElem?_cons_succ, List.getElem?_cons_zero]; rfl)
      intro K hK
      go_simp
      refine hK.out _ _ (Bx.Blk.more hHeld _) (fun hNew => ?_)
      clear hHeld
      have hHeld := hNew
      clear hNew hK K
      replace NP := Lib.hid (NP.out.more (Obj.cells #[.int .u64 0, .int .u64 0, .bool false, .int .i64 0, .int .i64 0, .int .i64 0, .string ⟨#[]⟩] 32))
      have NF := Lib.hid (Bx.Own.new_at (W := (W0.alloc (Obj.cells #[.int .i64 0, .int .i64 0, .int .i64 0, .int .i64 0, .int .i64 0, .int .i64 0, .int .i64 0, .int .i64 0, .int .i64 0, .int .i64 0, .int .i64 0, .int .i64 0, .int .i64 0, .int .i64 0, .int .i64 0, .int .i64 0, .slice none 0 0] 28)).drew) (k := W0.heap.size + 1) [.int .u64 0, .int .u64 0, .bool false, .int .i64 0, .int .i64 0, .int .i64 0, .string ⟨#[]⟩] 32 (by simp [World.drew]))
      replace BE := Lib.hid (Bx.bel_box BE.out (Obj.cells #[.int .u64 0, .int .u64 0, .bool false, .int .i64 0, .int .i64 0, .int .i64 0, .string ⟨#[]⟩] 32))
      have ZZ := Lib.hid (fun j => show ((W0.alloc (Obj.cells #[.int .i64 0, .int .i64 0, .int .i64 0, .int .i64 0, .int .i64 0, .int .i64 0, .int .i64 0, .int .i64 0, .int .i64 0, .int .i64 0, .int .i64 0, .int .i64 0, .int .i64 0, .int .i64 0, .int .i64 0, .int .i64 0, .slice none 0 0] 28)).drew.alloc (Obj.cells #[.int .u64 0, .int .u64 0, .bool false, .int .i64 0, .int .i64 0, .int .i64 0, .string ⟨#[]⟩] 32)).frozen? ⟨W0.heap.size + 1, j, none⟩ = false from frozen_at (W0.alloc (Obj.cells #[.int .i64 0, .int .i64 0, .int .i64 0, .int .i64 0, .int .i64 0, .int .i64 0, .int .i64 0, .int .i64 0, .int .i64 0, .int .i64 0, .int .i64 0, .int .i64 0, .int .i64 0, .int .i64 0, .int .i64 0, .int .i64 0, .slice none 0 0] 28)).drew #[.int .u64 0, .int .u64 0, .bool false, .int .i64 0, .int .i64 0, .int .i64 0, .string ⟨#[]⟩] 32 (by simp [World.drew]) j)
      refine wpAnyH_ready (rs := [6]) (by kernel_rfl) (by simp) ?_
      refine AllReadyH.cons (o := ?o6a) ?hi6a ?hst6a AllReadyH.nil
      case hi6a => (simp only [List.getElem?_toArray, List.getElem?_cons_succ, List.getElem?_cons_zero]; rfl)
      intro K hK
      rw [if_pos (by rfl)]
      refine wp_store_plan _ _ rfl (W0.heap.size) [.int .i64 0, .int .i64 0, .int .i64 0, .int .i64 0, .int .i64 0, .int .i64 0, .int .i64 0, .int .i64 0, .int .i64 0, .int .i64 0, .int .i64 0, .int .i64 0, .int .i64 0, .int .i64 0, .int .i64 0, .int .i64 0, .slice none 0 0] rfl o k AP n c rfl rfl NP.out ?_
      refine hK.out _ _ (Bx.Blk.apart hHeld (by omega)) (fun hNew => ?_)
      clear hHeld
      have hHeld := hNew
      clear hNew hK K
      replace NP := Lib.hid (NP.out.put (m := (Mem.pc o k AP n c)) rfl)
      replace NF := Lib.hid (NF.out.apart (k' := W0.heap.size) (m := (Mem.pc o k AP n c)) (by omega))
      replace BE := Lib.hid (Bx.bel_cells (k := W0.heap.size) (m := (Mem.pc o k AP n c)) BE.out (Nat.le_refl _))
      refine wpAnyH_ready (rs := [7]) (by kernel_rfl) (by simp) ?_
      refine ready_frame (oi := ?o7a) (x := ?x7a) (y := ?y7a) ?hi7a ?hw7a ?ho7a (W0.heap.size + 1) [.int .u64 0, .int .u64 0, .bool false, .int .i64 0, .int .i64 0, .int .i64 0, .string ⟨#[]⟩] rfl d s g p v t X ?hx7a ?hz7a NF.out (Bx.Blk.apart hHeld (by omega)) ?rest7a
      case hi7a => (simp only [List.getElem?_toArray, List.getElem?_cons_succ, List.getElem?_cons_zero]; rfl)
      case hw7a => rfl
      case ho7a => rfl
      case hx7a => rfl
      case hz7a => rfl
      replace hHeld := Bx.Blk.apart (k' := W0.heap.size + 1) (m := (Mem.fc d s g p v t X)) hHeld (by omega)
      replace NF := Lib.hid (NF.out.put (m := (Mem.fc d s g p v t X)) rfl)
      replace NP := Lib.hid (NP.out.apart (k' := W0.heap.size + 1) (m := (Mem.fc d s g p v t X)) (by omega))
      replace BE := Lib.hid (Bx.bel_cells (k := W0.heap.size + 1) (m := (Mem.fc d s g p v t X)) BE.out (Nat.le_succ _))
      refine wpAnyH_done (by kernel_rfl) ?_ _
      refine NoPanic.normal ?_
      go_wp2_with fail
      go_meet
      exact ⟨W0.heap.size, W0.heap.size + 1, rfl, rfl, (Nat.le_refl _), (Nat.le_succ _), by omega, BE.out, NP.out.1, ⟨NF.out.1, NF.out.1.lt (by simp), fun j => by rw [frozen_cells, frozen_cells]; exact ZZ.out j⟩⟩
    case hst5 =>
      intro K hK
      go_simp
      refine hK.out _ _ (Bx.Blk.more hHeld _) (fun hNew => ?_)
      clear hHeld
      have hHeld := hNew
      clear hNew hK K
      have NF := Lib.hid (Bx.Own.new W0 [.int .u64 0, .int .u64 0, .bool false, .int .i64 0, .int .i64 0, .int .i64 0, .string ⟨#[]⟩] 32).draw
      have BE := Lib.hid (Bx.bel_drewn (Bx.bel_box (Bx.bel_refl W0) (Obj.cells #[.int .u64 0, .int .u64 0, .bool false, .int .i64 0, .int .i64 0, .int .i64 0, .string ⟨#[]⟩] 32)))
      have ZZ := Lib.hid (fun j => show (W0.alloc (Obj.cells #[.int .u64 0, .int .u64 0, .bool false, .int .i64 0, .int .i64 0, .int .i64 0, .string ⟨#[]⟩] 32)).drew.frozen? ⟨W0.heap.size, j, none⟩ = false from World.frozen?_alloc_new W0 #[.int .u64 0, .int .u64 0, .bool false, .int .i64 0, .int .i64 0, .int .i64 0, .string ⟨#[]⟩] 32 j)
      refine wpAnyH_ready (rs := [4]) (by kernel_rfl) (by simp) ?_
      refine AllReadyH.cons (o := ?o4b) ?hi4b ?hst4b AllReadyH.nil
      case hi4b => (simp only [List.getElem?_toArray, List.getElem?_cons_succ, List.getElem?_cons_zero]; rfl)
      intro K hK
      go_simp
      refine hK.out _ _ (Bx.Blk.more hHeld _) (fun hNew => ?_)
      clear hHeld
      have hHeld := hNew
      clear hNew hK K
      replace NF := Lib.hid (NF.out.more (Obj.cells #[.int .i64 0, .int .i64 0, .int .i64 0, .int .i64 0, .int .i64 0, .int .i64 0, .int .i64 0, .int .i64 0, .int .i64 0, .int .i64 0, .int .i64 0, .int .i64 0, .int .i64 0, .int .i64 0, .int .i64 0, .int .i64 0, .slice none 0 0] 28))
      have NP := Lib.hid (Bx.Own.new_at (W := (W0.alloc (Obj.cells #[.int .u64 0, .int .u64 0, .bool false, .int .i64 0, .int .i64 0, .int .i64 0, .string ⟨#[]⟩] 32)).drew) (k := W0.heap.size + 1) [.int .i64 0, .int .i64 0, .int .i64 0, .int .i64 0, .int .i64 0, .int .i64 0, .int .i64 0, .int .i64 0, .int .i64 0, .int .i64 0, .int .i64 0, .int .i64 0, .int .i64 0, .int .i64 0, .int .i64 0, .int .i64 0, .slice none 0 0] 28 (by simp [World.drew]))
      replace BE := Lib.hid (Bx.bel_box BE.out (Obj.cells #[.int .i64 0, .int .i64 0, .int .i64 0, .int .i64 0, .int .i64 0, .int .i64 0, .int .i64 0, .int .i64 0, .int .i64 0, .int .i64 0, .int .i64 0, .int .i64 0, .int .i64 0, .int .i64 0, .int .i64 0, .int .i64 0, .slice none 0 0] 28))
      replace ZZ := Lib.hid (fun j => show ((W0.alloc (Obj.cells #[.int .u64 0, .int .u64 0, .bool false, .int .i64 0, .int .i64 0, .int .i64 0, .string ⟨#[]⟩] 32)).drew.alloc (Obj.cells #[.int .i64 0, .int .i64 0, .int .i64 0, .int .i64 0, .int .i64 0, .int .i64 0, .int .i64 0, .int .i64 0, .int .i64 0, .int .i64 0, .int .i64 0, .int .i64 0, .int .i64 0, .int .i64 0, .int .i64 0, .int .i64 0, .slice none 0 0] 28)).frozen? ⟨W0.heap.size, j, none⟩ = false from (frozen_old (W0.alloc (Obj.cells #[.int .u64 0, .int .u64 0, .bool false, .int .i64 0, .int .i64 0, .int .i64 0, .string ⟨#[]⟩] 32)).drew (Obj.cells #[.int .i64 0, .int .i64 0, .int .i64 0, .int .i64 0, .int .i64 0, .int .i64 0, .int .i64 0, .int .i64 0, .int .i64 0, .int .i64 0, .int .i64 0, .int .i64 0, .int .i64 0, .int .i64 0, .int .i64 0, .int .i64 0, .slice none 0 0] 28) (by simp [World.drew]) j).trans (ZZ.out j))
      refine wpAnyH_ready (rs := [6]) (by kernel_rfl) (by simp) ?_
      refine AllReadyH.cons (o := ?o6b) ?hi6b ?hst6b AllReadyH.nil
      case hi6b => (simp only [List.getElem?_toArray, List.getElem?_cons_succ, List.getElem?_cons_zero]; rfl)
      intro K hK
      rw [if_pos (by rfl)]
      refine wp_store_plan _ _ rfl (W0.heap.size + 1) [.int .i64 0, .int .i64 0, .int .i64 0, .int .i64 0, .int .i64 0, .int .i64 0, .int .i64 0, .int .i64 0, .int .i64 0, .int .i64 0, .int .i64 0, .int .i64 0, .int .i64 0, .int .i64 0, .int .i64 0, .int .i64 0, .slice none 0 0] rfl o k AP n c rfl rfl NP.out ?_
      refine hK.out _ _ (Bx.Blk.apart hHeld (by omega)) (fun hNew => ?_)
      clear hHeld
      have hHeld := hNew
      clear hNew hK K
      replace NP := Lib.hid (NP.out.put (m := (Mem.pc o k AP n c)) rfl)
      replace NF := Lib.hid (NF.out.apart (k' := W0.heap.size + 1) (m := (Mem.pc o k AP n c)) (by omega))
      replace BE := Lib.hid (Bx.bel_cells (k := W0.heap.size + 1) (m := (Mem.pc o k AP n c)) BE.out (Nat.le_succ _))
      refine wpAnyH_ready (rs := [7]) (by kernel_rfl) (by simp) ?_
      refine ready_frame (oi := ?o7b) (x := ?x7b) (y := ?y7b) ?hi7b ?hw7b ?ho7b (W0.heap.size) [.int .u64 0, .int .u64 0, .bool false, .int .i64 0, .int .i64 0, .int .i64 0, .string ⟨#[]⟩] rfl d s g p v t X ?hx7b ?hz7b NF.out (Bx.Blk.apart hHeld (by omega)) ?rest7b
      case hi7b => (simp only [List.getElem?_toArray, List.getElem?_cons_succ, List.getElem?_cons_zero]; rfl)
      case hw7b => rfl
      case ho7b => rfl
      case hx7b => rfl
      case hz7b => rfl
      replace hHeld := Bx.Blk.apart (k' := W0.heap.size) (m := (Mem.fc d s g p v t X)) hHeld (by omega)
      replace NF := Lib.hid (NF.out.put (m := (Mem.fc d s g p v t X)) rfl)
      replace NP := Lib.hid (NP.out.apart (k' := W0.heap.size) (m := (Mem.fc d s g p v t X)) (by omega))
      replace BE := Lib.hid (Bx.bel_cells (k := W0.heap.size) (m := (Mem.fc d s g p v t X)) BE.out (Nat.le_refl _))
      refine wpAnyH_done (by kernel_rfl) ?_ _
      refine NoPanic.normal ?_
      go_wp2_with fail
      go_meet
      exact ⟨W0.heap.size + 1, W0.heap.size, rfl, rfl, (Nat.le_succ _), (Nat.le_refl _), by omega, BE.out, NP.out.1, ⟨NF.out.1, NF.out.1.lt (by simp), fun j => by rw [frozen_cells, frozen_cells]; exact ZZ.out j⟩⟩
  case rest =>
    obtain ⟨m7, m8, rfl, rfl, hm7, hm8, n78, hb, P, FF⟩ := hcut
    have n7a : m7 ≠ w.heap.size ∧ m7 ≠ w.heap.size + 1 + 1 ∧ w.heap.size ≤ m7 := by omega
    have n8a : m8 ≠ w.heap.size ∧ m8 ≠ w.heap.size + 1 + 1 ∧ w.heap.size ≤ m8 := by omega
    replace bel := Bx.then_below bel hb
    replace BT := Lib.hid (BT.out.keep hb)
    replace BY := Lib.hid (BY.out.keep hb)
    replace P := Lib.hid P
    replace FF := Lib.hid FF
    clear hb BX hsz hm7 hm8
    have B0 := BT
    have B1 := BY
    have B2 := P
    have B3 := Lib.hid FF.out.1
    clear BT BY P
    obtain ⟨c0_0, c0_1, c0_2⟩ := B0.out.all3
    obtain ⟨c1_0, c1_1, c1_2⟩ := B1.out.all3
    obtain ⟨c3_0, c3_1, c3_2, c3_3, c3_4, c3_5, c3_6⟩ := B3.out.all7
    go_wp2_with (first | ((with_reducible refine Mem.load_at ?_ ?_ (m7) ?_ o k AP n c ?_ ?_); (· rfl); (· rfl); (· rfl); (· exact B2.out)))
    refine (HLG.out _ bel).mono ?_; rintro e w1 ⟨rfl, hb1⟩
    replace bel := Bx.then_below bel hb1
    replace B0 := Lib.hid (B0.out.keep hb1)
    replace B1 := Lib.hid (B1.out.keep hb1)
    replace B2 := Lib.hid (B2.out.keep hb1)
    replace FF := Lib.hid (FF.out.keep hb1)
    clear hb1 B3 c0_0 c0_1 c0_2 c1_0 c1_1 c1_2 c3_0 c3_1 c3_2 c3_3 c3_4 c3_5 c3_6
    obtain ⟨⟨f0, f1, f2, f3, f4, f5, f6⟩, z0, z1, z2, z3, z4, z5, z6⟩ := FF.out.all7
    obtain ⟨c0_0, c0_1, c0_2⟩ := B0.out.all3
    have F2 := Lib.hid ((FF.out.set 0 (.int .u64 E)).set 5 (.int .i64 2048)).1
    have B3 := Lib.hid (show Bx.Blk ((w1.setCell ⟨m8, 0, none⟩ (.int .u64 E)).setCell ⟨m8, 5, none⟩ (.int .i64 2048)) m8 (Mem.fc E s g p v 2048 X) from F2.out)
    replace B0 := Lib.hid ((B0.out.other (o := 0) (x := .int .u64 E) n8a.1.symm).other (o := 5) (x := .int .i64 2048) n8a.1.symm)
    replace B1 := Lib.hid ((B1.out.other (o := 0) (x := .int .u64 E) n8a.2.1.symm).other (o := 5) (x := .int .i64 2048) n8a.2.1.symm)
    replace B2 := Lib.hid ((B2.out.other (o := 0) (x := .int .u64 E) n78).other (o := 5) (x := .int .i64 2048) n78)
    replace bel := (bel.setCell (p := ⟨m8, 0, none⟩) n8a.2.2 (.int .u64 E)).setCell (p := ⟨m8, 5, none⟩) n8a.2.2 (.int .i64 2048)
    clear F2
    go_wp2_with fail
    clear FF f0 f1 f2 f3 f4 f5 f6 z0 z1 z2 z3 z4 z5 z6 c0_0 c0_1 c0_2
    generalize (w1.setCell ⟨m8, 0, none⟩ (.int .u64 E)).setCell ⟨m8, 5, none⟩ (.int .i64 2048) = W2 at *
    have c3_4 := B3.out.at 4 rfl
    have c1_0 := B1.out.at 0 rfl
    have c1_2 := B1.out.at 2 rfl
    replace B0 := Lib.hid B0.out.draw
    replace B1 := Lib.hid B1.out.draw
    replace B2 := Lib.hid B2.out.draw
    replace B3 := Lib.hid B3.out.draw
    refine wp_region_noPanic ?_
    refine wp_region_held_drew (S := fun w' => Bx.Blk w' m7 (Mem.pc o k AP n c) ∧ w'.cell? ⟨m8, 4, none⟩ = some (.int .i64 v) ∧ w'.cell? ⟨w.heap.size + 1 + 1, 0, none⟩ = some (.int .i64 q) ∧ w'.cell? ⟨w.heap.size + 1 + 1, 2, none⟩ = some (.int .i64 op)) (by kernel_rfl) (by exact ⟨B2.out, c3_4, c1_0, c1_2⟩) (fun hHeld => ?_)
    replace bel := Bx.bel_drewn bel
    refine wpAnyH_take (i := 0) (oi := ?o0r) (v := Mem.pv o k AP n c) ?hi0r (by kernel_rfl) (by kernel_rfl) (by kernel_rfl) (fun _ _ _ h => h) ?y0r (by assumption) ?r0r
    case hi0r => (simp only [List.getElem?_toArray, List.getElem?_cons_zero]; rfl)
    case y0r => (refine Mem.yields_pl rfl _ rfl (m7) rfl o k AP n c ?_; intro w' hS; exact hS.1)
    try simp only [Act.put, List.setIfInBounds_toArray, List.set_cons_zero, List.set_cons_succ]
    refine wpAnyH_take (i := 1) (oi := ?o1r) (v := ?v1r) ?hi1r (by kernel_rfl) (by kernel_rfl) (by kernel_rfl) (fun _ _ _ h => h) ?y1r (by assumption) ?r1r
    case hi1r => (simp only [List.getElem?_toArray, List.getElem?_cons_succ, List.getElem?_cons_zero]; rfl)
    case y1r => (refine Or.inl ⟨by rfl, ?_⟩; intro w' hSw; (try dsimp only at hSw); go_simp; (try with_reducible rfl))
    try simp only [Act.put, List.setIfInBounds_toArray, List.set_cons_zero, List.set_cons_succ]
    refine wpAnyH_take (i := 2) (oi := ?o2r) (v := ?v2r) ?hi2r (by kernel_rfl) (by kernel_rfl) (by kernel_rfl) (fun _ _ _ h => h) ?y2r (by assumption) ?r2r
    case hi2r => (simp only [List.getElem?_toArray, List.getElem?_cons_succ, List.getElem?_cons_zero]; rfl)
    case y2r => (refine Or.inl ⟨by rfl, ?_⟩; intro w' hSw; (try dsimp only at hSw); go_simp; (try with_reducible rfl))
    try simp only [Act.put, List.setIfInBounds_toArray, List.set_cons_zero, List.set_cons_succ]
    refine wpAnyH_take (i := 4) (oi := ?o4r) (v := ?v4r) ?hi4r (by kernel_rfl) (by kernel_rfl) (by kernel_rfl) (fun _ _ _ h => h) ?y4r (by assumption) ?r4r
    case hi4r => (simp only [List.getElem?_toArray, List.getElem?_cons_succ, List.getElem?_cons_zero]; rfl)
    case y4r => (refine Or.inl ⟨by rfl, ?_⟩; intro w' hSw; (try dsimp only at hSw); go_simp; (try with_reducible rfl))
    try simp only [Act.put, List.setIfInBounds_toArray, List.set_cons_zero, List.set_cons_succ]
    refine wpAnyH_take (i := 5) (oi := ?o5r) (v := ?v5r) ?hi5r (by kernel_rfl) (by kernel_rfl) (by kernel_rfl) (fun _ _ _ h => h) ?y5r (by assumption) ?r5r
    case hi5r => (simp only [List.getElem?_toArray, List.getElem?_cons_succ, List.getElem?_cons_zero]; rfl)
    case y5r => (refine Or.inl ⟨by rfl, ?_⟩; intro w' hSw; (try dsimp only at hSw); go_simp; (try with_reducible rfl))
    try simp only [Act.put, List.setIfInBounds_toArray, List.set_cons_zero, List.set_cons_succ]
    refine wpAnyH_take (i := 7) (oi := ?o7r) (v := ?v7r) ?hi7r (by kernel_rfl) (by kernel_rfl) (by kernel_rfl) (fun _ _ _ h => h) ?y7r (by assumption) ?r7r
    case hi7r => (simp only [List.getElem?_toArray, List.getElem?_cons_succ, List.getElem?_cons_zero]; rfl)
    case y7r => (refine Or.inl ⟨by rfl, ?_⟩; intro w' hSw; (try dsimp only at hSw); go_simp; (try with_reducible rfl))
    try simp only [Act.put, List.setIfInBounds_toArray, List.set_cons_zero, List.set_cons_succ]
    refine wpAnyH_take (i := 8) (oi := ?o8r) (v := ?v8r) ?hi8r (by kernel_rfl) (by kernel_rfl) (by kernel_rfl) (fun _ _ _ h => h) ?y8r (by assumption) ?r8r
    case hi8r => (simp only [List.getElem?_toArray, List.getElem?_cons_succ, List.getElem?_cons_zero]; rfl)
    case y8r => (refine Or.inl ⟨by rfl, ?_⟩; intro w' hSw; (try dsimp only at hSw); go_simp; (try with_reducible rfl))
    try simp only [Act.put, List.setIfInBounds_toArray, List.set_cons_zero, List.set_cons_succ]
    refine wpAnyH_ready (rs := [3]) (by kernel_rfl) (by simp) ?_
    refine AllReadyH.cons (o := ?o3r) ?hi3r ?hst3r AllReadyH.nil
    case hi3r => (simp only [List.getElem?_toArray, List.getElem?_cons_succ, List.getElem?_cons_zero]; rfl)
    intro K hK
    go_simp
    (go_at_call 27; (with_reducible refine (HOF.out _ bel).mono ?_); rintro e w2 ⟨rfl, hb2⟩)
    go_wp2_with fail
    refine hK.out _ _ (⟨Bx.Blk.keep hHeld.1 hb2, Bx.keep_cell hb2 hHeld.2.1, Bx.keep_cell hb2 hHeld.2.2.1, Bx.keep_cell hb2 hHeld.2.2.2⟩) (fun hNew => ?_)
    clear hHeld
    have hHeld := hNew
    clear hNew hK K
    replace bel := Bx.then_below bel hb2
    replace B0 := Lib.hid (B0.out.keep hb2)
    replace B1 := Lib.hid (B1.out.keep hb2)
    replace B2 := Lib.hid (B2.out.keep hb2)
    replace B3 := Lib.hid (B3.out.keep hb2)
    clear hb2
    refine wpAnyH_take (i := 6) (oi := ?o6r) (v := ?v6r) ?hi6r (by kernel_rfl) (by kernel_rfl) (by kernel_rfl) (fun _ _ _ h => h) ?y6r (by assumption) ?r6r
    case hi6r => (simp only [List.getElem?_toArray, List.getElem?_cons_succ, List.getElem?_cons_zero]; rfl)
    case y6r => (refine Or.inl ⟨by rfl, ?_⟩; intro w' hSw; (try dsimp only at hSw); go_simp; (try with_reducible rfl))
    try simp only [Act.put, List.setIfInBounds_toArray, List.set_cons_zero, List.set_cons_succ]
    refine wpAnyH_ready (rs := [9]) (by kernel_rfl) (by simp) ?_
    refine AllReadyH.cons (o := ?o9r) ?hi9r ?hst9r AllReadyH.nil
    case hi9r => (simp only [List.getElem?_toArray, List.getElem?_cons_succ, List.getElem?_cons_zero]; rfl)
    intro K hK
    go_simp
    (go_at_call 29; (with_reducible refine (HWO.out _ bel).mono ?_); rintro e w3 ⟨rfl, hb3⟩)
    go_wp2_with fail
    refine hK.out _ _ (⟨Bx.Blk.keep hHeld.1 hb3, Bx.keep_cell hb3 hHeld.2.1, Bx.keep_cell hb3 hHeld.2.2.1, Bx.keep_cell hb3 hHeld.2.2.2⟩) (fun hNew => ?_)
    clear hHeld
    have hHeld := hNew
    clear hNew hK K
    replace bel := Bx.then_below bel hb3
    replace B0 := Lib.hid (B0.out.keep hb3)
    replace B1 := Lib.hid (B1.out.keep hb3)
    replace B2 := Lib.hid (B2.out.keep hb3)
    replace B3 := Lib.hid (B3.out.keep hb3)
    clear hb3
    refine wpAnyH_take (i := 10) (oi := ?o10r) (v := ?v10r) ?hi10r (by kernel_rfl) (by kernel_rfl) (by kernel_rfl) (fun _ _ _ h => h) ?y10r (by assumption) ?r10r
    case hi10r => (simp only [List.getElem?_toArray, List.getElem?_cons_succ, List.getElem?_cons_zero]; rfl)
    case y10r => (refine Or.inl ⟨by rfl, ?_⟩; intro w' hSw; (try dsimp only at hSw); go_simp; (try with_reducible rfl))
    try simp only [Act.put, List.setIfInBounds_toArray, List.set_cons_zero, List.set_cons_succ]
    refine wpAnyH_done (by kernel_rfl) ?_ _
    refine NoPanic.normal ?_
    clear hHeld c3_4 c1_0 c1_2
    obtain ⟨c0_0, c0_1, c0_2⟩ := B0.out.all3
    obtain ⟨c1_0, c1_1, c1_2⟩ := B1.out.all3
    obtain ⟨c3_0, c3_1, c3_2, c3_3, c3_4, c3_5, c3_6⟩ := B3.out.all7
    go_wp2_with (first | ((with_reducible refine Mem.load_at ?_ ?_ (m7) ?_ o k AP n c ?_ ?_); (· rfl); (· rfl); (· rfl); (· exact B2.out)))
    refine (HHA.out _ bel).mono ?_; rintro e w4 ⟨rfl, hb4⟩
    replace bel := Bx.then_below bel hb4
    replace B0 := Lib.hid (B0.out.keep hb4)
    replace B1 := Lib.hid (B1.out.keep hb4)
    replace B2 := Lib.hid (B2.out.keep hb4)
    replace B3 := Lib.hid (B3.out.keep hb4)
    clear hb4
    clear c0_0 c0_1 c0_2 c1_0 c1_1 c1_2 c3_0 c3_1 c3_2 c3_3 c3_4 c3_5 c3_6
    obtain ⟨c0_0, c0_1, c0_2⟩ := B0.out.all3
    obtain ⟨c1_0, c1_1, c1_2⟩ := B1.out.all3
    obtain ⟨c3_0, c3_1, c3_2, c3_3, c3_4, c3_5, c3_6⟩ := B3.out.all7
    go_wp2_with (first | ((with_reducible refine Mem.load_at ?_ ?_ (m7) ?_ o k AP n c ?_ ?_); (· rfl); (· rfl); (· rfl); (· exact B2.out)))
    refine (HPO.out _ bel).mono ?_; rintro e w5 ⟨rfl, hb5⟩
    replace bel := Bx.then_below bel hb5
    replace B0 := Lib.hid (B0.out.keep hb5)
    replace B1 := Lib.hid (B1.out.keep hb5)
    replace B2 := Lib.hid (B2.out.keep hb5)
    replace B3 := Lib.hid (B3.out.keep hb5)
    clear hb5
    clear c0_0 c0_1 c0_2 c1_0 c1_1 c1_2 c3_0 c3_1 c3_2 c3_3 c3_4 c3_5 c3_6
    obtain ⟨c0_0, c0_1, c0_2⟩ := B0.out.all3
    obtain ⟨c1_0, c1_1, c1_2⟩ := B1.out.all3
    obtain ⟨c3_0, c3_1, c3_2, c3_3, c3_4, c3_5, c3_6⟩ := B3.out.all7
    go_wp2_with (first | ((with_reducible refine Mem.load_at ?_ ?_ (m7) ?_ o k AP n c ?_ ?_); (· rfl); (· rfl); (· rfl); (· exact B2.out)))
    refine (HKI.out _ bel).mono ?_; rintro e w6 ⟨rfl, hb6⟩
    replace bel := Bx.then_below bel hb6
    replace B0 := Lib.hid (B0.out.keep hb6)
    replace B1 := Lib.hid (B1.out.keep hb6)
    replace B2 := Lib.hid (B2.out.keep hb6)
    replace B3 := Lib.hid (B3.out.keep hb6)
    clear hb6
    clear c0_0 c0_1 c0_2 c1_0 c1_1 c1_2 c3_0 c3_1 c3_2 c3_3 c3_4 c3_5 c3_6
    obtain ⟨c0_0, c0_1, c0_2⟩ := B0.out.all3
    obtain ⟨c1_0, c1_1, c1_2⟩ := B1.out.all3
    obtain ⟨c3_0, c3_1, c3_2, c3_3, c3_4, c3_5, c3_6⟩ := B3.out.all7
    go_wp2_with (first | ((with_reducible refine Mem.load_at ?_ ?_ (m7) ?_ o k AP n c ?_ ?_); (· rfl); (· rfl); (· rfl); (· exact B2.out)))
    refine (HAW.out _ bel).mono ?_; rintro e w7 ⟨rfl, hb7⟩
    replace bel := Bx.then_below bel hb7
    replace B0 := Lib.hid (B0.out.keep hb7)
    replace B1 := Lib.hid (B1.out.keep hb7)
    replace B2 := Lib.hid (B2.out.keep hb7)
    replace B3 := Lib.hid (B3.out.keep hb7)
    clear hb7
    go_wp2_with (first | ((with_reducible refine Mem.load_at ?_ ?_ (m7) ?_ o k AP n c ?_ ?_); (· rfl); (· rfl); (· rfl); (· exact B2.out)))
    go_ret
    exact ⟨rfl, bel⟩

end Fwd
end Go.Proofs.YtmojegnflcokjaaDoor
