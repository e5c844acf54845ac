/-
  The law DecideSays, way by way.
-/
import Derived.Test.YtmojegnflcokjaaDoorPkFwdG
import Derived.Test.YtmojegnflcokjaaDoorPkMemI
import Derived.Test.YtmojegnflcokjaaDoorFwdI
import Derived.Test.YtmojegnflcokjaaDoorFwdD
import Derived.Deep.DeepCutAuto
import Derived.Deep.RegionHeld3
namespace Go.Proofs.YtmojegnflcokjaaDoor
open Go.RowKit
namespace Fwd
open Oct Eth Tab

theorem neq_out (x : Ou) (w : World) : (binOp .neq 45 (.agg #[.int .i64 x.q, .int .u64 x.f.d, .int .u64 x.f.s, .bool x.f.g, .int .i64 x.f.p, .int .i64 x.f.v, .int .i64 x.f.t, .string x.f.b]) (.agg #[.int .i64 x.q, .int .u64 x.f.d, .int .u64 x.f.s, .bool x.f.g, .int .i64 x.f.p, .int .i64 x.f.v, .int .i64 x.f.t, .string x.f.b])).run Tryd.prog w = .ok (.bool false) w := by
  rw [run_neq_struct]
  simp [go_sem]

theorem guard_out (op : BinOp) (a b : Operand) (x : Ou) (w : World) : Sem.run Tryd.prog (eqGuard op 45 a b (.agg #[.int .i64 x.q, .int .u64 x.f.d, .int .u64 x.f.s, .bool x.f.g, .int .i64 x.f.p, .int .i64 x.f.v, .int .i64 x.f.t, .string x.f.b]) (.agg #[.int .i64 x.q, .int .u64 x.f.d, .int .u64 x.f.s, .bool x.f.g, .int .i64 x.f.p, .int .i64 x.f.v, .int .i64 x.f.t, .string x.f.b])) w = .ok () w :=
  run_eqGuard_agg w op 45 a b _ _ (by kernel_rfl)

set_option maxRecDepth 100000 in
set_option maxHeartbeats 8000000 in
theorem says_long (most long : Int) (l : List Tab.En) (hl : l.length ≤ maxLen) (A : Option Addr) (ct : Nat) (o k : Nat → Int) (AP : Option Addr) (n c : Nat) (d s : Int) (g : Bool) (p v t : Int) (X : ByteArray) (q ln op : Int) (w : World) 
    (HLG : Hid (∀ w', Below w.heap.size w w' → Calls Tryd.prog 6 #[Mem.pv o k AP n c] w' fun e w'' => e = .returned (.bool true) ∧ Below w'.heap.size w' w''))
    (HAW : Hid (∀ w', Below w.heap.size w w' → Calls Tryd.prog 8 #[] w' fun e w'' => e = .returned (.bool true) ∧ Below w'.heap.size w' w'')) :
    Calls Tryd.prog 3 #[tv most long A l.length ct, xv o k AP n c d s g p v t X, .agg #[.int .i64 q, .int .i64 ln, .int .i64 op]] w fun e w' => e = .returned (.bool true) ∧ Below w.heap.size w w' := by
  have hl' : l.length ≤ 9223372036854775807 := hl
  go_enter Tryd.func3, Tryd.ntmps3
  go_wp2
  have BX := Lib.hid ((Bx.Blk.new_at (W := w.alloc (Tab.to most long A l.length ct)) (k := w.heap.size + 1) (xc o k AP n c d s g p v t X) 34 (by simp)).more (.cells #[.int .i64 q, .int .i64 ln, .int .i64 op] 36))
  have BT := Lib.hid (((Bx.Blk.new w [.int .i64 most, .int .i64 long, .slice A l.length ct] 24).more (xo o k AP n c d s g p v t X)).more (.cells #[.int .i64 q, .int .i64 ln, .int .i64 op] 36))
  have BY := Lib.hid (Bx.Blk.new_at (W := (w.alloc (Tab.to most long A l.length ct)).alloc (xo o k AP n c d s g p v t X)) (k := w.heap.size + 1 + 1) [.int .i64 q, .int .i64 ln, .int .i64 op] 36 (by simp))
  have bel := Bx.bel_box (Bx.bel_box (Bx.box_below w (Tab.to most long A l.length ct)) (xo o k AP n c d s g p v t X)) (.cells #[.int .i64 q, .int .i64 ln, .int .i64 op] 36)
  have hsz : w.heap.size + 3 = (((w.alloc (Tab.to most long A l.length ct)).alloc (xo o k AP n c d s g p v t X)).alloc (.cells #[.int .i64 q, .int .i64 ln, .int .i64 op] 36)).heap.size := by simp
  generalize hg : ((w.alloc (Tab.to most long A l.length ct)).alloc (xo o k AP n c d s g p v t X)).alloc (.cells #[.int .i64 q, .int .i64 ln, .int .i64 op] 36) = W0 at *
  clear hg
  go_cut [7, 8] (fun s7 s8 wx => ∃ m7 m8 : Nat, s7 = .pointer (some ⟨m7, 0, none⟩) ∧ s8 = .pointer (some ⟨m8, 0, none⟩) ∧ W0.heap.size ≤ m7 ∧ W0.heap.size ≤ m8 ∧ m7 ≠ m8 ∧ Below W0.heap.size W0 wx ∧ Bx.Blk wx m7 (Mem.pc o k AP n c) ∧ Bx.Fre wx m8 (Mem.fc d s g p v t X))
  case first =>
    refine wp_region_noPanic ?_
    refine wp_region_held_drew (S := fun w' => Bx.Blk w' (w.heap.size + 1) (xc o k AP n c d s g p v t X)) (by kernel_rfl) (by exact BX.out) (fun hHeld => ?_)
    refine wpAnyH_take (i := 0) (oi := ?o0) (v := ?v0) ?hi0 (by kernel_rfl) (by kernel_rfl) (by kernel_rfl) (fun _ _ _ h => h) ?y0 (by assumption) ?r0
    case hi0 => (simp only [List.getElem?_toArray, List.getElem?_cons_zero]; rfl)
    case y0 => (refine Or.inl ⟨by rfl, ?_⟩; intro w' hSw; (try dsimp only at hSw); go_simp; (try with_reducible rfl))
    try simp only [Act.put, List.setIfInBounds_toArray, List.set_cons_zero, List.set_cons_succ]
    refine wpAnyH_take (i := 1) (oi := ?o1) (v := Mem.pv o k AP n c) ?hi1 (by kernel_rfl) (by kernel_rfl) (by kernel_rfl) (fun _ _ _ h => h) ?y1 (by assumption) ?r1
    case hi1 => (simp only [List.getElem?_toArray, List.getElem?_cons_succ, List.getElem?_cons_zero]; rfl)
    case y1 => (refine yields_plan rfl _ rfl (w.heap.size + 1) rfl o k AP n c d s g p v t X ?_; intro w' hS; exact hS)
    try simp only [Act.put, List.setIfInBounds_toArray, List.set_cons_zero, List.set_cons_succ]
    refine wpAnyH_take (i := 2) (oi := ?o2) (v := ?v2) ?hi2 (by kernel_rfl) (by kernel_rfl) (by kernel_rfl) (fun _ _ _ h => h) ?y2 (by assumption) ?r2
    case hi2 => (simp only [List.getElem?_toArray, List.getElem?_cons_succ, List.getElem?_cons_zero]; rfl)
    case y2 => (refine Or.inl ⟨by rfl, ?_⟩; intro w' hSw; (try dsimp only at hSw); go_simp; (try with_reducible rfl))
    try simp only [Act.put, List.setIfInBounds_toArray, List.set_cons_zero, List.set_cons_succ]
    refine wpAnyH_take (i := 3) (oi := ?o3) (v := fr d s g p v t X) ?hi3 (by kernel_rfl) (by kernel_rfl) (by kernel_rfl) (fun _ _ _ h => h) ?y3 (by assumption) ?r3
    case hi3 => (simp only [List.getElem?_toArray, List.getElem?_cons_succ, List.getElem?_cons_zero]; rfl)
    case y3 => (refine yields_frame rfl _ rfl (w.heap.size + 1) rfl o k AP n c d s g p v t X ?_; intro w' hS; exact hS)
    try simp only [Act.put, List.setIfInBounds_toArray, List.set_cons_zero, List.set_cons_succ]
    refine wpAnyH_ready (rs := [4, 5]) (by kernel_rfl) (by simp) ?_
    refine AllReadyH.cons (o := ?o4) ?hi4 ?hst4 (AllReadyH.cons (o := ?o5) ?hi5 ?hst5 AllReadyH.nil)
    case hi4 => (simp only [List.getElem?_toArray, List.getElem?_cons_succ, List.getElem?_cons_zero]; rfl)
    case hi5 => (simp only [List.getElem?_toArray, List.getElem?_cons_succ, List.getElem?_cons_zero]; rfl)
    case hst4 =>
      intro K hK
      go_simp
      refine hK.out _ _ (Bx.Blk.more hHeld _) (fun hNew => ?_)
      clear hHeld
      have hHeld := hNew
      clear hNew hK K
      have NP := Lib.hid (Bx.Own.new W0 [.int .i64 0, .int .i64 0, .int .i64 0, .int .i64 0, .int .i64 0, .int .i64 0, .int .i64 0, .int .i64 0, .int .i64 0, .int .i64 0, .int .i64 0, .int .i64 0, .int .i64 0, .int .i64 0, .int .i64 0, .int .i64 0, .slice none 0 0] 28).draw
      have BE := Lib.hid (Bx.bel_drewn (Bx.bel_box (Bx.bel_refl W0) (Obj.cells #[.int .i64 0, .int .i64 0, .int .i64 0, .int .i64 0, .int .i64 0, .int .i64 0, .int .i64 0, .int .i64 0, .int .i64 0, .int .i64 0, .int .i64 0, .int .i64 0, .int .i64 0, .int .i64 0, .int .i64 0, .int .i64 0, .slice none 0 0] 28)))
      refine wpAnyH_ready (rs := [5]) (by kernel_rfl) (by simp) ?_
      refine AllReadyH.cons (o := ?o5a) ?hi5a ?hst5a AllReadyH.nil
      case hi5a => (simp only [List.getElem?_toArray, List.getElem?_cons_succ, List.getElem?_cons_zero]; rfl)
      intro K hK
      go_simp
      refine hK.out _ _ (Bx.Blk.more hHeld _) (fun hNew => ?_)
      clear hHeld
      have hHeld := hNew
      clear hNew hK K
      replace NP := Lib.hid (NP.out.more (Obj.cells #[.int .u64 0, .int .u64 0, .bool false, .int .i64 0, .int .i64 0, .int .i64 0, .string ⟨#[]⟩] 32))
      have NF := Lib.hid (Bx.Own.new_at (W := (W0.alloc (Obj.cells #[.int .i64 0, .int .i64 0, .int .i64 0, .int .i64 0, .int .i64 0, .int .i64 0, .int .i64 0, .int .i64 0, .int .i64 0, .int .i64 0, .int .i64 0, .int .i64 0, .int .i64 0, .int .i64 0, .int .i64 0, .int .i64 0, .slice none 0 0] 28)).drew) (k := W0.heap.size + 1) [.int .u64 0, .int .u64 0, .bool false, .int .i64 0, .int .i64 0, .int .i64 0, .string ⟨#[]⟩] 32 (by simp [World.drew]))
      replace BE := Lib.hid (Bx.bel_box BE.out (Obj.cells #[.int .u64 0, .int .u64 0, .bool false, .int .i64 0, .int .i64 0, .int .i64 0, .string ⟨#[]⟩] 32))
      have ZZ := Lib.hid (fun j => show ((W0.alloc (Obj.cells #[.int .i64 0, .int .i64 0, .int .i64 0, .int .i64 0, .int .i64 0, .int .i64 0, .int .i64 0, .int .i64 0, .int .i64 0, .int .i64 0, .int .i64 0, .int .i64 0, .int .i64 0, .int .i64 0, .int .i64 0, .int .i64 0, .slice none 0 0] 28)).drew.alloc (Obj.cells #[.int .u64 0, .int .u64 0, .bool false, .int .i64 0, .int .i64 0, .int .i64 0, .string ⟨#[]⟩] 32)).frozen? ⟨W0.heap.size + 1, j, none⟩ = false from frozen_at (W0.alloc (Obj.cells #[.int .i64 0, .int .i64 0, .int .i64 0, .int .i64 0, .int .i64 0, .int .i64 0, .int .i64 0, .int .i64 0, .int .i64 0, .int .i64 0, .int .i64 0, .int .i64 0, .int .i64 0, .int .i64 0, .int .i64 0, .int .i64 0, .slice none 0 0] 28)).drew #[.int .u64 0, .int .u64 0, .bool false, .int .i64 0, .int .i64 0, .int .i64 0, .string ⟨#[]⟩] 32 (by simp [World.drew]) j)
      refine wpAnyH_ready (rs := [6]) (by kernel_rfl) (by simp) ?_
      refine AllReadyH.cons (o := ?o6a) ?hi6a ?hst6a AllReadyH.nil
      case hi6a => (simp only [List.getElem?_toArray, List.getElem?_cons_succ, List.getElem?_cons_zero]; rfl)
      intro K hK
      rw [if_pos (by rfl)]
      refine wp_store_plan _ _ rfl (W0.heap.size) [.int .i64 0, .int .i64 0, .int .i64 0, .int .i64 0, .int .i64 0, .int .i64 0, .int .i64 0, .int .i64 0, .int .i64 0, .int .i64 0, .int .i64 0, .int .i64 0, .int .i64 0, .int .i64 0, .int .i64 0, .int .i64 0, .slice none 0 0] rfl o k AP n c rfl rfl NP.out ?_
      refine hK.out _ _ (Bx.Blk.apart hHeld (by omega)) (fun hNew => ?_)
      clear hHeld
      have hHeld := hNew
      clear hNew hK K
      replace NP := Lib.hid (NP.out.put (m := (Mem.pc o k AP n c)) rfl)
      replace NF := Lib.hid (NF.out.apart (k' := W0.heap.size) (m := (Mem.pc o k AP n c)) (by omega))
      replace BE := Lib.hid (Bx.bel_cells (k := W0.heap.size) (m := (Mem.pc o k AP n c)) BE.out (Nat.le_refl _))
      refine wpAnyH_ready (rs := [7]) (by kernel_rfl) (by simp) ?_
      refine ready_frame (oi := ?o7a) (x := ?x7a) (y := ?y7a) ?hi7a ?hw7a ?ho7a (W0.heap.size + 1) [.int .u64 0, .int .u64 0, .bool false, .int .i64 0, .int .i64 0, .int .i64 0, .string ⟨#[]⟩] rfl d s g p v t X ?hx7a ?hz7a NF.out (Bx.Blk.apart hHeld (by omega)) ?rest7a
      case hi7a => (simp only [List.getElem?_toArray, List.getElem?_cons_succ, List.getElem?_cons_zero]; rfl)
      case hw7a => rfl
      case ho7a => rfl
      case hx7a => rfl
      case hz7a => rfl
      replace hHeld := Bx.Blk.apart (k' := W0.heap.size + 1) (m := (Mem.fc d s g p v t X)) hHeld (by omega)
      replace NF := Lib.hid (NF.out.put (m := (Mem.fc d s g p v t X)) rfl)
      replace NP := Lib.hid (NP.out.apart (k' := W0.heap.size + 1) (m := (Mem.fc d s g p v t X)) (by omega))
      replace BE := Lib.hid (Bx.bel_cells (k := W0.heap.size + 1) (m := (Mem.fc d s g p v t X)) BE.out (Nat.le_succ _))
      refine wpAnyH_done (by kernel_rfl) ?_ _
      refine NoPanic.normal ?_
      go_wp2_with fail
      go_meet
      exact ⟨W0.heap.size, W0.heap.size + 1, rfl, rfl, (Nat.le_refl _), (Nat.le_succ _), by omega, BE.out, NP.out.1, ⟨NF.out.1, NF.out.1.lt (by simp), fun j => by rw [frozen_cells, frozen_cells]; exact ZZ.out j⟩⟩
    case hst5 =>
      intro K hK
      go_simp
      refine hK.out _ _ (Bx.Blk.more hHeld _) (fun hNew => ?_)
      clear hHeld
      have hHeld := hNew
      clear hNew hK K
      have NF := Lib.hid (Bx.Own.new W0 [.int .u64 0, .int .u64 0, .bool false, .int .i64 0, .int .i64 0, .int .i64 0, .string ⟨#[]⟩] 32).draw
      have BE := Lib.hid (Bx.bel_drewn (Bx.bel_box (Bx.bel_refl W0) (Obj.cells #[.int .u64 0, .int .u64 0, .bool false, .int .i64 0, .int .i64 0, .int .i64 0, .string ⟨#[]⟩] 32)))
      have ZZ := Lib.hid (fun j => show (W0.alloc (Obj.cells #[.int .u64 0, .int .u64 0, .bool false, .int .i64 0, .int .i64 0, .int .i64 0, .string ⟨#[]⟩] 32)).drew.frozen? ⟨W0.heap.size, j, none⟩ = false from World.frozen?_alloc_new W0 #[.int .u64 0, .int .u64 0, .bool false, .int .i64 0, .int .i64 0, .int .i64 0, .string ⟨#[]⟩] 32 j)
      refine wpAnyH_ready (rs := [4]) (by kernel_rfl) (by simp) ?_
      refine AllReadyH.cons (o := ?o4b) ?hi4b ?hst4b AllReadyH.nil
      case hi4b => (simp only [List.getElem?_toArray, List.getElem?_cons_succ, List.getElem?_cons_zero]; rfl)
      intro K hK
      go_simp
      refine hK.out _ _ (Bx.Blk.more hHeld _) (fun hNew => ?_)
      clear hHeld
      have hHeld := hNew
      clear hNew hK K
      replace NF := Lib.hid (NF.out.more (Obj.cells #[.int .i64 0, .int .i64 0, .int .i64 0, .int .i64 0, .int .i64 0, .int .i64 0, .int .i64 0, .int .i64 0, .int .i64 0, .int .i64 0, .int .i64 0, .int .i64 0, .int .i64 0, .int .i64 0, .int .i64 0, .int .i64 0, .slice none 0 0] 28))
      have NP := Lib.hid (Bx.Own.new_at (W := (W0.alloc (Obj.cells #[.int .u64 0, .int .u64 0, .bool false, .int .i64 0, .int .i64 0, .int .i64 0, .string ⟨#[]⟩] 32)).drew) (k := W0.heap.size + 1) [.int .i64 0, .int .i64 0, .int .i64 0, .int .i64 0, .int .i64 0, .int .i64 0, .int .i64 0, .int .i64 0, .int .i64 0, .int .i64 0, .int .i64 0, .int .i64 0, .int .i64 0, .int .i64 0, .int .i64 0, .int .i64 0, .slice none 0 0] 28 (by simp [World.drew]))
      replace BE := Lib.hid (Bx.bel_box BE.out (Obj.cells #[.int .i64 0, .int .i64 0, .int .i64 0, .int .i64 0, .int .i64 0, .int .i64 0, .int .i64 0, .int .i64 0, .int .i64 0, .int .i64 0, .int .i64 0, .int .i64 0, .int .i64 0, .int .i64 0, .int .i64 0, .int .i64 0, .slice none 0 0] 28))
      replace ZZ := Lib.hid (fun j => show ((W0.alloc (Obj.cells #[.int .u64 0, .int .u64 0, .bool false, .int .i64 0, .int .i64 0, .int .i64 0, .string ⟨#[]⟩] 32)).drew.alloc (Obj.cells #[.int .i64 0, .int .i64 0, .int .i64 0, .int .i64 0, .int .i64 0, .int .i64 0, .int .i64 0, .int .i64 0, .int .i64 0, .int .i64 0, .int .i64 0, .int .i64 0, .int .i64 0, .int .i64 0, .int .i64 0, .int .i64 0, .slice none 0 0] 28)).frozen? ⟨W0.heap.size, j, none⟩ = false from (frozen_old (W0.alloc (Obj.cells #[.int .u64 0, .int .u64 0, .bool false, .int .i64 0, .int .i64 0, .int .i64 0, .string ⟨#[]⟩] 32)).drew (Obj.cells #[.int .i64 0, .int .i64 0, .int .i64 0, .int .i64 0, .int .i64 0, .int .i64 0, .int .i64 0, .int .i64 0, .int .i64 0, .int .i64 0, .int .i64 0, .int .i64 0, .int .i64 0, .int .i64 0, .int .i64 0, .int .i64 0, .slice none 0 0] 28) (by simp [World.drew]) j).trans (ZZ.out j))
      refine wpAnyH_ready (rs := [6]) (by kernel_rfl) (by simp) ?_
      refine AllReadyH.cons (o := ?o6b) ?hi6b ?hst6b AllReadyH.nil
      case hi6b => (simp only [List.getElem?_toArray, List.getElem?_cons_succ, List.getElem?_cons_zero]; rfl)
      intro K hK
      rw [if_pos (by rfl)]
      refine wp_store_plan _ _ rfl (W0.heap.size + 1) [.int .i64 0, .int .i64 0, .int .i64 0, .int .i64 0, .int .i64 0, .int .i64 0, .int .i64 0, .int .i64 0, .int .i64 0, .int .i64 0, .int .i64 0, .int .i64 0, .int .i64 0, .int .i64 0, .int .i64 0, .int .i64 0, .slice none 0 0] rfl o k AP n c rfl rfl NP.out ?_
      refine hK.out _ _ (Bx.Blk.apart hHeld (by omega)) (fun hNew => ?_)
      clear hHeld
      have hHeld := hNew
      clear hNew hK K
      replace NP := Lib.hid (NP.out.put (m := (Mem.pc o k AP n c)) rfl)
      replace NF := Lib.hid (NF.out.apart (k' := W0.heap.size + 1) (m := (Mem.pc o k AP n c)) (by omega))
      replace BE := Lib.hid (Bx.bel_cells (k := W0.heap.size + 1) (m := (Mem.pc o k AP n c)) BE.out (Nat.le_succ _))
      refine wpAnyH_ready (rs := [7]) (by kernel_rfl) (by simp) ?_
      refine ready_frame (oi := ?o7b) (x := ?x7b) (y := ?y7b) ?hi7b ?hw7b ?ho7b (W0.heap.size) [.int .u64 0, .int .u64 0, .bool false, .int .i64 0, .int .i64 0, .int .i64 0, .string ⟨#[]⟩] rfl d s g p v t X ?hx7b ?hz7b NF.out (Bx.Blk.apart hHeld (by omega)) ?rest7b
      case hi7b => (simp only [List.getElem?_toArray, List.getElem?_cons_succ, List.getElem?_cons_zero]; rfl)
      case hw7b => rfl
      case ho7b => rfl
      case hx7b => rfl
      case hz7b => rfl
      replace hHeld := Bx.Blk.apart (k' := W0.heap.size) (m := (Mem.fc d s g p v t X)) hHeld (by omega)
      replace NF := Lib.hid (NF.out.put (m := (Mem.fc d s g p v t X)) rfl)
      replace NP := Lib.hid (NP.out.apart (k' := W0.heap.size) (m := (Mem.fc d s g p v t X)) (by omega))
      replace BE := Lib.hid (Bx.bel_cells (k := W0.heap.size) (m := (Mem.fc d s g p v t X)) BE.out (Nat.le_refl _))
      refine wpAnyH_done (by kernel_rfl) ?_ _
      refine NoPanic.normal ?_
      go_wp2_with fail
      go_meet
      exact ⟨W0.heap.size + 1, W0.heap.size, rfl, rfl, (Nat.le_succ _), (Nat.le_refl _), by omega, BE.out, NP.out.1, ⟨NF.out.1, NF.out.1.lt (by simp), fun j => by rw [frozen_cells, frozen_cells]; exact ZZ.out j⟩⟩
  case rest =>
    obtain ⟨m7, m8, rfl, rfl, hm7, hm8, n78, hb, P, FF⟩ := hcut
    have n7a : m7 ≠ w.heap.size ∧ m7 ≠ w.heap.size + 1 + 1 ∧ w.heap.size ≤ m7 := by omega
    have n8a : m8 ≠ w.heap.size ∧ m8 ≠ w.heap.size + 1 + 1 ∧ w.heap.size ≤ m8 := by omega
    replace bel := Bx.then_below bel hb
    replace BT := Lib.hid (BT.out.keep hb)
    replace BY := Lib.hid (BY.out.keep hb)
    replace P := Lib.hid P
    replace FF := Lib.hid FF
    clear hb BX hsz hm7 hm8
    have B0 := BT
    have B1 := BY
    have B2 := P
    have B3 := Lib.hid FF.out.1
    clear BT BY P
    obtain ⟨c0_0, c0_1, c0_2⟩ := B0.out.all3
    obtain ⟨c1_0, c1_1, c1_2⟩ := B1.out.all3
    obtain ⟨c3_0, c3_1, c3_2, c3_3, c3_4, c3_5, c3_6⟩ := B3.out.all7
    go_wp2_with (first | ((with_reducible refine Mem.load_at ?_ ?_ (m7) ?_ o k AP n c ?_ ?_); (· rfl); (· rfl); (· rfl); (· exact B2.out)))
    refine (HLG.out _ bel).mono ?_; rintro e w1 ⟨rfl, hb1⟩
    replace bel := Bx.then_below bel hb1
    replace B0 := Lib.hid (B0.out.keep hb1)
    replace B1 := Lib.hid (B1.out.keep hb1)
    replace B2 := Lib.hid (B2.out.keep hb1)
    replace B3 := Lib.hid (B3.out.keep hb1)
    clear hb1
    clear c0_0 c0_1 c0_2 c1_0 c1_1 c1_2 c3_0 c3_1 c3_2 c3_3 c3_4 c3_5 c3_6
    obtain ⟨c0_0, c0_1, c0_2⟩ := B0.out.all3
    obtain ⟨c1_0, c1_1, c1_2⟩ := B1.out.all3
    obtain ⟨c3_0, c3_1, c3_2, c3_3, c3_4, c3_5, c3_6⟩ := B3.out.all7
    go_wp2_with (first | ((with_reducible refine Mem.load_at ?_ ?_ (m7) ?_ o k AP n c ?_ ?_); (· rfl); (· rfl); (· rfl); (· exact B2.out)))
    refine (HAW.out _ bel).mono ?_; rintro e w2 ⟨rfl, hb2⟩
    replace bel := Bx.then_below bel hb2
    replace B0 := Lib.hid (B0.out.keep hb2)
    replace B1 := Lib.hid (B1.out.keep hb2)
    replace B2 := Lib.hid (B2.out.keep hb2)
    replace B3 := Lib.hid (B3.out.keep hb2)
    clear hb2
    go_wp2_with (first | ((with_reducible refine Mem.load_at ?_ ?_ (m7) ?_ o k AP n c ?_ ?_); (· rfl); (· rfl); (· rfl); (· exact B2.out)))
    go_ret
    exact ⟨rfl, bel⟩

set_option maxRecDepth 100000 in
set_option maxHeartbeats 8000000 in
theorem says_tab (most long : Int) (l : List Tab.En) (hl : l.length ≤ maxLen) (A : Option Addr) (ct : Nat) (o k : Nat → Int) (AP : Option Addr) (n c : Nat) (d s : Int) (g : Bool) (p v t : Int) (X : ByteArray) (q ln op : Int) (w : World) (hT : (60 : Int) < l.length)
    (HLG : Hid (∀ w', Below w.heap.size w w' → Calls Tryd.prog 6 #[Mem.pv o k AP n c] w' fun e w'' => e = .returned (.bool false) ∧ Below w'.heap.size w' w''))
    (HAW : Hid (∀ w', Below w.heap.size w w' → Calls Tryd.prog 8 #[] w' fun e w'' => e = .returned (.bool true) ∧ Below w'.heap.size w' w'')) :
    Calls Tryd.prog 3 #[tv most long A l.length ct, xv o k AP n c d s g p v t X, .agg #[.int .i64 q, .int .i64 ln, .int .i64 op]] w fun e w' => e = .returned (.bool true) ∧ Below w.heap.size w w' := by
  have hl' : l.length ≤ 9223372036854775807 := hl
  go_enter Tryd.func3, Tryd.ntmps3
  go_wp2
  have BX := Lib.hid ((Bx.Blk.new_at (W := w.alloc (Tab.to most long A l.length ct)) (k := w.heap.size + 1) (xc o k AP n c d s g p v t X) 34 (by simp)).more (.cells #[.int .i64 q, .int .i64 ln, .int .i64 op] 36))
  have BT := Lib.hid (((Bx.Blk.new w [.int .i64 most, .int .i64 long, .slice A l.length ct] 24).more (xo o k AP n c d s g p v t X)).more (.cells #[.int .i64 q, .int .i64 ln, .int .i64 op] 36))
  have BY := Lib.hid (Bx.Blk.new_at (W := (w.alloc (Tab.to most long A l.length ct)).alloc (xo o k AP n c d s g p v t X)) (k := w.heap.size + 1 + 1) [.int .i64 q, .int .i64 ln, .int .i64 op] 36 (by simp))
  have bel := Bx.bel_box (Bx.bel_box (Bx.box_below w (Tab.to most long A l.length ct)) (xo o k AP n c d s g p v t X)) (.cells #[.int .i64 q, .int .i64 ln, .int .i64 op] 36)
  have hsz : w.heap.size + 3 = (((w.alloc (Tab.to most long A l.length ct)).alloc (xo o k AP n c d s g p v t X)).alloc (.cells #[.int .i64 q, .int .i64 ln, .int .i64 op] 36)).heap.size := by simp
  generalize hg : ((w.alloc (Tab.to most long A l.length ct)).alloc (xo o k AP n c d s g p v t X)).alloc (.cells #[.int .i64 q, .int .i64 ln, .int .i64 op] 36) = W0 at *
  clear hg
  go_cut [7, 8] (fun s7 s8 wx => ∃ m7 m8 : Nat, s7 = .pointer (some ⟨m7, 0, none⟩) ∧ s8 = .pointer (some ⟨m8, 0, none⟩) ∧ W0.heap.size ≤ m7 ∧ W0.heap.size ≤ m8 ∧ m7 ≠ m8 ∧ Below W0.heap.size W0 wx ∧ Bx.Blk wx m7 (Mem.pc o k AP n c) ∧ Bx.Fre wx m8 (Mem.fc d s g p v t X))
  case first =>
    refine wp_region_noPanic ?_
    refine wp_region_held_drew (S := fun w' => Bx.Blk w' (w.heap.size + 1) (xc o k AP n c d s g p v t X)) (by kernel_rfl) (by exact BX.out) (fun hHeld => ?_)
    refine wpAnyH_take (i := 0) (oi := ?o0) (v := ?v0) ?hi0 (by kernel_rfl) (by kernel_rfl) (by kernel_rfl) (fun _ _ _ h => h) ?y0 (by assumption) ?r0
    case hi0 => (simp only [List.getElem?_toArray, List.getElem?_cons_zero]; rfl)
    case y0 => (refine Or.inl ⟨by rfl, ?_⟩; intro w' hSw; (try dsimp only at hSw); go_simp; (try with_reducible rfl))
    try simp only [Act.put, List.setIfInBounds_toArray, List.set_cons_zero, List.set_cons_succ]
    refine wpAnyH_take (i := 1) (oi := ?o1) (v := Mem.pv o k AP n c) ?hi1 (by kernel_rfl) (by kernel_rfl) (by kernel_rfl) (fun _ _ _ h => h) ?y1 (by assumption) ?r1
    case hi1 => (simp only [List.getElem?_toArray, List.getElem?_cons_succ, List.getElem?_cons_zero]; rfl)
    case y1 => (refine yields_plan rfl _ rfl (w.heap.size + 1) rfl o k AP n c d s g p v t X ?_; intro w' hS; exact hS)
    try simp only [Act.put, List.setIfInBounds_toArray, List.set_cons_zero, List.set_cons_succ]
    refine wpAnyH_take (i := 2) (oi := ?o2) (v := ?v2) ?hi2 (by kernel_rfl) (by kernel_rfl) (by kernel_rfl) (fun _ _ _ h => h) ?y2 (by assumption) ?r2
    case hi2 => (simp only [List.getElem?_toArray, List.getElem?_cons_succ, List.getElem?_cons_zero]; rfl)
    case y2 => (refine Or.inl ⟨by rfl, ?_⟩; intro w' hSw; (try dsimp only at hSw); go_simp; (try with_reducible rfl))
    try simp only [Act.put, List.setIfInBounds_toArray, List.set_cons_zero, List.set_cons_succ]
    refine wpAnyH_take (i := 3) (oi := ?o3) (v := fr d s g p v t X) ?hi3 (by kernel_rfl) (by kernel_rfl) (by kernel_rfl) (fun _ _ _ h => h) ?y3 (by assumption) ?r3
    case hi3 => (simp only [List.getElem?_toArray, List.getElem?_cons_succ, List.getElem?_cons_zero]; rfl)
    case y3 => (refine yields_frame rfl _ rfl (w.heap.size + 1) rfl o k AP n c d s g p v t X ?_; intro w' hS; exact hS)
    try simp only [Act.put, List.setIfInBounds_toArray, List.set_cons_zero, List.set_cons_succ]
    refine wpAnyH_ready (rs := [4, 5]) (by kernel_rfl) (by simp) ?_
    refine AllReadyH.cons (o := ?o4) ?hi4 ?hst4 (AllReadyH.cons (o := ?o5) ?hi5 ?hst5 AllReadyH.nil)
    case hi4 => (simp only [List.getElem?_toArray, List.getElem?_cons_succ, List.getElem?_cons_zero]; rfl)
    case hi5 => (simp only [List.getElem?_toArray, List.getElem?_cons_succ, List.getElem?_cons_zero]; rfl)
    case hst4 =>
      intro K hK
      go_simp
      refine hK.out _ _ (Bx.Blk.more hHeld _) (fun hNew => ?_)
      clear hHeld
      have hHeld := hNew
      clear hNew hK K
      have NP := Lib.hid (Bx.Own.new W0 [.int .i64 0, .int .i64 0, .int .i64 0, .int .i64 0, .int .i64 0, .int .i64 0, .int .i64 0, .int .i64 0, .int .i64 0, .int .i64 0, .int .i64 0, .int .i64 0, .int .i64 0, .int .i64 0, .int .i64 0, .int .i64 0, .slice none 0 0] 28).draw
      have BE := Lib.hid (Bx.bel_drewn (Bx.bel_box (Bx.bel_refl W0) (Obj.cells #[.int .i64 0, .int .i64 0, .int .i64 0, .int .i64 0, .int .i64 0, .int .i64 0, .int .i64 0, .int .i64 0, .int .i64 0, .int .i64 0, .int .i64 0, .int .i64 0, .int .i64 0, .int .i64 0, .int .i64 0, .int .i64 0, .slice none 0 0] 28)))
      refine wpAnyH_ready (rs := [5]) (by kernel_rfl) (by simp) ?_
      refine AllReadyH.cons (o := ?o5a) ?hi5a ?hst5a AllReadyH.nil
      case hi5a => (simp only [List.getElem?_toArray, List.getElem?_cons_succ, List.getElem?_cons_zero]; rfl)
      intro K hK
      go_simp
      refine hK.out _ _ (Bx.Blk.more hHeld _) (fun hNew => ?_)
      clear hHeld
      have hHeld := hNew
      clear hNew hK K
      replace NP := Lib.hid (NP.out.more (Obj.cells #[.int .u64 0, .int .u64 0, .bool false, .int .i64 0, .int .i64 0, .int .i64 0, .string ⟨#[]⟩] 32))
      have NF := Lib.hid (Bx.Own.new_at (W := (W0.alloc (Obj.cells #[.int .i64 0, .int .i64 0, .int .i64 0, .int .i64 0, .int .i64 0, .int .i64 0, .int .i64 0, .int .i64 0, .int .i64 0, .int .i64 0, .int .i64 0, .int .i64 0, .int .i64 0, .int .i64 0, .int .i64 0, .int .i64 0, .slice none 0 0] 28)).drew) (k := W0.heap.size + 1) [.int .u64 0, .int .u64 0, .bool false, .int .i64 0, .int .i64 0, .int .i64 0, .string ⟨#[]⟩] 32 (by simp [World.drew]))
      replace BE := Lib.hid (Bx.bel_box BE.out (Obj.cells #[.int .u64 0, .int .u64 0, .bool false, .int .i64 0, .int .i64 0, .int .i64 0, .string ⟨#[]⟩] 32))
      have ZZ := Lib.hid (fun j => show ((W0.alloc (Obj.cells #[.int .i64 0, .int .i64 0, .int .i64 0, .int .i64 0, .int .i64 0, .int .i64 0, .int .i64 0, .int .i64 0, .int .i64 0, .int .i64 0, .int .i64 0, .int .i64 0, .int .i64 0, .int .i64 0, .int .i64 0, .int .i64 0, .slice none 0 0] 28)).drew.alloc (Obj.cells #[.int .u64 0, .int .u64 0, .bool false, .int .i64 0, .int .i64 0, .int .i64 0, .string ⟨#[]⟩] 32)).frozen? ⟨W0.heap.size + 1, j, none⟩ = false from frozen_at (W0.alloc (Obj.cells #[.int .i64 0, .int .i64 0, .int .i64 0, .int .i64 0, .int .i64 0, .int .i64 0, .int .i64 0, .int .i64 0, .int .i64 0, .int .i64 0, .int .i64 0, .int .i64 0, .int .i64 0, .int .i64 0, .int .i64 0, .int .i64 0, .slice none 0 0] 28)).drew #[.int .u64 0, .int .u64 0, .bool false, .int .i64 0, .int .i64 0, .int .i64 0, .string ⟨#[]⟩] 32 (by simp [World.drew]) j)
      refine wpAnyH_ready (rs := [6]) (by kernel_rfl) (by simp) ?_
      refine AllReadyH.cons (o := ?o6a) ?hi6a ?hst6a AllReadyH.nil
      case hi6a => (simp only [List.getElem?_toArray, List.getElem?_cons_succ, List.getElem?_cons_zero]; rfl)
      intro K hK
      rw [if_pos (by rfl)]
      refine wp_store_plan _ _ rfl (W0.heap.size) [.int .i64 0, .int .i64 0, .int .i64 0, .int .i64 0, .int .i64 0, .int .i64 0, .int .i64 0, .int .i64 0, .int .i64 0, .int .i64 0, .int .i64 0, .int .i64 0, .int .i64 0, .int .i64 0, .int .i64 0, .int .i64 0, .slice none 0 0] rfl o k AP n c rfl rfl NP.out ?_
      refine hK.out _ _ (Bx.Blk.apart hHeld (by omega)) (fun hNew => ?_)
      clear hHeld
      have hHeld := hNew
      clear hNew hK K
      replace NP := Lib.hid (NP.out.put (m := (Mem.pc o k AP n c)) rfl)
      replace NF := Lib.hid (NF.out.apart (k' := W0.heap.size) (m := (Mem.pc o k AP n c)) (by omega))
      replace BE := Lib.hid (Bx.bel_cells (k := W0.heap.size) (m := (Mem.pc o k AP n c)) BE.out (Nat.le_refl _))
      refine wpAnyH_ready (rs := [7]) (by kernel_rfl) (by simp) ?_
      refine ready_frame (oi := ?o7a) (x := ?x7a) (y := ?y7a) ?hi7a ?hw7a ?ho7a (W0.heap.size + 1) [.int .u64 0, .int .u64 0, .bool false, .int .i64 0, .int .i64 0, .int .i64 0, .string ⟨#[]⟩] rfl d s g p v t X ?hx7a ?hz7a NF.out (Bx.Blk.apart hHeld (by omega)) ?rest7a
      case hi7a => (simp only [List.getElem?_toArray, List.getElem?_cons_succ, List.getElem?_cons_zero]; rfl)
      case hw7a => rfl
      case ho7a => rfl
      case hx7a => rfl
      case hz7a => rfl
      replace hHeld := Bx.Blk.apart (k' := W0.heap.size + 1) (m := (Mem.fc d s g p v t X)) hHeld (by omega)
      replace NF := Lib.hid (NF.out.put (m := (Mem.fc d s g p v t X)) rfl)
      replace NP := Lib.hid (NP.out.apart (k' := W0.heap.size + 1) (m := (Mem.fc d s g p v t X)) (by omega))
      replace BE := Lib.hid (Bx.bel_cells (k := W0.heap.size + 1) (m := (Mem.fc d s g p v t X)) BE.out (Nat.le_succ _))
      refine wpAnyH_done (by kernel_rfl) ?_ _
      refine NoPanic.normal ?_
      go_wp2_with fail
      go_meet
      exact ⟨W0.heap.size, W0.heap.size + 1, rfl, rfl, (Nat.le_refl _), (Nat.le_succ _), by omega, BE.out, NP.out.1, ⟨NF.out.1, NF.out.1.lt (by simp), fun j => by rw [frozen_cells, frozen_cells]; exact ZZ.out j⟩⟩
    case hst5 =>
      intro K hK
      go_simp
      refine hK.out _ _ (Bx.Blk.more hHeld _) (fun hNew => ?_)
      clear hHeld
      have hHeld := hNew
      clear hNew hK K
      have NF := Lib.hid (Bx.Own.new W0 [.int .u64 0, .int .u64 0, .bool false, .int .i64 0, .int .i64 0, .int .i64 0, .string ⟨#[]⟩] 32).draw
      have BE := Lib.hid (Bx.bel_drewn (Bx.bel_box (Bx.bel_refl W0) (Obj.cells #[.int .u64 0, .int .u64 0, .bool false, .int .i64 0, .int .i64 0, .int .i64 0, .string ⟨#[]⟩] 32)))
      have ZZ := Lib.hid (fun j => show (W0.alloc (Obj.cells #[.int .u64 0, .int .u64 0, .bool false, .int .i64 0, .int .i64 0, .int .i64 0, .string ⟨#[]⟩] 32)).drew.frozen? ⟨W0.heap.size, j, none⟩ = false from World.frozen?_alloc_new W0 #[.int .u64 0, .int .u64 0, .bool false, .int .i64 0, .int .i64 0, .int .i64 0, .string ⟨#[]⟩] 32 j)
      refine wpAnyH_ready (rs := [4]) (by kernel_rfl) (by simp) ?_
      refine AllReadyH.cons (o := ?o4b) ?hi4b ?hst4b AllReadyH.nil
      case hi4b => (simp only [List.getElem?_toArray, List.getElem?_cons_succ, List.getElem?_cons_zero]; rfl)
      intro K hK
      go_simp
      refine hK.out _ _ (Bx.Blk.more hHeld _) (fun hNew => ?_)
      clear hHeld
      have hHeld := hNew
      clear hNew hK K
      replace NF := Lib.hid (NF.out.more (Obj.cells #[.int .i64 0, .int .i64 0, .int .i64 0, .int .i64 0, .int .i64 0, .int .i64 0, .int .i64 0, .int .i64 0, .int .i64 0, .int .i64 0, .int .i64 0, .int .i64 0, .int .i64 0, .int .i64 0, .int .i64 0, .int .i64 0, .slice none 0 0] 28))
      have NP := Lib.hid (Bx.Own.new_at (W := (W0.alloc (Obj.cells #[.int .u64 0, .int .u64 0, .bool false, .int .i64 0, .int .i64 0, .int .i64 0, .string ⟨#[]⟩] 32)).drew) (k := W0.heap.size + 1) [.int .i64 0, .int .i64 0, .int .i64 0, .int .i64 0, .int .i64 0, .int .i64 0, .int .i64 0, .int .i64 0, .int .i64 0, .int .i64 0, .int .i64 0, .int .i64 0, .int .i64 0, .int .i64 0, .int .i64 0, .int .i64 0, .slice none 0 0] 28 (by simp [World.drew]))
      replace BE := Lib.hid (Bx.bel_box BE.out (Obj.cells #[.int .i64 0, .int .i64 0, .int .i64 0, .int .i64 0, .int .i64 0, .int .i64 0, .int .i64 0, .int .i64 0, .int .i64 0, .int .i64 0, .int .i64 0, .int .i64 0, .int .i64 0, .int .i64 0, .int .i64 0, .int .i64 0, .slice none 0 0] 28))
      replace ZZ := Lib.hid (fun j => show ((W0.alloc (Obj.cells #[.int .u64 0, .int .u64 0, .bool false, .int .i64 0, .int .i64 0, .int .i64 0, .string ⟨#[]⟩] 32)).drew.alloc (Obj.cells #[.int .i64 0, .int .i64 0, .int .i64 0, .int .i64 0, .int .i64 0, .int .i64 0, .int .i64 0, .int .i64 0, .int .i64 0, .int .i64 0, .int .i64 0, .int .i64 0, .int .i64 0, .int .i64 0, .int .i64 0, .int .i64 0, .slice none 0 0] 28)).frozen? ⟨W0.heap.size, j, none⟩ = false from (frozen_old (W0.alloc (Obj.cells #[.int .u64 0, .int .u64 0, .bool false, .int .i64 0, .int .i64 0, .int .i64 0, .string ⟨#[]⟩] 32)).drew (Obj.cells #[.int .i64 0, .int .i64 0, .int .i64 0, .int .i64 0, .int .i64 0, .int .i64 0, .int .i64 0, .int .i64 0, .int .i64 0, .int .i64 0, .int .i64 0, .int .i64 0, .int .i64 0, .int .i64 0, .int .i64 0, .int .i64 0, .slice none 0 0] 28) (by simp [World.drew]) j).trans (ZZ.out j))
      refine wpAnyH_ready (rs := [6]) (by kernel_rfl) (by simp) ?_
      refine AllReadyH.cons (o := ?o6b) ?hi6b ?hst6b AllReadyH.nil
      case hi6b => (simp only [List.getElem?_toArray, List.getElem?_cons_succ, List.getElem?_cons_zero]; rfl)
      intro K hK
      rw [if_pos (by rfl)]
      refine wp_store_plan _ _ rfl (W0.heap.size + 1) [.int .i64 0, .int .i64 0, .int .i64 0, .int .i64 0, .int .i64 0, .int .i64 0, .int .i64 0, .int .i64 0, .int .i64 0, .int .i64 0, .int .i64 0, .int .i64 0, .int .i64 0, .int .i64 0, .int .i64 0, .int .i64 0, .slice none 0 0] rfl o k AP n c rfl rfl NP.out ?_
      refine hK.out _ _ (Bx.Blk.apart hHeld (by omega)) (fun hNew => ?_)
      clear hHeld
      have hHeld := hNew
      clear hNew hK K
      replace NP := Lib.hid (NP.out.put (m := (Mem.pc o k AP n c)) rfl)
      replace NF := Lib.hid (NF.out.apart (k' := W0.heap.size + 1) (m := (Mem.pc o k AP n c)) (by omega))
      replace BE := Lib.hid (Bx.bel_cells (k := W0.heap.size + 1) (m := (Mem.pc o k AP n c)) BE.out (Nat.le_succ _))
      refine wpAnyH_ready (rs := [7]) (by kernel_rfl) (by simp) ?_
      refine ready_frame (oi := ?o7b) (x := ?x7b) (y := ?y7b) ?hi7b ?hw7b ?ho7b (W0.heap.size) [.int .u64 0, .int .u64 0, .bool false, .int .i64 0, .int .i64 0, .int .i64 0, .string ⟨#[]⟩] rfl d s g p v t X ?hx7b ?hz7b NF.out (Bx.Blk.apart hHeld (by omega)) ?rest7b
      case hi7b => (simp only [List.getElem?_toArray, List.getElem?_cons_succ, List.getElem?_cons_zero]; rfl)
      case hw7b => rfl
      case ho7b => rfl
      case hx7b => rfl
      case hz7b => rfl
      replace hHeld := Bx.Blk.apart (k' := W0.heap.size) (m := (Mem.fc d s g p v t X)) hHeld (by omega)
      replace NF := Lib.hid (NF.out.put (m := (Mem.fc d s g p v t X)) rfl)
      replace NP := Lib.hid (NP.out.apart (k' := W0.heap.size) (m := (Mem.fc d s g p v t X)) (by omega))
      replace BE := Lib.hid (Bx.bel_cells (k := W0.heap.size) (m := (Mem.fc d s g p v t X)) BE.out (Nat.le_refl _))
      refine wpAnyH_done (by kernel_rfl) ?_ _
      refine NoPanic.normal ?_
      go_wp2_with fail
      go_meet
      exact ⟨W0.heap.size + 1, W0.heap.size, rfl, rfl, (Nat.le_succ _), (Nat.le_refl _), by omega, BE.out, NP.out.1, ⟨NF.out.1, NF.out.1.lt (by simp), fun j => by rw [frozen_cells, frozen_cells]; exact ZZ.out j⟩⟩
  case rest =>
    obtain ⟨m7, m8, rfl, rfl, hm7, hm8, n78, hb, P, FF⟩ := hcut
    have n7a : m7 ≠ w.heap.size ∧ m7 ≠ w.heap.size + 1 + 1 ∧ w.heap.size ≤ m7 := by omega
    have n8a : m8 ≠ w.heap.size ∧ m8 ≠ w.heap.size + 1 + 1 ∧ w.heap.size ≤ m8 := by omega
    replace bel := Bx.then_below bel hb
    replace BT := Lib.hid (BT.out.keep hb)
    replace BY := Lib.hid (BY.out.keep hb)
    replace P := Lib.hid P
    replace FF := Lib.hid FF
    clear hb BX hsz hm7 hm8
    have B0 := BT
    have B1 := BY
    have B2 := P
    have B3 := Lib.hid FF.out.1
    clear BT BY P
    obtain ⟨c0_0, c0_1, c0_2⟩ := B0.out.all3
    obtain ⟨c1_0, c1_1, c1_2⟩ := B1.out.all3
    obtain ⟨c3_0, c3_1, c3_2, c3_3, c3_4, c3_5, c3_6⟩ := B3.out.all7
    go_wp2_with (first | ((with_reducible refine Mem.load_at ?_ ?_ (m7) ?_ o k AP n c ?_ ?_); (· rfl); (· rfl); (· rfl); (· exact B2.out)))
    refine (HLG.out _ bel).mono ?_; rintro e w1 ⟨rfl, hb1⟩
    replace bel := Bx.then_below bel hb1
    replace B0 := Lib.hid (B0.out.keep hb1)
    replace B1 := Lib.hid (B1.out.keep hb1)
    replace B2 := Lib.hid (B2.out.keep hb1)
    replace B3 := Lib.hid (B3.out.keep hb1)
    clear hb1
    clear c0_0 c0_1 c0_2 c1_0 c1_1 c1_2 c3_0 c3_1 c3_2 c3_3 c3_4 c3_5 c3_6
    obtain ⟨c0_0, c0_1, c0_2⟩ := B0.out.all3
    obtain ⟨c1_0, c1_1, c1_2⟩ := B1.out.all3
    obtain ⟨c3_0, c3_1, c3_2, c3_3, c3_4, c3_5, c3_6⟩ := B3.out.all7
    go_wp2_with (first | ((with_reducible refine Mem.load_at ?_ ?_ (m7) ?_ o k AP n c ?_ ?_); (· rfl); (· rfl); (· rfl); (· exact B2.out)))
    refine (HAW.out _ bel).mono ?_; rintro e w2 ⟨rfl, hb2⟩
    replace bel := Bx.then_below bel hb2
    replace B0 := Lib.hid (B0.out.keep hb2)
    replace B1 := Lib.hid (B1.out.keep hb2)
    replace B2 := Lib.hid (B2.out.keep hb2)
    replace B3 := Lib.hid (B3.out.keep hb2)
    clear hb2
    go_wp2_with (first | ((with_reducible refine Mem.load_at ?_ ?_ (m7) ?_ o k AP n c ?_ ?_); (· rfl); (· rfl); (· rfl); (· exact B2.out)))
    go_ret
    exact ⟨rfl, bel⟩

set_option maxRecDepth 100000 in
set_option maxHeartbeats 8000000 in
theorem says_body (most long : Int) (l : List Tab.En) (hl : l.length ≤ maxLen) (A : Option Addr) (ct : Nat) (o k : Nat → Int) (AP : Option Addr) (n c : Nat) (d s : Int) (g : Bool) (p v t : Int) (X : ByteArray) (q ln op : Int) (w : World) (hT : ¬ (60 : Int) < l.length) (hX : 12000 < X.size)
    (HLG : Hid (∀ w', Below w.heap.size w w' → Calls Tryd.prog 6 #[Mem.pv o k AP n c] w' fun e w'' => e = .returned (.bool false) ∧ Below w'.heap.size w' w''))
    (HAW : Hid (∀ w', Below w.heap.size w w' → Calls Tryd.prog 8 #[] w' fun e w'' => e = .returned (.bool true) ∧ Below w'.heap.size w' w'')) :
    Calls Tryd.prog 3 #[tv most long A l.length ct, xv o k AP n c d s g p v t X, .agg #[.int .i64 q, .int .i64 ln, .int .i64 op]] w fun e w' => e = .returned (.bool true) ∧ Below w.heap.size w w' := by
  have hl' : l.length ≤ 9223372036854775807 := hl
  go_enter Tryd.func3, Tryd.ntmps3
  go_wp2
  have BX := Lib.hid ((Bx.Blk.new_at (W := w.alloc (Tab.to most long A l.length ct)) (k := w.heap.size + 1) (xc o k AP n c d s g p v t X) 34 (by simp)).more (.cells #[.int .i64 q, .int .i64 ln, .int .i64 op] 36))
  have BT := Lib.hid (((Bx.Blk.new w [.int .i64 most, .int .i64 long, .slice A l.length ct] 24).more (xo o k AP n c d s g p v t X)).more (.cells #[.int .i64 q, .int .i64 ln, .int .i64 op] 36))
  have BY := Lib.hid (Bx.Blk.new_at (W := (w.alloc (Tab.to most long A l.length ct)).alloc (xo o k AP n c d s g p v t X)) (k := w.heap.size + 1 + 1) [.int .i64 q, .int .i64 ln, .int .i64 op] 36 (by simp))
  have bel := Bx.bel_box (Bx.bel_box (Bx.box_below w (Tab.to most long A l.length ct)) (xo o k AP n c d s g p v t X)) (.cells #[.int .i64 q, .int .i64 ln, .int .i64 op] 36)
  have hsz : w.heap.size + 3 = (((w.alloc (Tab.to most long A l.length ct)).alloc (xo o k AP n c d s g p v t X)).alloc (.cells #[.int .i64 q, .int .i64 ln, .int .i64 op] 36)).heap.size := by simp
  generalize hg : ((w.alloc (Tab.to most long A l.length ct)).alloc (xo o k AP n c d s g p v t X)).alloc (.cells #[.int .i64 q, .int .i64 ln, .int .i64 op] 36) = W0 at *
  clear hg
  go_cut [7, 8] (fun s7 s8 wx => ∃ m7 m8 : Nat, s7 = .pointer (some ⟨m7, 0, none⟩) ∧ s8 = .pointer (some ⟨m8, 0, none⟩) ∧ W0.heap.size ≤ m7 ∧ W0.heap.size ≤ m8 ∧ m7 ≠ m8 ∧ Below W0.heap.size W0 wx ∧ Bx.Blk wx m7 (Mem.pc o k AP n c) ∧ Bx.Fre wx m8 (Mem.fc d s g p v t X))
  case first =>
    refine wp_region_noPanic ?_
    refine wp_region_held_drew (S := fun w' => Bx.Blk w' (w.heap.size + 1) (xc o k AP n c d s g p v t X)) (by kernel_rfl) (by exact BX.out) (fun hHeld => ?_)
    refine wpAnyH_take (i := 0) (oi := ?o0) (v := ?v0) ?hi0 (by kernel_rfl) (by kernel_rfl) (by kernel_rfl) (fun _ _ _ h => h) ?y0 (by assumption) ?r0
    case hi0 => (simp only [List.getElem?_toArray, List.getElem?_cons_zero]; rfl)
    case y0 => (refine Or.inl ⟨by rfl, ?_⟩; intro w' hSw; (try dsimp only at hSw); go_simp; (try with_reducible rfl))
    try simp only [Act.put, List.setIfInBounds_toArray, List.set_cons_zero, List.set_cons_succ]
    refine wpAnyH_take (i := 1) (oi := ?o1) (v := Mem.pv o k AP n c) ?hi1 (by kernel_rfl) (by kernel_rfl) (by kernel_rfl) (fun _ _ _ h => h) ?y1 (by assumption) ?r1
    case hi1 => (simp only [List.getElem?_toArray, List.getElem?_cons_succ, List.getElem?_cons_zero]; rfl)
    case y1 => (refine yields_plan rfl _ rfl (w.heap.size + 1) rfl o k AP n c d s g p v t X ?_; intro w' hS; exact hS)
    try simp only [Act.put, List.setIfInBounds_toArray, List.set_cons_zero, List.set_cons_succ]
    refine wpAnyH_take (i := 2) (oi := ?o2) (v := ?v2) ?hi2 (by kernel_rfl) (by kernel_rfl) (by kernel_rfl) (fun _ _ _ h => h) ?y2 (by assumption) ?r2
    case hi2 => (simp only [List.getElem?_toArray, List.getElem?_cons_succ, List.getElem?_cons_zero]; rfl)
    case y2 => (refine Or.inl ⟨by rfl, ?_⟩; intro w' hSw; (try dsimp only at hSw); go_simp; (try with_reducible rfl))
    try simp only [Act.put, List.setIfInBounds_toArray, List.set_cons_zero, List.set_cons_succ]
    refine wpAnyH_take (i := 3) (oi := ?o3) (v := fr d s g p v t X) ?hi3 (by kernel_rfl) (by kernel_rfl) (by kernel_rfl) (fun _ _ _ h => h) ?y3 (by assumption) ?r3
    case hi3 => (simp only [List.getElem?_toArray, List.getElem?_cons_succ, List.getElem?_cons_zero]; rfl)
    case y3 => (refine yields_frame rfl _ rfl (w.heap.size + 1) rfl o k AP n c d s g p v t X ?_; intro w' hS; exact hS)
    try simp only [Act.put, List.setIfInBounds_toArray, List.set_cons_zero, List.set_cons_succ]
    refine wpAnyH_ready (rs := [4, 5]) (by kernel_rfl) (by simp) ?_
    refine AllReadyH.cons (o := ?o4) ?hi4 ?hst4 (AllReadyH.cons (o := ?o5) ?hi5 ?hst5 AllReadyH.nil)
    case hi4 => (simp only [List.getElem?_toArray, List.getElem?_cons_succ, List.getElem?_cons_zero]; rfl)
    case hi5 => (simp only [List.getElem?_toArray, List.getElem?_cons_succ, List.getElem?_cons_zero]; rfl)
    case hst4 =>
      intro K hK
      go_simp
      refine hK.out _ _ (Bx.Blk.more hHeld _) (fun hNew => ?_)
      clear hHeld
      have hHeld := hNew
      clear hNew hK K
      have NP := Lib.hid (Bx.Own.new W0 [.int .i64 0, .int .i64 0, .int .i64 0, .int .i64 0, .int .i64 0, .int .i64 0, .int .i64 0, .int .i64 0, .int .i64 0, .int .i64 0, .int .i64 0, .int .i64 0, .int .i64 0, .int .i64 0, .int .i64 0, .int .i64 0, .slice none 0 0] 28).draw
      have BE := Lib.hid (Bx.bel_drewn (Bx.bel_box (Bx.bel_refl W0) (Obj.cells #[.int .i64 0, .int .i64 0, .int .i64 0, .int .i64 0, .int .i64 0, .int .i64 0, .int .i64 0, .int .i64 0, .int .i64 0, .int .i64 0, .int .i64 0, .int .i64 0, .int .i64 0, .int .i64 0, .int .i64 0, .int .i64 0, .slice none 0 0] 28)))
      refine wpAnyH_ready (rs := [5]) (by kernel_rfl) (by simp) ?_
      refine AllReadyH.cons (o := ?o5a) ?hi5a ?hst5a AllReadyH.nil
      case hi5a => (simp only [List.getElem?_toArray, List.getElem?_cons_succ, List.getElem?_cons_zero]; rfl)
      intro K hK
      go_simp
      refine hK.out _ _ (Bx.Blk.more hHeld _) (fun hNew => ?_)
      clear hHeld
      have hHeld := hNew
      clear hNew hK K
      replace NP := Lib.hid (NP.out.more (Obj.cells #[.int .u64 0, .int .u64 0, .bool false, .int .i64 0, .int .i64 0, .int .i64 0, .string ⟨#[]⟩] 32))
      have NF := Lib.hid (Bx.Own.new_at (W := (W0.alloc (Obj.cells #[.int .i64 0, .int .i64 0, .int .i64 0, .int .i64 0, .int .i64 0, .int .i64 0, .int .i64 0, .int .i64 0, .int .i64 0, .int .i64 0, .int .i64 0, .int .i64 0, .int .i64 0, .int .i64 0, .int .i64 0, .int .i64 0, .slice none 0 0] 28)).drew) (k := W0.heap.size + 1) [.int .u64 0, .int .u64 0, .bool false, .int .i64 0, .int .i64 0, .int .i64 0, .string ⟨#[]⟩] 32 (by simp [World.drew]))
      replace BE := Lib.hid (Bx.bel_box BE.out (Obj.cells #[.int .u64 0, .int .u64 0, .bool false, .int .i64 0, .int .i64 0, .int .i64 0, .string ⟨#[]⟩] 32))
      have ZZ := Lib.hid (fun j => show ((W0.alloc (Obj.cells #[.int .i64 0, .int .i64 0, .int .i64 0, .int .i64 0, .int .i64 0, .int .i64 0, .int .i64 0, .int .i64 0, .int .i64 0, .int .i64 0, .int .i64 0, .int .i64 0, .int .i64 0, .int .i64 0, .int .i64 0, .int .i64 0, .slice none 0 0] 28)).drew.alloc (Obj.cells #[.int .u64 0, .int .u64 0, .bool false, .int .i64 0, .int .i64 0, .int .i64 0, .string ⟨#[]⟩] 32)).frozen? ⟨W0.heap.size + 1, j, none⟩ = false from frozen_at (W0.alloc (Obj.cells #[.int .i64 0, .int .i64 0, .int .i64 0, .int .i64 0, .int .i64 0, .int .i64 0, .int .i64 0, .int .i64 0, .int .i64 0, .int .i64 0, .int .i64 0, .int .i64 0, .int .i64 0, .int .i64 0, .int .i64 0, .int .i64 0, .slice none 0 0] 28)).drew #[.int .u64 0, .int .u64 0, .bool false, .int .i64 0, .int .i64 0, .int .i64 0, .string ⟨#[]⟩] 32 (by simp [World.drew]) j)
      refine wpAnyH_ready (rs := [6]) (by kernel_rfl) (by simp) ?_
      refine AllReadyH.cons (o := ?o6a) ?hi6a ?hst6a AllReadyH.nil
      case hi6a => (simp only [List.getElem?_toArray, List.getElem?_cons_succ, List.getElem?_cons_zero]; rfl)
      intro K hK
      rw [if_pos (by rfl)]
      refine wp_store_plan _ _ rfl (W0.heap.size) [.int .i64 0, .int .i64 0, .int .i64 0, .int .i64 0, .int .i64 0, .int .i64 0, .int .i64 0, .int .i64 0, .int .i64 0, .int .i64 0, .int .i64 0, .int .i64 0, .int .i64 0, .int .i64 0, .int .i64 0, .int .i64 0, .slice none 0 0] rfl o k AP n c rfl rfl NP.out ?_
      refine hK.out _ _ (Bx.Blk.apart hHeld (by omega)) (fun hNew => ?_)
      clear hHeld
      have hHeld := hNew
      clear hNew hK K
      replace NP := Lib.hid (NP.out.put (m := (Mem.pc o k AP n c)) rfl)
      replace NF := Lib.hid (NF.out.apart (k' := W0.heap.size) (m := (Mem.pc o k AP n c)) (by omega))
      replace BE := Lib.hid (Bx.bel_cells (k := W0.heap.size) (m := (Mem.pc o k AP n c)) BE.out (Nat.le_refl _))
      refine wpAnyH_ready (rs := [7]) (by kernel_rfl) (by simp) ?_
      refine ready_frame (oi := ?o7a) (x := ?x7a) (y := ?y7a) ?hi7a ?hw7a ?ho7a (W0.heap.size + 1) [.int .u64 0, .int .u64 0, .bool false, .int .i64 0, .int .i64 0, .int .i64 0, .string ⟨#[]⟩] rfl d s g p v t X ?hx7a ?hz7a NF.out (Bx.Blk.apart hHeld (by omega)) ?rest7a
      case hi7a => (simp only [List.getElem?_toArray, List.getElem?_cons_succ, List.getElem?_cons_zero]; rfl)
      case hw7a => rfl
      case ho7a => rfl
      case hx7a => rfl
      case hz7a => rfl
      replace hHeld := Bx.Blk.apart (k' := W0.heap.size + 1) (m := (Mem.fc d s g p v t X)) hHeld (by omega)
      replace NF := Lib.hid (NF.out.put (m := (Mem.fc d s g p v t X)) rfl)
      replace NP := Lib.hid (NP.out.apart (k' := W0.heap.size + 1) (m := (Mem.fc d s g p v t X)) (by omega))
      replace BE := Lib.hid (Bx.bel_cells (k := W0.heap.size + 1) (m := (Mem.fc d s g p v t X)) BE.out (Nat.le_succ _))
      refine wpAnyH_done (by kernel_rfl) ?_ _
      refine NoPanic.normal ?_
      go_wp2_with fail
      go_meet
      exact ⟨W0.heap.size, W0.heap.size + 1, rfl, rfl, (Nat.le_refl _), (Nat.le_succ _), by omega, BE.out, NP.out.1, ⟨NF.out.1, NF.out.1.lt (by simp), fun j => by rw [frozen_cells, frozen_cells]; exact ZZ.out j⟩⟩
    case hst5 =>
      intro K hK
      go_simp
      refine hK.out _ _ (Bx.Blk.more hHeld _) (fun hNew => ?_)
      clear hHeld
      have hHeld := hNew
      clear hNew hK K
      have NF := Lib.hid (Bx.Own.new W0 [.int .u64 0, .int .u64 0, .bool false, .int .i64 0, .int .i64 0, .int .i64 0, .string ⟨#[]⟩] 32).draw
      have BE := Lib.hid (Bx.bel_drewn (Bx.bel_box (Bx.bel_refl W0) (Obj.cells #[.int .u64 0, .int .u64 0, .bool false, .int .i64 0, .int .i64 0, .int .i64 0, .string ⟨#[]⟩] 32)))
      have ZZ := Lib.hid (fun j => show (W0.alloc (Obj.cells #[.int .u64 0, .int .u64 0, .bool false, .int .i64 0, .int .i64 0, .int .i64 0, .string ⟨#[]⟩] 32)).drew.frozen? ⟨W0.heap.size, j, none⟩ = false from World.frozen?_alloc_new W0 #[.int .u64 0, .int .u64 0, .bool false, .int .i64 0, .int .i64 0, .int .i64 0, .string ⟨#[]⟩] 32 j)
      refine wpAnyH_ready (rs := [4]) (by kernel_rfl) (by simp) ?_
      refine AllReadyH.cons (o := ?o4b) ?hi4b ?hst4b AllReadyH.nil
      case hi4b => (simp only [List.getElem?_toArray, List.getElem?_cons_succ, List.getElem?_cons_zero]; rfl)
      intro K hK
      go_simp
      refine hK.out _ _ (Bx.Blk.more hHeld _) (fun hNew => ?_)
      clear hHeld
      have hHeld := hNew
      clear hNew hK K
      replace NF := Lib.hid (NF.out.more (Obj.cells #[.int .i64 0, .int .i64 0, .int .i64 0, .int .i64 0, .int .i64 0, .int .i64 0, .int .i64 0, .int .i64 0, .int .i64 0, .int .i64 0, .int .i64 0, .int .i64 0, .int .i64 0, .int .i64 0, .int .i64 0, .int .i64 0, .slice none 0 0] 28))
      have NP := Lib.hid (Bx.Own.new_at (W := (W0.alloc (Obj.cells #[.int .u64 0, .int .u64 0, .bool false, .int .i64 0, .int .i64 0, .int .i64 0, .string ⟨#[]⟩] 32)).drew) (k := W0.heap.size + 1) [.int .i64 0, .int .i64 0, .int .i64 0, .int .i64 0, .int .i64 0, .int .i64 0, .int .i64 0, .int .i64 0, .int .i64 0, .int .i64 0, .int .i64 0, .int .i64 0, .int .i64 0, .int .i64 0, .int .i64 0, .int .i64 0, .slice none 0 0] 28 (by simp [World.drew]))
      replace BE := Lib.hid (Bx.bel_box BE.out (Obj.cells #[.int .i64 0, .int .i64 0, .int .i64 0, .int .i64 0, .int .i64 0, .int .i64 0, .int .i64 0, .int .i64 0, .int .i64 0, .int .i64 0, .int .i64 0, .int .i64 0, .int .i64 0, .int .i64 0, .int .i64 0, .int .i64 0, .slice none 0 0] 28))
      replace ZZ := Lib.hid (fun j => show ((W0.alloc (Obj.cells #[.int .u64 0, .int .u64 0, .bool false, .int .i64 0, .int .i64 0, .int .i64 0, .string ⟨#[]⟩] 32)).drew.alloc (Obj.cells #[.int .i64 0, .int .i64 0, .int .i64 0, .int .i64 0, .int .i64 0, .int .i64 0, .int .i64 0, .int .i64 0, .int .i64 0, .int .i64 0, .int .i64 0, .int .i64 0, .int .i64 0, .int .i64 0, .int .i64 0, .int .i64 0, .slice none 0 0] 28)).frozen? ⟨W0.heap.size, j, none⟩ = false from (frozen_old (W0.alloc (Obj.cells #[.int .u64 0, .int .u64 0, .bool false, .int .i64 0, .int .i64 0, .int .i64 0, .string ⟨#[]⟩] 32)).drew (Obj.cells #[.int .i64 0, .int .i64 0, .int .i64 0, .int .i64 0, .int .i64 0, .int .i64 0, .int .i64 0, .int .i64 0, .int .i64 0, .int .i64 0, .int .i64 0, .int .i64 0, .int .i64 0, .int .i64 0, .int .i64 0, .int .i64 0, .slice none 0 0] 28) (by simp [World.drew]) j).trans (ZZ.out j))
      refine wpAnyH_ready (rs := [6]) (by kernel_rfl) (by simp) ?_
      refine AllReadyH.cons (o := ?o6b) ?hi6b ?hst6b AllReadyH.nil
      case hi6b => (simp only [List.getElem?_toArray, List.getElem?_cons_succ, List.getElem?_cons_zero]; rfl)
      intro K hK
      rw [if_pos (by rfl)]
      refine wp_store_plan _ _ rfl (W0.heap.size + 1) [.int .i64 0, .int .i64 0, .int .i64 0, .int .i64 0, .int .i64 0, .int .i64 0, .int .i64 0, .int .i64 0, .int .i64 0, .int .i64 0, .int .i64 0, .int .i64 0, .int .i64 0, .int .i64 0, .int .i64 0, .int .i64 0, .slice none 0 0] rfl o k AP n c rfl rfl NP.out ?_
      refine hK.out _ _ (Bx.Blk.apart hHeld (by omega)) (fun hNew => ?_)
      clear hHeld
      have hHeld := hNew
      clear hNew hK K
      replace NP := Lib.hid (NP.out.put (m := (Mem.pc o k AP n c)) rfl)
      replace NF := Lib.hid (NF.out.apart (k' := W0.heap.size + 1) (m := (Mem.pc o k AP n c)) (by omega))
      replace BE := Lib.hid (Bx.bel_cells (k := W0.heap.size + 1) (m := (Mem.pc o k AP n c)) BE.out (Nat.le_succ _))
      refine wpAnyH_ready (rs := [7]) (by kernel_rfl) (by simp) ?_
      refine ready_frame (oi := ?o7b) (x := ?x7b) (y := ?y7b) ?hi7b ?hw7b ?ho7b (W0.heap.size) [.int .u64 0, .int .u64 0, .bool false, .int .i64 0, .int .i64 0, .int .i64 0, .string ⟨#[]⟩] rfl d s g p v t X ?hx7b ?hz7b NF.out (Bx.Blk.apart hHeld (by omega)) ?rest7b
      case hi7b => (simp only [List.getElem?_toArray, List.getElem?_cons_succ, List.getElem?_cons_zero]; rfl)
      case hw7b => rfl
      case ho7b => rfl
      case hx7b => rfl
      case hz7b => rfl
      replace hHeld := Bx.Blk.apart (k' := W0.heap.size) (m := (Mem.fc d s g p v t X)) hHeld (by omega)
      replace NF := Lib.hid (NF.out.put (m := (Mem.fc d s g p v t X)) rfl)
      replace NP := Lib.hid (NP.out.apart (k' := W0.heap.size) (m := (Mem.fc d s g p v t X)) (by omega))
      replace BE := Lib.hid (Bx.bel_cells (k := W0.heap.size) (m := (Mem.fc d s g p v t X)) BE.out (Nat.le_refl _))
      refine wpAnyH_done (by kernel_rfl) ?_ _
      refine NoPanic.normal ?_
      go_wp2_with fail
      go_meet
      exact ⟨W0.heap.size + 1, W0.heap.size, rfl, rfl, (Nat.le_succ _), (Nat.le_refl _), by omega, BE.out, NP.out.1, ⟨NF.out.1, NF.out.1.lt (by simp), fun j => by rw [frozen_cells, frozen_cells]; exact ZZ.out j⟩⟩
  case rest =>
    obtain ⟨m7, m8, rfl, rfl, hm7, hm8, n78, hb, P, FF⟩ := hcut
    have n7a : m7 ≠ w.heap.size ∧ m7 ≠ w.heap.size + 1 + 1 ∧ w.heap.size ≤ m7 := by omega
    have n8a : m8 ≠ w.heap.size ∧ m8 ≠ w.heap.size + 1 + 1 ∧ w.heap.size ≤ m8 := by omega
    replace bel := Bx.then_below bel hb
    replace BT := Lib.hid (BT.out.keep hb)
    replace BY := Lib.hid (BY.out.keep hb)
    replace P := Lib.hid P
    replace FF := Lib.hid FF
    clear hb BX hsz hm7 hm8
    have B0 := BT
    have B1 := BY
    have B2 := P
    have B3 := Lib.hid FF.out.1
    clear BT BY P
    obtain ⟨c0_0, c0_1, c0_2⟩ := B0.out.all3
    obtain ⟨c1_0, c1_1, c1_2⟩ := B1.out.all3
    obtain ⟨c3_0, c3_1, c3_2, c3_3, c3_4, c3_5, c3_6⟩ := B3.out.all7
    go_wp2_with (first | ((with_reducible refine Mem.load_at ?_ ?_ (m7) ?_ o k AP n c ?_ ?_); (· rfl); (· rfl); (· rfl); (· exact B2.out)))
    refine (HLG.out _ bel).mono ?_; rintro e w1 ⟨rfl, hb1⟩
    replace bel := Bx.then_below bel hb1
    replace B0 := Lib.hid (B0.out.keep hb1)
    replace B1 := Lib.hid (B1.out.keep hb1)
    replace B2 := Lib.hid (B2.out.keep hb1)
    replace B3 := Lib.hid (B3.out.keep hb1)
    clear hb1
    clear c0_0 c0_1 c0_2 c1_0 c1_1 c1_2 c3_0 c3_1 c3_2 c3_3 c3_4 c3_5 c3_6
    obtain ⟨c0_0, c0_1, c0_2⟩ := B0.out.all3
    obtain ⟨c1_0, c1_1, c1_2⟩ := B1.out.all3
    obtain ⟨c3_0, c3_1, c3_2, c3_3, c3_4, c3_5, c3_6⟩ := B3.out.all7
    go_wp2_with (first | ((with_reducible refine Mem.load_at ?_ ?_ (m7) ?_ o k AP n c ?_ ?_); (· rfl); (· rfl); (· rfl); (· exact B2.out)))
    refine (HAW.out _ bel).mono ?_; rintro e w2 ⟨rfl, hb2⟩
    replace bel := Bx.then_below bel hb2
    replace B0 := Lib.hid (B0.out.keep hb2)
    replace B1 := Lib.hid (B1.out.keep hb2)
    replace B2 := Lib.hid (B2.out.keep hb2)
    replace B3 := Lib.hid (B3.out.keep hb2)
    clear hb2
    go_wp2_with (first | ((with_reducible refine Mem.load_at ?_ ?_ (m7) ?_ o k AP n c ?_ ?_); (· rfl); (· rfl); (· rfl); (· exact B2.out)))
    go_ret
    exact ⟨rfl, bel⟩

set_option maxRecDepth 100000 in
set_option maxHeartbeats 8000000 in
theorem says_sound (most long : Int) (l : List Tab.En) (hl : l.length ≤ maxLen) (A : Option Addr) (ct : Nat) (o k : Nat → Int) (AP : Option Addr) (n c : Nat) (d s : Int) (g : Bool) (p v t : Int) (X : ByteArray) (q ln op : Int) (w : World) (hT : ¬ (60 : Int) < l.length) (hX : ¬ 12000 < X.size)
    (HLG : Hid (∀ w', Below w.heap.size w w' → Calls Tryd.prog 6 #[Mem.pv o k AP n c] w' fun e w'' => e = .returned (.bool false) ∧ Below w'.heap.size w' w''))
    (HSO : Hid (∀ w', Below w.heap.size w w' → Calls Tryd.prog 7 #[tv most long A l.length ct] w' fun e w'' => e = .returned (.bool false) ∧ Below w'.heap.size w' w''))
    (HAW : Hid (∀ w', Below w.heap.size w w' → Calls Tryd.prog 8 #[] w' fun e w'' => e = .returned (.bool true) ∧ Below w'.heap.size w' w'')) :
    Calls Tryd.prog 3 #[tv most long A l.length ct, xv o k AP n c d s g p v t X, .agg #[.int .i64 q, .int .i64 ln, .int .i64 op]] w fun e w' => e = .returned (.bool true) ∧ Below w.heap.size w w' := by
  have hl' : l.length ≤ 9223372036854775807 := hl
  go_enter Tryd.func3, Tryd.ntmps3
  go_wp2
  have BX := Lib.hid ((Bx.Blk.new_at (W := w.alloc (Tab.to most long A l.length ct)) (k := w.heap.size + 1) (xc o k AP n c d s g p v t X) 34 (by simp)).more (.cells #[.int .i64 q, .int .i64 ln, .int .i64 op] 36))
  have BT := Lib.hid (((Bx.Blk.new w [.int .i64 most, .int .i64 long, .slice A l.length ct] 24).more (xo o k AP n c d s g p v t X)).more (.cells #[.int .i64 q, .int .i64 ln, .int .i64 op] 36))
  have BY := Lib.hid (Bx.Blk.new_at (W := (w.alloc (Tab.to most long A l.length ct)).alloc (xo o k AP n c d s g p v t X)) (k := w.heap.size + 1 + 1) [.int .i64 q, .int .i64 ln, .int .i64 op] 36 (by simp))
  have bel := Bx.bel_box (Bx.bel_box (Bx.box_below w (Tab.to most long A l.length ct)) (xo o k AP n c d s g p v t X)) (.cells #[.int .i64 q, .int .i64 ln, .int .i64 op] 36)
  have hsz : w.heap.size + 3 = (((w.alloc (Tab.to most long A l.length ct)).alloc (xo o k AP n c d s g p v t X)).alloc (.cells #[.int .i64 q, .int .i64 ln, .int .i64 op] 36)).heap.size := by simp
  generalize hg : ((w.alloc (Tab.to most long A l.length ct)).alloc (xo o k AP n c d s g p v t X)).alloc (.cells #[.int .i64 q, .int .i64 ln, .int .i64 op] 36) = W0 at *
  clear hg
  go_cut [7, 8] (fun s7 s8 wx => ∃ m7 m8 : Nat, s7 = .pointer (some ⟨m7, 0, none⟩) ∧ s8 = .pointer (some ⟨m8, 0, none⟩) ∧ W0.heap.size ≤ m7 ∧ W0.heap.size ≤ m8 ∧ m7 ≠ m8 ∧ Below W0.heap.size W0 wx ∧ Bx.Blk wx m7 (Mem.pc o k AP n c) ∧ Bx.Fre wx m8 (Mem.fc d s g p v t X))
  case first =>
    refine wp_region_noPanic ?_
    refine wp_region_held_drew (S := fun w' => Bx.Blk w' (w.heap.size + 1) (xc o k AP n c d s g p v t X)) (by kernel_rfl) (by exact BX.out) (fun hHeld => ?_)
    refine wpAnyH_take (i := 0) (oi := ?o0) (v := ?v0) ?hi0 (by kernel_rfl) (by kernel_rfl) (by kernel_rfl) (fun _ _ _ h => h) ?y0 (by assumption) ?r0
    case hi0 => (simp only [List.getElem?_toArray, List.getElem?_cons_zero]; rfl)
    case y0 => (refine Or.inl ⟨by rfl, ?_⟩; intro w' hSw; (try dsimp only at hSw); go_simp; (try with_reducible rfl))
    try simp only [Act.put, List.setIfInBounds_toArray, List.set_cons_zero, List.set_cons_succ]
    refine wpAnyH_take (i := 1) (oi := ?o1) (v := Mem.pv o k AP n c) ?hi1 (by kernel_rfl) (by kernel_rfl) (by kernel_rfl) (fun _ _ _ h => h) ?y1 (by assumption) ?r1
    case hi1 => (simp only [List.getElem?_toArray, List.getElem?_cons_succ, List.getElem?_cons_zero]; rfl)
    case y1 => (refine yields_plan rfl _ rfl (w.heap.size + 1) rfl o k AP n c d s g p v t X ?_; intro w' hS; exact hS)
    try simp only [Act.put, List.setIfInBounds_toArray, List.set_cons_zero, List.set_cons_succ]
    refine wpAnyH_take (i := 2) (oi := ?o2) (v := ?v2) ?hi2 (by kernel_rfl) (by kernel_rfl) (by kernel_rfl) (fun _ _ _ h => h) ?y2 (by assumption) ?r2
    case hi2 => (simp only [List.getElem?_toArray, List.getElem?_cons_succ, List.getElem?_cons_zero]; rfl)
    case y2 => (refine Or.inl ⟨by rfl, ?_⟩; intro w' hSw; (try dsimp only at hSw); go_simp; (try with_reducible rfl))
    try simp only [Act.put, List.setIfInBounds_toArray, List.set_cons_zero, List.set_cons_succ]
    refine wpAnyH_take (i := 3) (oi := ?o3) (v := fr d s g p v t X) ?hi3 (by kernel_rfl) (by kernel_rfl) (by kernel_rfl) (fun _ _ _ h => h) ?y3 (by assumption) ?r3
    case hi3 => (simp only [List.getElem?_toArray, List.getElem?_cons_succ, List.getElem?_cons_zero]; rfl)
    case y3 => (refine yields_frame rfl _ rfl (w.heap.size + 1) rfl o k AP n c d s g p v t X ?_; intro w' hS; exact hS)
    try simp only [Act.put, List.setIfInBounds_toArray, List.set_cons_zero, List.set_cons_succ]
    refine wpAnyH_ready (rs := [4, 5]) (by kernel_rfl) (by simp) ?_
    refine AllReadyH.cons (o := ?o4) ?hi4 ?hst4 (AllReadyH.cons (o := ?o5) ?hi5 ?hst5 AllReadyH.nil)
    case hi4 => (simp only [List.getElem?_toArray, List.getElem?_cons_succ, List.getElem?_cons_zero]; rfl)
    case hi5 => (simp only [List.getElem?_toArray, List.getElem?_cons_succ, List.getElem?_cons_zero]; rfl)
    case hst4 =>
      intro K hK
      go_simp
      refine hK.out _ _ (Bx.Blk.more hHeld _) (fun hNew => ?_)
      clear hHeld
      have hHeld := hNew
      clear hNew hK K
      have NP := Lib.hid (Bx.Own.new W0 [.int .i64 0, .int .i64 0, .int .i64 0, .int .i64 0, .int .i64 0, .int .i64 0, .int .i64 0, .int .i64 0, .int .i64 0, .int .i64 0, .int .i64 0, .int .i64 0, .int .i64 0, .int .i64 0, .int .i64 0, .int .i64 0, .slice none 0 0] 28).draw
      have BE := Lib.hid (Bx.bel_drewn (Bx.bel_box (Bx.bel_refl W0) (Obj.cells #[.int .i64 0, .int .i64 0, .int .i64 0, .int .i64 0, .int .i64 0, .int .i64 0, .int .i64 0, .int .i64 0, .int .i64 0, .int .i64 0, .int .i64 0, .int .i64 0, .int .i64 0, .int .i64 0, .int .i64 0, .int .i64 0, .slice none 0 0] 28)))
      refine wpAnyH_ready (rs := [5]) (by kernel_rfl) (by simp) ?_
      refine AllReadyH.cons (o := ?o5a) ?hi5a ?hst5a AllReadyH.nil
      case hi5a => (simp only [List.getElem?_toArray, List.getElem?_cons_succ, List.getElem?_cons_zero]; rfl)
      intro K hK
      go_simp
      refine hK.out _ _ (Bx.Blk.more hHeld _) (fun hNew => ?_)
      clear hHeld
      have hHeld := hNew
      clear hNew hK K
      replace NP := Lib.hid (NP.out.more (Obj.cells #[.int .u64 0, .int .u64 0, .bool false, .int .i64 0, .int .i64 0, .int .i64 0, .string ⟨#[]⟩] 32))
      have NF := Lib.hid (Bx.Own.new_at (W := (W0.alloc (Obj.cells #[.int .i64 0, .int .i64 0, .int .i64 0, .int .i64 0, .int .i64 0, .int .i64 0, .int .i64 0, .int .i64 0, .int .i64 0, .int .i64 0, .int .i64 0, .int .i64 0, .int .i64 0, .int .i64 0, .int .i64 0, .int .i64 0, .slice none 0 0] 28)).drew) (k := W0.heap.size + 1) [.int .u64 0, .int .u64 0, .bool false, .int .i64 0, .int .i64 0, .int .i64 0, .string ⟨#[]⟩] 32 (by simp [World.drew]))
      replace BE := Lib.hid (Bx.bel_box BE.out (Obj.cells #[.int .u64 0, .int .u64 0, .bool false, .int .i64 0, .int .i64 0, .int .i64 0, .string ⟨#[]⟩] 32))
      have ZZ := Lib.hid (fun j => show ((W0.alloc (Obj.cells #[.int .i64 0, .int .i64 0, .int .i64 0, .int .i64 0, .int .i64 0, .int .i64 0, .int .i64 0, .int .i64 0, .int .i64 0, .int .i64 0, .int .i64 0, .int .i64 0, .int .i64 0, .int .i64 0, .int .i64 0, .int .i64 0, .slice none 0 0] 28)).drew.alloc (Obj.cells #[.int .u64 0, .int .u64 0, .bool false, .int .i64 0, .int .i64 0, .int .i64 0, .string ⟨#[]⟩] 32)).frozen? ⟨W0.heap.size + 1, j, none⟩ = false from frozen_at (W0.alloc (Obj.cells #[.int .i64 0, .int .i64 0, .int .i64 0, .int .i64 0, .int .i64 0, .int .i64 0, .int .i64 0, .int .i64 0, .int .i64 0, .int .i64 0, .int .i64 0, .int .i64 0, .int .i64 0, .int .i64 0, .int .i64 0, .int .i64 0, .slice none 0 0] 28)).drew #[.int .u64 0, .int .u64 0, .bool false, .int .i64 0, .int .i64 0, .int .i64 0, .string ⟨#[]⟩] 32 (by simp [World.drew]) j)
      refine wpAnyH_ready (rs := [6]) (by kernel_rfl) (by simp) ?_
      refine AllReadyH.cons (o := ?o6a) ?hi6a ?hst6a AllReadyH.nil
      case hi6a => (simp only [List.getElem?_toArray, List.getElem?_cons_succ, List.getElem?_cons_zero]; rfl)
      intro K hK
      rw [if_pos (by rfl)]
      refine wp_store_plan _ _ rfl (W0.heap.size) [.int .i64 0, .int .i64 0, .int .i64 0, .int .i64 0, .int .i64 0, .int .i64 0, .int .i64 0, .int .i64 0, .int .i64 0, .int .i64 0, .int .i64 0, .int .i64 0, .int .i64 0, .int .i64 0, .int .i64 0, .int .i64 0, .slice none 0 0] rfl o k AP n c rfl rfl NP.out ?_
      refine hK.out _ _ (Bx.Blk.apart hHeld (by omega)) (fun hNew => ?_)
      clear hHeld
      have hHeld := hNew
      clear hNew hK K
      replace NP := Lib.hid (NP.out.put (m := (Mem.pc o k AP n c)) rfl)
      replace NF := Lib.hid (NF.out.apart (k' := W0.heap.size) (m := (Mem.pc o k AP n c)) (by omega))
      replace BE := Lib.hid (Bx.bel_cells (k := W0.heap.size) (m := (Mem.pc o k AP n c)) BE.out (Nat.le_refl _))
      refine wpAnyH_ready (rs := [7]) (by kernel_rfl) (by simp) ?_
      refine ready_frame (oi := ?o7a) (x := ?x7a) (y := ?y7a) ?hi7a ?hw7a ?ho7a (W0.heap.size + 1) [.int .u64 0, .int .u64 0, .bool false, .int .i64 0, .int .i64 0, .int .i64 0, .string ⟨#[]⟩] rfl d s g p v t X ?hx7a ?hz7a NF.out (Bx.Blk.apart hHeld (by omega)) ?rest7a
      case hi7a => (simp only [List.getElem?_toArray, List.getElem?_cons_succ, List.getElem?_cons_zero]; rfl)
      case hw7a => rfl
      case ho7a => rfl
      case hx7a => rfl
      case hz7a => rfl
      replace hHeld := Bx.Blk.apart (k' := W0.heap.size + 1) (m := (Mem.fc d s g p v t X)) hHeld (by omega)
      replace NF := Lib.hid (NF.out.put (m := (Mem.fc d s g p v t X)) rfl)
      replace NP := Lib.hid (NP.out.apart (k' := W0.heap.size + 1) (m := (Mem.fc d s g p v t X)) (by omega))
      replace BE := Lib.hid (Bx.bel_cells (k := W0.heap.size + 1) (m := (Mem.fc d s g p v t X)) BE.out (Nat.le_succ _))
      refine wpAnyH_done (by kernel_rfl) ?_ _
      refine NoPanic.normal ?_
      go_wp2_with fail
      go_meet
      exact ⟨W0.heap.size, W0.heap.size + 1, rfl, rfl, (Nat.le_refl _), (Nat.le_succ _), by omega, BE.out, NP.out.1, ⟨NF.out.1, NF.out.1.lt (by simp), fun j => by rw [frozen_cells, frozen_cells]; exact ZZ.out j⟩⟩
    case hst5 =>
      intro K hK
      go_simp
      refine hK.out _ _ (Bx.Blk.more hHeld _) (fun hNew => ?_)
      clear hHeld
      have hHeld := hNew
      clear hNew hK K
      have NF := Lib.hid (Bx.Own.new W0 [.int .u64 0, .int .u64 0, .bool false, .int .i64 0, .int .i64 0, .int .i64 0, .string ⟨#[]⟩] 32).draw
      have BE := Lib.hid (Bx.bel_drewn (Bx.bel_box (Bx.bel_refl W0) (Obj.cells #[.int .u64 0, .int .u64 0, .bool false, .int .i64 0, .int .i64 0, .int .i64 0, .string ⟨#[]⟩] 32)))
      have ZZ := Lib.hid (fun j => show (W0.alloc (Obj.cells #[.int .u64 0, .int .u64 0, .bool false, .int .i64 0, .int .i64 0, .int .i64 0, .string ⟨#[]⟩] 32)).drew.frozen? ⟨W0.heap.size, j, none⟩ = false from World.frozen?_alloc_new W0 #[.int .u64 0, .int .u64 0, .bool false, .int .i64 0, .int .i64 0, .int .i64 0, .string ⟨#[]⟩] 32 j)
      refine wpAnyH_ready (rs := [4]) (by kernel_rfl) (by simp) ?_
      refine AllReadyH.cons (o := ?o4b) ?hi4b ?hst4b AllReadyH.nil
      case hi4b => (simp only [List.getElem?_toArray, List.getElem?_cons_succ, List.getElem?_cons_zero]; rfl)
      intro K hK
      go_simp
      refine hK.out _ _ (Bx.Blk.more hHeld _) (fun hNew => ?_)
      clear hHeld
      have hHeld := hNew
      clear hNew hK K
      replace NF := Lib.hid (NF.out.more (Obj.cells #[.int .i64 0, .int .i64 0, .int .i64 0, .int .i64 0, .int .i64 0, .int .i64 0, .int .i64 0, .int .i64 0, .int .i64 0, .int .i64 0, .int .i64 0, .int .i64 0, .int .i64 0, .int .i64 0, .int .i64 0, .int .i64 0, .slice none 0 0] 28))
      have NP := Lib.hid (Bx.Own.new_at (W := (W0.alloc (Obj.cells #[.int .u64 0, .int .u64 0, .bool false, .int .i64 0, .int .i64 0, .int .i64 0, .string ⟨#[]⟩] 32)).drew) (k := W0.heap.size + 1) [.int .i64 0, .int .i64 0, .int .i64 0, .int .i64 0, .int .i64 0, .int .i64 0, .int .i64 0, .int .i64 0, .int .i64 0, .int .i64 0, .int .i64 0, .int .i64 0, .int .i64 0, .int .i64 0, .int .i64 0, .int .i64 0, .slice none 0 0] 28 (by simp [World.drew]))
      replace BE := Lib.hid (Bx.bel_box BE.out (Obj.cells #[.int .i64 0, .int .i64 0, .int .i64 0, .int .i64 0, .int .i64 0, .int .i64 0, .int .i64 0, .int .i64 0, .int .i64 0, .int .i64 0, .int .i64 0, .int .i64 0, .int .i64 0, .int .i64 0, .int .i64 0, .int .i64 0, .slice none 0 0] 28))
      replace ZZ := Lib.hid (fun j => show ((W0.alloc (Obj.cells #[.int .u64 0, .int .u64 0, .bool false, .int .i64 0, .int .i64 0, .int .i64 0, .string ⟨#[]⟩] 32)).drew.alloc (Obj.cells #[.int .i64 0, .int .i64 0, .int .i64 0, .int .i64 0, .int .i64 0, .int .i64 0, .int .i64 0, .int .i64 0, .int .i64 0, .int .i64 0, .int .i64 0, .int .i64 0, .int .i64 0, .int .i64 0, .int .i64 0, .int .i64 0, .slice none 0 0] 28)).frozen? ⟨W0.heap.size, j, none⟩ = false from (frozen_old (W0.alloc (Obj.cells #[.int .u64 0, .int .u64 0, .bool false, .int .i64 0, .int .i64 0, .int .i64 0, .string ⟨#[]⟩] 32)).drew (Obj.cells #[.int .i64 0, .int .i64 0, .int .i64 0, .int .i64 0, .int .i64 0, .int .i64 0, .int .i64 0, .int .i64 0, .int .i64 0, .int .i64 0, .int .i64 0, .int .i64 0, .int .i64 0, .int .i64 0, .int .i64 0, .int .i64 0, .slice none 0 0] 28) (by simp [World.drew]) j).trans (ZZ.out j))
      refine wpAnyH_ready (rs := [6]) (by kernel_rfl) (by simp) ?_
      refine AllReadyH.cons (o := ?o6b) ?hi6b ?hst6b AllReadyH.nil
      case hi6b => (simp only [List.getElem?_toArray, List.getElem?_cons_succ, List.getElem?_cons_zero]; rfl)
      intro K hK
      rw [if_pos (by rfl)]
      refine wp_store_plan _ _ rfl (W0.heap.size + 1) [.int .i64 0, .int .i64 0, .int .i64 0, .int .i64 0, .int .i64 0, .int .i64 0, .int .i64 0, .int .i64 0, .int .i64 0, .int .i64 0, .int .i64 0, .int .i64 0, .int .i64 0, .int .i64 0, .int .i64 0, .int .i64 0, .slice none 0 0] rfl o k AP n c rfl rfl NP.out ?_
      refine hK.out _ _ (Bx.Blk.apart hHeld (by omega)) (fun hNew => ?_)
      clear hHeld
      have hHeld := hNew
      clear hNew hK K
      replace NP := Lib.hid (NP.out.put (m := (Mem.pc o k AP n c)) rfl)
      replace NF := Lib.hid (NF.out.apart (k' := W0.heap.size + 1) (m := (Mem.pc o k AP n c)) (by omega))
      replace BE := Lib.hid (Bx.bel_cells (k := W0.heap.size + 1) (m := (Mem.pc o k AP n c)) BE.out (Nat.le_succ _))
      refine wpAnyH_ready (rs := [7]) (by kernel_rfl) (by simp) ?_
      refine ready_frame (oi := ?o7b) (x := ?x7b) (y := ?y7b) ?hi7b ?hw7b ?ho7b (W0.heap.size) [.int .u64 0, .int .u64 0, .bool false, .int .i64 0, .int .i64 0, .int .i64 0, .string ⟨#[]⟩] rfl d s g p v t X ?hx7b ?hz7b NF.out (Bx.Blk.apart hHeld (by omega)) ?rest7b
      case hi7b => (simp only [List.getElem?_toArray, List.getElem?_cons_succ, List.getElem?_cons_zero]; rfl)
      case hw7b => rfl
      case ho7b => rfl
      case hx7b => rfl
      case hz7b => rfl
      replace hHeld := Bx.Blk.apart (k' := W0.heap.size) (m := (Mem.fc d s g p v t X)) hHeld (by omega)
      replace NF := Lib.hid (NF.out.put (m := (Mem.fc d s g p v t X)) rfl)
      replace NP := Lib.hid (NP.out.apart (k' := W0.heap.size) (m := (Mem.fc d s g p v t X)) (by omega))
      replace BE := Lib.hid (Bx.bel_cells (k := W0.heap.size) (m := (Mem.fc d s g p v t X)) BE.out (Nat.le_refl _))
      refine wpAnyH_done (by kernel_rfl) ?_ _
      refine NoPanic.normal ?_
      go_wp2_with fail
      go_meet
      exact ⟨W0.heap.size + 1, W0.heap.size, rfl, rfl, (Nat.le_succ _), (Nat.le_refl _), by omega, BE.out, NP.out.1, ⟨NF.out.1, NF.out.1.lt (by simp), fun j => by rw [frozen_cells, frozen_cells]; exact ZZ.out j⟩⟩
  case rest =>
    obtain ⟨m7, m8, rfl, rfl, hm7, hm8, n78, hb, P, FF⟩ := hcut
    have n7a : m7 ≠ w.heap.size ∧ m7 ≠ w.heap.size + 1 + 1 ∧ w.heap.size ≤ m7 := by omega
    have n8a : m8 ≠ w.heap.size ∧ m8 ≠ w.heap.size + 1 + 1 ∧ w.heap.size ≤ m8 := by omega
    replace bel := Bx.then_below bel hb
    replace BT := Lib.hid (BT.out.keep hb)
    replace BY := Lib.hid (BY.out.keep hb)
    replace P := Lib.hid P
    replace FF := Lib.hid FF
    clear hb BX hsz hm7 hm8
    have B0 := BT
    have B1 := BY
    have B2 := P
    have B3 := Lib.hid FF.out.1
    clear BT BY P
    obtain ⟨c0_0, c0_1, c0_2⟩ := B0.out.all3
    obtain ⟨c1_0, c1_1, c1_2⟩ := B1.out.all3
    obtain ⟨c3_0, c3_1, c3_2, c3_3, c3_4, c3_5, c3_6⟩ := B3.out.all7
    go_wp2_with (first | ((with_reducible refine Mem.load_at ?_ ?_ (m7) ?_ o k AP n c ?_ ?_); (· rfl); (· rfl); (· rfl); (· exact B2.out)))
    refine (HLG.out _ bel).mono ?_; rintro e w1 ⟨rfl, hb1⟩
    replace bel := Bx.then_below bel hb1
    replace B0 := Lib.hid (B0.out.keep hb1)
    replace B1 := Lib.hid (B1.out.keep hb1)
    replace B2 := Lib.hid (B2.out.keep hb1)
    replace B3 := Lib.hid (B3.out.keep hb1)
    clear hb1
    clear c0_0 c0_1 c0_2 c1_0 c1_1 c1_2 c3_0 c3_1 c3_2 c3_3 c3_4 c3_5 c3_6
    obtain ⟨c0_0, c0_1, c0_2⟩ := B0.out.all3
    obtain ⟨c1_0, c1_1, c1_2⟩ := B1.out.all3
    obtain ⟨c3_0, c3_1, c3_2, c3_3, c3_4, c3_5, c3_6⟩ := B3.out.all7
    go_wp2_with (first | ((with_reducible refine Mem.load_at ?_ ?_ (m7) ?_ o k AP n c ?_ ?_); (· rfl); (· rfl); (· rfl); (· exact B2.out)))
    refine (HSO.out _ bel).mono ?_; rintro e w2 ⟨rfl, hb2⟩
    replace bel := Bx.then_below bel hb2
    replace B0 := Lib.hid (B0.out.keep hb2)
    replace B1 := Lib.hid (B1.out.keep hb2)
    replace B2 := Lib.hid (B2.out.keep hb2)
    replace B3 := Lib.hid (B3.out.keep hb2)
    clear hb2
    clear c0_0 c0_1 c0_2 c1_0 c1_1 c1_2 c3_0 c3_1 c3_2 c3_3 c3_4 c3_5 c3_6
    obtain ⟨c0_0, c0_1, c0_2⟩ := B0.out.all3
    obtain ⟨c1_0, c1_1, c1_2⟩ := B1.out.all3
    obtain ⟨c3_0, c3_1, c3_2, c3_3, c3_4, c3_5, c3_6⟩ := B3.out.all7
    go_wp2_with (first | ((with_reducible refine Mem.load_at ?_ ?_ (m7) ?_ o k AP n c ?_ ?_); (· rfl); (· rfl); (· rfl); (· exact B2.out)))
    refine (HAW.out _ bel).mono ?_; rintro e w3 ⟨rfl, hb3⟩
    replace bel := Bx.then_below bel hb3
    replace B0 := Lib.hid (B0.out.keep hb3)
    replace B1 := Lib.hid (B1.out.keep hb3)
    replace B2 := Lib.hid (B2.out.keep hb3)
    replace B3 := Lib.hid (B3.out.keep hb3)
    clear hb3
    go_wp2_with (first | ((with_reducible refine Mem.load_at ?_ ?_ (m7) ?_ o k AP n c ?_ ?_); (· rfl); (· rfl); (· rfl); (· exact B2.out)))
    go_ret
    exact ⟨rfl, bel⟩

set_option maxRecDepth 100000 in
set_option maxHeartbeats 8000000 in
theorem says_all (most long : Int) (l : List Tab.En) (hl : l.length ≤ maxLen) (A : Option Addr) (ct : Nat) (o k : Nat → Int) (AP : Option Addr) (n c : Nat) (d s : Int) (g : Bool) (p v t : Int) (X : ByteArray) (q ln op : Int) (w : World) (hT : ¬ (60 : Int) < l.length) (hX : ¬ 12000 < X.size) (l2 l3 : List Tab.En) (outs : List Ou) (ho8 : outs.length ≤ 8) (K x : Int) 
    (HLG : Hid (∀ w', Below w.heap.size w w' → Calls Tryd.prog 6 #[Mem.pv o k AP n c] w' fun e w'' => e = .returned (.bool false) ∧ Below w'.heap.size w' w''))
    (HSO : Hid (∀ w', Below w.heap.size w w' → Calls Tryd.prog 7 #[tv most long A l.length ct] w' fun e w'' => e = .returned (.bool true) ∧ Below w'.heap.size w' w''))
    (HFW : Hid (∀ w', Below w.heap.size w w' → Calls Tryd.prog 9 #[tv most long A l.length ct, Mem.pv o k AP n c, fr d s g p v t X, .int .i64 q, .int .i64 ln, .int .i64 op] w' (GivesF A l most long l2 outs w')))
    (HF2 : Hid (∀ w', Below w.heap.size w w' → Calls Tryd.prog 10 #[tv most long A l.length ct, Mem.pv o k AP n c, fr d s g p v t X, .int .i64 q, .int .i64 ln, .int .i64 op] w' (GivesF A l most long l2 outs w')))
    (HSA : Hid (∀ (C D : Option Addr) (a b : Nat) (w' : World), Tab.Ents w' C l2 → Tab.Ents w' D l2 → Calls Tryd.prog 11 #[tv most long C l2.length a, tv most long D l2.length b] w' fun e w'' => e = .returned (.bool true) ∧ Below w'.heap.size w' w''))
    (HKI : Hid (∀ w', Below w.heap.size w w' → Calls Tryd.prog 12 #[fr d s g p v t X] w' fun e w'' => e = .returned (.int .i64 K) ∧ Below w'.heap.size w' w''))
    (HK2 : Hid (∀ w', Below w.heap.size w w' → Calls Tryd.prog 13 #[fr d s g p v t X] w' fun e w'' => e = .returned (.int .i64 K) ∧ Below w'.heap.size w' w''))
    (HLE : Hid (∀ w', Below w.heap.size w w' → Calls Tryd.prog 14 #[tv most long A l.length ct, fr d s g p v t X, .int .i64 v, .int .i64 q, .int .i64 ln] w' (GivesT A l most long l3 w')))
    (HL2 : Hid (∀ w', Below w.heap.size w w' → Calls Tryd.prog 15 #[tv most long A l.length ct, fr d s g p v t X, .int .i64 v, .int .i64 q, .int .i64 ln] w' (GivesT A l most long l3 w')))
    (HS3 : Hid (∀ (C D : Option Addr) (a b : Nat) (w' : World), Tab.Ents w' C l3 → Tab.Ents w' D l3 → Calls Tryd.prog 11 #[tv most long C l3.length a, tv most long D l3.length b] w' fun e w'' => e = .returned (.bool true) ∧ Below w'.heap.size w' w''))
    (HPO : Hid (∀ w', Below w.heap.size w w' → Calls Tryd.prog 16 #[tv most long A l.length ct, Mem.pv o k AP n c, fr d s g p v t X, .int .i64 v, .int .i64 q, .int .i64 op] w' fun e w'' => e = .returned (.int .i64 x) ∧ Below w'.heap.size w' w''))
    (HP2 : Hid (∀ w', Below w.heap.size w w' → Calls Tryd.prog 17 #[tv most long A l.length ct, Mem.pv o k AP n c, fr d s g p v t X, .int .i64 v, .int .i64 q, .int .i64 op] w' fun e w'' => e = .returned (.int .i64 x) ∧ Below w'.heap.size w' w''))
    (HAW : Hid (∀ w', Below w.heap.size w w' → Calls Tryd.prog 8 #[] w' fun e w'' => e = .returned (.bool true) ∧ Below w'.heap.size w' w'')) :
    Calls Tryd.prog 3 #[tv most long A l.length ct, xv o k AP n c d s g p v t X, .agg #[.int .i64 q, .int .i64 ln, .int .i64 op]] w fun e w' => e = .returned (.bool true) ∧ Below w.heap.size w w' := by
  have hl' : l.length ≤ 9223372036854775807 := hl
  go_enter Tryd.func3, Tryd.ntmps3
  go_wp2
  have BX := Lib.hid ((Bx.Blk.new_at (W := w.alloc (Tab.to most long A l.length ct)) (k := w.heap.size + 1) (xc o k AP n c d s g p v t X) 34 (by simp)).more (.cells #[.int .i64 q, .int .i64 ln, .int .i64 op] 36))
  have BT := Lib.hid (((Bx.Blk.new w [.int .i64 most, .int .i64 long, .slice A l.length ct] 24).more (xo o k AP n c d s g p v t X)).more (.cells #[.int .i64 q, .int .i64 ln, .int .i64 op] 36))
  have BY := Lib.hid (Bx.Blk.new_at (W := (w.alloc (Tab.to most long A l.length ct)).alloc (xo o k AP n c d s g p v t X)) (k := w.heap.size + 1 + 1) [.int .i64 q, .int .i64 ln, .int .i64 op] 36 (by simp))
  have bel := Bx.bel_box (Bx.bel_box (Bx.box_below w (Tab.to most long A l.length ct)) (xo o k AP n c d s g p v t X)) (.cells #[.int .i64 q, .int .i64 ln, .int .i64 op] 36)
  have hsz : w.heap.size + 3 = (((w.alloc (Tab.to most long A l.length ct)).alloc (xo o k AP n c d s g p v t X)).alloc (.cells #[.int .i64 q, .int .i64 ln, .int .i64 op] 36)).heap.size := by simp
  generalize hg : ((w.alloc (Tab.to most long A l.length ct)).alloc (xo o k AP n c d s g p v t X)).alloc (.cells #[.int .i64 q, .int .i64 ln, .int .i64 op] 36) = W0 at *
  clear hg
  go_cut [7, 8] (fun s7 s8 wx => ∃ m7 m8 : Nat, s7 = .pointer (some ⟨m7, 0, none⟩) ∧ s8 = .pointer (some ⟨m8, 0, none⟩) ∧ W0.heap.size ≤ m7 ∧ W0.heap.size ≤ m8 ∧ m7 ≠ m8 ∧ Below W0.heap.size W0 wx ∧ Bx.Blk wx m7 (Mem.pc o k AP n c) ∧ Bx.Fre wx m8 (Mem.fc d s g p v t X))
  case first =>
    refine wp_region_noPanic ?_
    refine wp_region_held_drew (S := fun w' => Bx.Blk w' (w.heap.size + 1) (xc o k AP n c d s g p v t X)) (by kernel_rfl) (by exact BX.out) (fun hHeld => ?_)
    refine wpAnyH_take (i := 0) (oi := ?o0) (v := ?v0) ?hi0 (by kernel_rfl) (by kernel_rfl) (by kernel_rfl) (fun _ _ _ h => h) ?y0 (by assumption) ?r0
    case hi0 => (simp only [List.getElem?_toArray, List.getElem?_cons_zero]; rfl)
    case y0 => (refine Or.inl ⟨by rfl, ?_⟩; intro w' hSw; (try dsimp only at hSw); go_simp; (try with_reducible rfl))
    try simp only [Act.put, List.setIfInBounds_toArray, List.set_cons_zero, List.set_cons_succ]
    refine wpAnyH_take (i := 1) (oi := ?o1) (v := Mem.pv o k AP n c) ?hi1 (by kernel_rfl) (by kernel_rfl) (by kernel_rfl) (fun _ _ _ h => h) ?y1 (by assumption) ?r1
    case hi1 => (simp only [List.getElem?_toArray, List.getElem?_cons_succ, List.getElem?_cons_zero]; rfl)
    case y1 => (refine yields_plan rfl _ rfl (w.heap.size + 1) rfl o k AP n c d s g p v t X ?_; intro w' hS; exact hS)
    try simp only [Act.put, List.setIfInBounds_toArray, List.set_cons_zero, List.set_cons_succ]
    refine wpAnyH_take (i := 2) (oi := ?o2) (v := ?v2) ?hi2 (by kernel_rfl) (by kernel_rfl) (by kernel_rfl) (fun _ _ _ h => h) ?y2 (by assumption) ?r2
    case hi2 => (simp only [List.getElem?_toArray, List.getElem?_cons_succ, List.getElem?_cons_zero]; rfl)
    case y2 => (refine Or.inl ⟨by rfl, ?_⟩; intro w' hSw; (try dsimp only at hSw); go_simp; (try with_reducible rfl))
    try simp only [Act.put, List.setIfInBounds_toArray, List.set_cons_zero, List.set_cons_succ]
    refine wpAnyH_take (i := 3) (oi := ?o3) (v := fr d s g p v t X) ?hi3 (by kernel_rfl) (by kernel_rfl) (by kernel_rfl) (fun _ _ _ h => h) ?y3 (by assumption) ?r3
    case hi3 => (simp only [List.getElem?_toArray, List.getElem?_cons_succ, List.getElem?_cons_zero]; rfl)
    case y3 => (refine yields_frame rfl _ rfl (w.heap.size + 1) rfl o k AP n c d s g p v t X ?_; intro w' hS; exact hS)
    try simp only [Act.put, List.setIfInBounds_toArray, List.set_cons_zero, List.set_cons_succ]
    refine wpAnyH_ready (rs := [4, 5]) (by kernel_rfl) (by simp) ?_
    refine AllReadyH.cons (o := ?o4) ?hi4 ?hst4 (AllReadyH.cons (o := ?o5) ?hi5 ?hst5 AllReadyH.nil)
    case hi4 => (simp only [List.getElem?_toArray, List.getElem?_cons_succ, List.getElem?_cons_zero]; rfl)
    case hi5 => (simp only [List.getElem?_toArray, List.getElem?_cons_succ, List.getElem?_cons_zero]; rfl)
    case hst4 =>
      intro K hK
      go_simp
      refine hK.out _ _ (Bx.Blk.more hHeld _) (fun hNew => ?_)
      clear hHeld
      have hHeld := hNew
      clear hNew hK K
      have NP := Lib.hid (Bx.Own.new W0 [.int .i64 0, .int .i64 0, .int .i64 0, .int .i64 0, .int .i64 0, .int .i64 0, .int .i64 0, .int .i64 0, .int .i64 0, .int .i64 0, .int .i64 0, .int .i64 0, .int .i64 0, .int .i64 0, .int .i64 0, .int .i64 0, .slice none 0 0] 28).draw
      have BE := Lib.hid (Bx.bel_drewn (Bx.bel_box (Bx.bel_refl W0) (Obj.cells #[.int .i64 0, .int .i64 0, .int .i64 0, .int .i64 0, .int .i64 0, .int .i64 0, .int .i64 0, .int .i64 0, .int .i64 0, .int .i64 0, .int .i64 0, .int .i64 0, .int .i64 0, .int .i64 0, .int .i64 0, .int .i64 0, .slice none 0 0] 28)))
      refine wpAnyH_ready (rs := [5]) (by kernel_rfl) (by simp) ?_
      refine AllReadyH.cons (o := ?o5a) ?hi5a ?hst5a AllReadyH.nil
      case hi5a => (simp only [List.getElem?_toArray, List.getElem?_cons_succ, List.getElem?_cons_zero]; rfl)
      intro K hK
      go_simp
      refine hK.out _ _ (Bx.Blk.more hHeld _) (fun hNew => ?_)
      clear hHeld
      have hHeld := hNew
      clear hNew hK K
      replace NP := Lib.hid (NP.out.more (Obj.cells #[.int .u64 0, .int .u64 0, .bool false, .int .i64 0, .int .i64 0, .int .i64 0, .string ⟨#[]⟩] 32))
      have NF := Lib.hid (Bx.Own.new_at (W := (W0.alloc (Obj.cells #[.int .i64 0, .int .i64 0, .int .i64 0, .int .i64 0, .int .i64 0, .int .i64 0, .int .i64 0, .int .i64 0, .int .i64 0, .int .i64 0, .int .i64 0, .int .i64 0, .int .i64 0, .int .i64 0, .int .i64 0, .int .i64 0, .slice none 0 0] 28)).drew) (k := W0.heap.size + 1) [.int .u64 0, .int .u64 0, .bool false, .int .i64 0, .int .i64 0, .int .i64 0, .string ⟨#[]⟩] 32 (by simp [World.drew]))
      replace BE := Lib.hid (Bx.bel_box BE.out (Obj.cells #[.int .u64 0, .int .u64 0, .bool false, .int .i64 0, .int .i64 0, .int .i64 0, .string ⟨#[]⟩] 32))
      have ZZ := Lib.hid (fun j => show ((W0.alloc (Obj.cells #[.int .i64 0, .int .i64 0, .int .i64 0, .int .i64 0, .int .i64 0, .int .i64 0, .int .i64 0, .int .i64 0, .int .i64 0, .int .i64 0, .int .i64 0, .int .i64 0, .int .i64 0, .int .i64 0, .int .i64 0, .int .i64 0, .slice none 0 0] 28)).drew.alloc (Obj.cells #[.int .u64 0, .int .u64 0, .bool false, .int .i64 0, .int .i64 0, .int .i64 0, .string ⟨#[]⟩] 32)).frozen? ⟨W0.heap.size + 1, j, none⟩ = false from frozen_at (W0.alloc (Obj.cells #[.int .i64 0, .int .i64 0, .int .i64 0, .int .i64 0, .int .i64 0, .int .i64 0, .int .i64 0, .int .i64 0, .int .i64 0, .int .i64 0, .int .i64 0, .int .i64 0, .int .i64 0, .int .i64 0, .int .i64 0, .int .i64 0, .slice none 0 0] 28)).drew #[.int .u64 0, .int .u64 0, .bool false, .int .i64 0, .int .i64 0, .int .i64 0, .string ⟨#[]⟩] 32 (by simp [World.drew]) j)
      refine wpAnyH_ready (rs := [6]) (by kernel_rfl) (by simp) ?_
      refine AllReadyH.cons (o := ?o6a) ?hi6a ?hst6a AllReadyH.nil
      case hi6a => (simp only [List.getElem?_toArray, List.getElem?_cons_succ, List.getElem?_cons_zero]; rfl)
      intro K hK
      rw [if_pos (by rfl)]
      refine wp_store_plan _ _ rfl (W0.heap.size) [.int .i64 0, .int .i64 0, .int .i64 0, .int .i64 0, .int .i64 0, .int .i64 0, .int .i64 0, .int .i64 0, .int .i64 0, .int .i64 0, .int .i64 0, .int .i64 0, .int .i64 0, .int .i64 0, .int .i64 0, .int .i64 0, .slice none 0 0] rfl o k AP n c rfl rfl NP.out ?_
      refine hK.out _ _ (Bx.Blk.apart hHeld (by omega)) (fun hNew => ?_)
      clear hHeld
      have hHeld := hNew
      clear hNew hK K
      replace NP := Lib.hid (NP.out.put (m := (Mem.pc o k AP n c)) rfl)
      replace NF := Lib.hid (NF.out.apart (k' := W0.heap.size) (m := (Mem.pc o k AP n c)) (by omega))
      replace BE := Lib.hid (Bx.bel_cells (k := W0.heap.size) (m := (Mem.pc o k AP n c)) BE.out (Nat.le_refl _))
      refine wpAnyH_ready (rs := [7]) (by kernel_rfl) (by simp) ?_
      refine ready_frame (oi := ?o7a) (x := ?x7a) (y := ?y7a) ?hi7a ?hw7a ?ho7a (W0.heap.size + 1) [.int .u64 0, .int .u64 0, .bool false, .int .i64 0, .int .i64 0, .int .i64 0, .string ⟨#[]⟩] rfl d s g p v t X ?hx7a ?hz7a NF.out (Bx.Blk.apart hHeld (by omega)) ?rest7a
      case hi7a => (simp only [List.getElem?_toArray, List.getElem?_cons_succ, List.getElem?_cons_zero]; rfl)
      case hw7a => rfl
      case ho7a => rfl
      case hx7a => rfl
      case hz7a => rfl
      replace hHeld := Bx.Blk.apart (k' := W0.heap.size + 1) (m := (Mem.fc d s g p v t X)) hHeld (by omega)
      replace NF := Lib.hid (NF.out.put (m := (Mem.fc d s g p v t X)) rfl)
      replace NP := Lib.hid (NP.out.apart (k' := W0.heap.size + 1) (m := (Mem.fc d s g p v t X)) (by omega))
      replace BE := Lib.hid (Bx.bel_cells (k := W0.heap.size + 1) (m := (Mem.fc d s g p v t X)) BE.out (Nat.le_succ _))
      refine wpAnyH_done (by kernel_rfl) ?_ _
      refine NoPanic.normal ?_
      go_wp2_with fail
      go_meet
      exact ⟨W0.heap.size, W0.heap.size + 1, rfl, rfl, (Nat.le_refl _), (Nat.le_succ _), by omega, BE.out, NP.out.1, ⟨NF.out.1, NF.out.1.lt (by simp), fun j => by rw [frozen_cells, frozen_cells]; exact ZZ.out j⟩⟩
    case hst5 =>
      intro K hK
      go_simp
      refine hK.out _ _ (Bx.Blk.more hHeld _) (fun hNew => ?_)
      clear hHeld
      have hHeld := hNew
      clear hNew hK K
      have NF := Lib.hid (Bx.Own.new W0 [.int .u64 0, .int .u64 0, .bool false, .int .i64 0, .int .i64 0, .int .i64 0, .string ⟨#[]⟩] 32).draw
      have BE := Lib.hid (Bx.bel_drewn (Bx.bel_box (Bx.bel_refl W0) (Obj.cells #[.int .u64 0, .int .u64 0, .bool false, .int .i64 0, .int .i64 0, .int .i64 0, .string ⟨#[]⟩] 32)))
      have ZZ := Lib.hid (fun j => show (W0.alloc (Obj.cells #[.int .u64 0, .int .u64 0, .bool false, .int .i64 0, .int .i64 0, .int .i64 0, .string ⟨#[]⟩] 32)).drew.frozen? ⟨W0.heap.size, j, none⟩ = false from World.frozen?_alloc_new W0 #[.int .u64 0, .int .u64 0, .bool false, .int .i64 0, .int .i64 0, .int .i64 0, .string ⟨#[]⟩] 32 j)
      refine wpAnyH_ready (rs := [4]) (by kernel_rfl) (by simp) ?_
      refine AllReadyH.cons (o := ?o4b) ?hi4b ?hst4b AllReadyH.nil
      case hi4b => (simp only [List.getElem?_toArray, List.getElem?_cons_succ, List.getElem?_cons_zero]; rfl)
      intro K hK
      go_simp
      refine hK.out _ _ (Bx.Blk.more hHeld _) (fun hNew => ?_)
      clear hHeld
      have hHeld := hNew
      clear hNew hK K
      replace NF := Lib.hid (NF.out.more (Obj.cells #[.int .i64 0, .int .i64 0, .int .i64 0, .int .i64 0, .int .i64 0, .int .i64 0, .int .i64 0, .int .i64 0, .int .i64 0, .int .i64 0, .int .i64 0, .int .i64 0, .int .i64 0, .int .i64 0, .int .i64 0, .int .i64 0, .slice none 0 0] 28))
      have NP := Lib.hid (Bx.Own.new_at (W := (W0.alloc (Obj.cells #[.int .u64 0, .int .u64 0, .bool false, .int .i64 0, .int .i64 0, .int .i64 0, .string ⟨#[]⟩] 32)).drew) (k := W0.heap.size + 1) [.int .i64 0, .int .i64 0, .int .i64 0, .int .i64 0, .int .i64 0, .int .i64 0, .int .i64 0, .int .i64 0, .int .i64 0, .int .i64 0, .int .i64 0, .int .i64 0, .int .i64 0, .int .i64 0, .int .i64 0, .int .i64 0, .slice none 0 0] 28 (by simp [World.drew]))
      replace BE := Lib.hid (Bx.bel_box BE.out (Obj.cells #[.int .i64 0, .int .i64 0, .int .i64 0, .int .i64 0, .int .i64 0, .int .i64 0, .int .i64 0, .int .i64 0, .int .i64 0, .int .i64 0, .int .i64 0, .int .i64 0, .int .i64 0, .int .i64 0, .int .i64 0, .int .i64 0, .slice none 0 0] 28))
      replace ZZ := Lib.hid (fun j => show ((W0.alloc (Obj.cells #[.int .u64 0, .int .u64 0, .bool false, .int .i64 0, .int .i64 0, .int .i64 0, .string ⟨#[]⟩] 32)).drew.alloc (Obj.cells #[.int .i64 0, .int .i64 0, .int .i64 0, .int .i64 0, .int .i64 0, .int .i64 0, .int .i64 0, .int .i64 0, .int .i64 0, .int .i64 0, .int .i64 0, .int .i64 0, .int .i64 0, .int .i64 0, .int .i64 0, .int .i64 0, .slice none 0 0] 28)).frozen? ⟨W0.heap.size, j, none⟩ = false from (frozen_old (W0.alloc (Obj.cells #[.int .u64 0, .int .u64 0, .bool false, .int .i64 0, .int .i64 0, .int .i64 0, .string ⟨#[]⟩] 32)).drew (Obj.cells #[.int .i64 0, .int .i64 0, .int .i64 0, .int .i64 0, .int .i64 0, .int .i64 0, .int .i64 0, .int .i64 0, .int .i64 0, .int .i64 0, .int .i64 0, .int .i64 0, .int .i64 0, .int .i64 0, .int .i64 0, .int .i64 0, .slice none 0 0] 28) (by simp [World.drew]) j).trans (ZZ.out j))
      refine wpAnyH_ready (rs := [6]) (by kernel_rfl) (by simp) ?_
      refine AllReadyH.cons (o := ?o6b) ?hi6b ?hst6b AllReadyH.nil
      case hi6b => (simp only [List.getElem?_toArray, List.getElem?_cons_succ, List.getElem?_cons_zero]; rfl)
      intro K hK
      rw [if_pos (by rfl)]
      refine wp_store_plan _ _ rfl (W0.heap.size + 1) [.int .i64 0, .int .i64 0, .int .i64 0, .int .i64 0, .int .i64 0, .int .i64 0, .int .i64 0, .int .i64 0, .int .i64 0, .int .i64 0, .int .i64 0, .int .i64 0, .int .i64 0, .int .i64 0, .int .i64 0, .int .i64 0, .slice none 0 0] rfl o k AP n c rfl rfl NP.out ?_
      refine hK.out _ _ (Bx.Blk.apart hHeld (by omega)) (fun hNew => ?_)
      clear hHeld
      have hHeld := hNew
      clear hNew hK K
      replace NP := Lib.hid (NP.out.put (m := (Mem.pc o k AP n c)) rfl)
      replace NF := Lib.hid (NF.out.apart (k' := W0.heap.size + 1) (m := (Mem.pc o k AP n c)) (by omega))
      replace BE := Lib.hid (Bx.bel_cells (k := W0.heap.size + 1) (m := (Mem.pc o k AP n c)) BE.out (Nat.le_succ _))
      refine wpAnyH_ready (rs := [7]) (by kernel_rfl) (by simp) ?_
      refine ready_frame (oi := ?o7b) (x := ?x7b) (y := ?y7b) ?hi7b ?hw7b ?ho7b (W0.heap.size) [.int .u64 0, .int .u64 0, .bool false, .int .i64 0, .int .i64 0, .int .i64 0, .string ⟨#[]⟩] rfl d s g p v t X ?hx7b ?hz7b NF.out (Bx.Blk.apart hHeld (by omega)) ?rest7b
      case hi7b => (simp only [List.getElem?_toArray, List.getElem?_cons_succ, List.getElem?_cons_zero]; rfl)
      case hw7b => rfl
      case ho7b => rfl
      case hx7b => rfl
      case hz7b => rfl
      replace hHeld := Bx.Blk.apart (k' := W0.heap.size) (m := (Mem.fc d s g p v t X)) hHeld (by omega)
      replace NF := Lib.hid (NF.out.put (m := (Mem.fc d s g p v t X)) rfl)
      replace NP := Lib.hid (NP.out.apart (k' := W0.heap.size) (m := (Mem.fc d s g p v t X)) (by omega))
      replace BE := Lib.hid (Bx.bel_cells (k := W0.heap.size) (m := (Mem.fc d s g p v t X)) BE.out (Nat.le_refl _))
      refine wpAnyH_done (by kernel_rfl) ?_ _
      refine NoPanic.normal ?_
      go_wp2_with fail
      go_meet
      exact ⟨W0.heap.size + 1, W0.heap.size, rfl, rfl, (Nat.le_succ _), (Nat.le_refl _), by omega, BE.out, NP.out.1, ⟨NF.out.1, NF.out.1.lt (by simp), fun j => by rw [frozen_cells, frozen_cells]; exact ZZ.out j⟩⟩
  case rest =>
    obtain ⟨m7, m8, rfl, rfl, hm7, hm8, n78, hb, P, FF⟩ := hcut
    have n7a : m7 ≠ w.heap.size ∧ m7 ≠ w.heap.size + 1 + 1 ∧ w.heap.size ≤ m7 := by omega
    have n8a : m8 ≠ w.heap.size ∧ m8 ≠ w.heap.size + 1 + 1 ∧ w.heap.size ≤ m8 := by omega
    replace bel := Bx.then_below bel hb
    replace BT := Lib.hid (BT.out.keep hb)
    replace BY := Lib.hid (BY.out.keep hb)
    replace P := Lib.hid P
    replace FF := Lib.hid FF
    clear hb BX hsz hm7 hm8
    have B0 := BT
    have B1 := BY
    have B2 := P
    have B3 := Lib.hid FF.out.1
    clear BT BY P
    have hne := fun x w => neq_out x w
    have hgd := fun op a b x w => guard_out op a b x w
    have hne := Lib.hid hne
    have hgd := Lib.hid hgd
    have eK : (K == K) = true := by simp
    have eX : (x == x) = true := by simp
    have eO : ((outs.length : Int) == (outs.length : Int)) = true := by simp
    have eO2 : ((outs.length : Int) != (outs.length : Int)) = false := by simp
    obtain ⟨c0_0, c0_1, c0_2⟩ := B0.out.all3
    obtain ⟨c1_0, c1_1, c1_2⟩ := B1.out.all3
    obtain ⟨c3_0, c3_1, c3_2, c3_3, c3_4, c3_5, c3_6⟩ := B3.out.all7
    go_wp2_with (first | ((with_reducible refine Mem.load_at ?_ ?_ (m7) ?_ o k AP n c ?_ ?_); (· rfl); (· rfl); (· rfl); (· exact B2.out)))
    refine (HLG.out _ bel).mono ?_; rintro e w1 ⟨rfl, hb1⟩
    replace bel := Bx.then_below bel hb1
    replace B0 := Lib.hid (B0.out.keep hb1)
    replace B1 := Lib.hid (B1.out.keep hb1)
    replace B2 := Lib.hid (B2.out.keep hb1)
    replace B3 := Lib.hid (B3.out.keep hb1)
    clear hb1
    clear c0_0 c0_1 c0_2 c1_0 c1_1 c1_2 c3_0 c3_1 c3_2 c3_3 c3_4 c3_5 c3_6
    obtain ⟨c0_0, c0_1, c0_2⟩ := B0.out.all3
    obtain ⟨c1_0, c1_1, c1_2⟩ := B1.out.all3
    obtain ⟨c3_0, c3_1, c3_2, c3_3, c3_4, c3_5, c3_6⟩ := B3.out.all7
    go_wp2_with (first | ((with_reducible refine Mem.load_at ?_ ?_ (m7) ?_ o k AP n c ?_ ?_); (· rfl); (· rfl); (· rfl); (· exact B2.out)))
    refine (HSO.out _ bel).mono ?_; rintro e w2 ⟨rfl, hb2⟩
    replace bel := Bx.then_below bel hb2
    replace B0 := Lib.hid (B0.out.keep hb2)
    replace B1 := Lib.hid (B1.out.keep hb2)
    replace B2 := Lib.hid (B2.out.keep hb2)
    replace B3 := Lib.hid (B3.out.keep hb2)
    clear hb2
    clear c0_0 c0_1 c0_2 c1_0 c1_1 c1_2 c3_0 c3_1 c3_2 c3_3 c3_4 c3_5 c3_6
    obtain ⟨c0_0, c0_1, c0_2⟩ := B0.out.all3
    obtain ⟨c1_0, c1_1, c1_2⟩ := B1.out.all3
    obtain ⟨c3_0, c3_1, c3_2, c3_3, c3_4, c3_5, c3_6⟩ := B3.out.all7
    go_wp2_with (first | ((with_reducible refine Mem.load_at ?_ ?_ (m7) ?_ o k AP n c ?_ ?_); (· rfl); (· rfl); (· rfl); (· exact B2.out)))
    refine (HFW.out _ bel).mono ?_; rintro e w3 ⟨C9, k9, A9, d9, rfl, -, -, hE9, hO9, hb⟩
    have hk := Bx.box_below w3 (Obj.cells #[.int .i64 most, .int .i64 long, .slice C9 l2.length k9] 24)
    replace hb := Bx.bel_box hb (Obj.cells #[.int .i64 most, .int .i64 long, .slice C9 l2.length k9] 24)
    replace bel := Bx.then_below bel hb
    replace B0 := Lib.hid (B0.out.keep hb)
    replace B1 := Lib.hid (B1.out.keep hb)
    replace B2 := Lib.hid (B2.out.keep hb)
    replace B3 := Lib.hid (B3.out.keep hb)
    have E9 := Lib.hid (hE9.below hk)
    clear hE9
    have O9 := Lib.hid (hO9.below hk)
    clear hO9
    have B4 := Lib.hid (Bx.Blk.new w3 [.int .i64 most, .int .i64 long, .slice C9 l2.length k9] 24)
    clear hk
    clear hb
    clear c0_0 c0_1 c0_2 c1_0 c1_1 c1_2 c3_0 c3_1 c3_2 c3_3 c3_4 c3_5 c3_6
    obtain ⟨c0_0, c0_1, c0_2⟩ := B0.out.all3
    obtain ⟨c1_0, c1_1, c1_2⟩ := B1.out.all3
    obtain ⟨c3_0, c3_1, c3_2, c3_3, c3_4, c3_5, c3_6⟩ := B3.out.all7
    obtain ⟨c4_0, c4_1, c4_2⟩ := B4.out.all3
    go_wp2_with (first | ((with_reducible refine Mem.load_at ?_ ?_ (m7) ?_ o k AP n c ?_ ?_); (· rfl); (· rfl); (· rfl); (· exact B2.out)))
    refine (HF2.out _ bel).mono ?_; rintro e w4 ⟨C11, k11, A11, d11, rfl, -, -, hE11, hO11, hb⟩
    have hk := Bx.box_below w4 (Obj.cells #[.int .i64 most, .int .i64 long, .slice C11 l2.length k11] 24)
    replace hb := Bx.bel_box hb (Obj.cells #[.int .i64 most, .int .i64 long, .slice C11 l2.length k11] 24)
    replace bel := Bx.then_below bel hb
    replace B0 := Lib.hid (B0.out.keep hb)
    replace B1 := Lib.hid (B1.out.keep hb)
    replace B2 := Lib.hid (B2.out.keep hb)
    replace B3 := Lib.hid (B3.out.keep hb)
    replace B4 := Lib.hid (B4.out.keep hb)
    replace E9 := Lib.hid (E9.out.below hb)
    replace O9 := Lib.hid (O9.out.below hb)
    have E11 := Lib.hid (hE11.below hk)
    clear hE11
    have O11 := Lib.hid (hO11.below hk)
    clear hO11
    have B5 := Lib.hid (Bx.Blk.new w4 [.int .i64 most, .int .i64 long, .slice C11 l2.length k11] 24)
    clear hk
    clear hb
    clear c0_0 c0_1 c0_2 c1_0 c1_1 c1_2 c3_0 c3_1 c3_2 c3_3 c3_4 c3_5 c3_6 c4_0 c4_1 c4_2
    obtain ⟨c0_0, c0_1, c0_2⟩ := B0.out.all3
    obtain ⟨c1_0, c1_1, c1_2⟩ := B1.out.all3
    obtain ⟨c3_0, c3_1, c3_2, c3_3, c3_4, c3_5, c3_6⟩ := B3.out.all7
    obtain ⟨c4_0, c4_1, c4_2⟩ := B4.out.all3
    obtain ⟨c5_0, c5_1, c5_2⟩ := B5.out.all3
    go_wp2_with (first | ((with_reducible refine Mem.load_at ?_ ?_ (m7) ?_ o k AP n c ?_ ?_); (· rfl); (· rfl); (· rfl); (· exact B2.out)))
    refine (HSA.out _ _ _ _ _ E9.out E11.out).mono ?_; rintro e w5 ⟨rfl, hb⟩
    replace bel := Bx.then_below bel hb
    replace B0 := Lib.hid (B0.out.keep hb)
    replace B1 := Lib.hid (B1.out.keep hb)
    replace B2 := Lib.hid (B2.out.keep hb)
    replace B3 := Lib.hid (B3.out.keep hb)
    replace B4 := Lib.hid (B4.out.keep hb)
    replace B5 := Lib.hid (B5.out.keep hb)
    replace O9 := Lib.hid (O9.out.below hb)
    replace O11 := Lib.hid (O11.out.below hb)
    clear hb
    clear E9 E11 B4 B5 c0_0 c0_1 c0_2 c1_0 c1_1 c1_2 c3_0 c3_1 c3_2 c3_3 c3_4 c3_5 c3_6 c4_0 c4_1 c4_2 c5_0 c5_1 c5_2
    go_wp2_with fail
    go_loopw [13, 77] (fun _ ix wr => ∃ j : Nat, j ≤ outs.length ∧ ix = .int .i64 j ∧ Aside (Below w5.heap.size w5 wr)) (fun _ ix _ => outs.length - (RowKit.intOf ix).toNat)
    case atStart => exact ⟨0, Nat.zero_le _, rfl, Below.refl _ _⟩
    case round =>
      obtain ⟨j, hj, rfl, HB⟩ := hrel
      by_cases hlt : j < outs.length
      · obtain ⟨b1, o1, rfl, _, a0, a1, a2, a3, a4, a5, a6, a7⟩ := (O9.out.below HB.out).at hlt
        obtain ⟨b2, o2, rfl, _, c0, c1, c2, c3, c4, c5, c6, c7⟩ := (O11.out.below HB.out).at hlt
        have hne' := fun w => hne.out outs[j] w
        have hgd' := fun op a b w => hgd.out op a b outs[j] w
        generalize outs[j] = y at *
        obtain ⟨y0, y1, y2, y3, y4, y5, y6, y7⟩ := y
        simp only at a0 a1 a2 a3 a4 a5 a6 a7 c0 c1 c2 c3 c4 c5 c6 c7 hne' hgd'
        go_wp2
        go_quiet (fail)
        have B2' := Lib.hid (Bx.then_below HB.out (drew_below wr nq))
        go_wp2
        go_roundw
        case rel => exact ⟨j + 1, by omega, by go_num, B2'.out⟩
        case measure => simp [RowKit.intOf]; omega
      · obtain rfl : j = outs.length := by omega
        have hb := HB.out
        replace bel := Bx.then_below bel hb
        replace B0 := Lib.hid (B0.out.keep hb)
        replace B1 := Lib.hid (B1.out.keep hb)
        replace B2 := Lib.hid (B2.out.keep hb)
        replace B3 := Lib.hid (B3.out.keep hb)
        clear hb HB O9 O11
        obtain ⟨c0_0, c0_1, c0_2⟩ := B0.out.all3
        obtain ⟨c1_0, c1_1, c1_2⟩ := B1.out.all3
        obtain ⟨c3_0, c3_1, c3_2, c3_3, c3_4, c3_5, c3_6⟩ := B3.out.all7
        go_wp2_with fail
        refine wp_region_noPanic ?_
        refine wp_region_held_drew (S := fun w' => Bx.Blk w' m7 (Mem.pc o k AP n c) ∧ w'.cell? ⟨w.heap.size, 0, none⟩ = some (.int .i64 most) ∧ w'.cell? ⟨w.heap.size, 1, none⟩ = some (.int .i64 long) ∧ w'.cell? ⟨w.heap.size, 2, none⟩ = some (.slice A l.length ct) ∧ w'.cell? ⟨w.heap.size + 1 + 1, 0, none⟩ = some (.int .i64 q) ∧ w'.cell? ⟨w.heap.size + 1 + 1, 1, none⟩ = some (.int .i64 ln) ∧ w'.cell? ⟨w.heap.size + 1 + 1, 2, none⟩ = some (.int .i64 op) ∧ w'.cell? ⟨m8, 0, none⟩ = some (.int .u64 d) ∧ w'.cell? ⟨m8, 1, none⟩ = some (.int .u64 s) ∧ w'.cell? ⟨m8, 2, none⟩ = some (.bool g) ∧ w'.cell? ⟨m8, 3, none⟩ = some (.int .i64 p) ∧ w'.cell? ⟨m8, 4, none⟩ = some (.int .i64 v) ∧ w'.cell? ⟨m8, 5, none⟩ = some (.int .i64 t) ∧ w'.cell? ⟨m8, 6, none⟩ = some (.string X)) (by kernel_rfl) (by exact ⟨B2.out, c0_0, c0_1, c0_2, c1_0, c1_1, c1_2, c3_0, c3_1, c3_2, c3_3, c3_4, c3_5, c3_6⟩) (fun hHeld => ?_)
        replace bel := Bx.bel_drewn bel
        refine wpAnyH_take (i := 0) (oi := ?o0r) (v := ?v0r) ?hi0r (by kernel_rfl) (by kernel_rfl) (by kernel_rfl) (fun _ _ _ h => h) ?y0r (by assumption) ?r0r
        case hi0r => (simp only [List.getElem?_toArray, List.getElem?_cons_zero]; rfl)
        case y0r => (refine Or.inl ⟨by rfl, ?_⟩; intro w' hSw; (try dsimp only at hSw); go_simp; (try with_reducible rfl))
        try simp only [Act.put, List.setIfInBounds_toArray, List.set_cons_zero, List.set_cons_succ]
        refine wpAnyH_take (i := 2) (oi := ?o2r) (v := ?v2r) ?hi2r (by kernel_rfl) (by kernel_rfl) (by kernel_rfl) (fun _ _ _ h => h) ?y2r (by assumption) ?r2r
        case hi2r => (simp only [List.getElem?_toArray, List.getElem?_cons_succ, List.getElem?_cons_zero]; rfl)
        case y2r => (refine Or.inl ⟨by rfl, ?_⟩; intro w' hSw; (try dsimp only at hSw); go_simp; (try with_reducible rfl))
        try simp only [Act.put, List.setIfInBounds_toArray, List.set_cons_zero, List.set_cons_succ]
        refine wpAnyH_ready (rs := [1]) (by kernel_rfl) (by simp) ?_
        refine AllReadyH.cons (o := ?o1r) ?hi1r ?hst1r AllReadyH.nil
        case hi1r => (simp only [List.getElem?_toArray, List.getElem?_cons_succ, List.getElem?_cons_zero]; rfl)
        intro K hK
        go_simp
        (go_at_call 12; (with_reducible refine (HKI.out _ bel).mono ?_); rintro e w6 ⟨rfl, hb6⟩)
        go_wp2_with fail
        refine hK.out _ _ (⟨Bx.Blk.keep hHeld.1 hb6, Bx.keep_cell hb6 hHeld.2.1, Bx.keep_cell hb6 hHeld.2.2.1, Bx.keep_cell hb6 hHeld.2.2.2.1, Bx.keep_cell hb6 hHeld.2.2.2.2.1, Bx.keep_cell hb6 hHeld.2.2.2.2.2.1, Bx.keep_cell hb6 hHeld.2.2.2.2.2.2.1, Bx.keep_cell hb6 hHeld.2.2.2.2.2.2.2.1, Bx.keep_cell hb6 hHeld.2.2.2.2.2.2.2.2.1, Bx.keep_cell hb6 hHeld.2.2.2.2.2.2.2.2.2.1, Bx.keep_cell hb6 hHeld.2.2.2.2.2.2.2.2.2.2.1, Bx.keep_cell hb6 hHeld.2.2.2.2.2.2.2.2.2.2.2.1, Bx.keep_cell hb6 hHeld.2.2.2.2.2.2.2.2.2.2.2.2.1, Bx.keep_cell hb6 hHeld.2.2.2.2.2.2.2.2.2.2.2.2.2⟩) (fun hNew => ?_)
        clear hHeld
        have hHeld := hNew
        clear hNew hK K
        replace bel := Bx.then_below bel hb6
        clear hb6
        refine wpAnyH_ready (rs := [3]) (by kernel_rfl) (by simp) ?_
        refine AllReadyH.cons (o := ?o3r) ?hi3r ?hst3r AllReadyH.nil
        case hi3r => (simp only [List.getElem?_toArray, List.getElem?_cons_succ, List.getElem?_cons_zero]; rfl)
        intro K hK
        go_simp
        (go_at_call 13; (with_reducible refine (HK2.out _ bel).mono ?_); rintro e w7 ⟨rfl, hb7⟩)
        go_wp2_with fail
        refine hK.out _ _ (⟨Bx.Blk.keep hHeld.1 hb7, Bx.keep_cell hb7 hHeld.2.1, Bx.keep_cell hb7 hHeld.2.2.1, Bx.keep_cell hb7 hHeld.2.2.2.1, Bx.keep_cell hb7 hHeld.2.2.2.2.1, Bx.keep_cell hb7 hHeld.2.2.2.2.2.1, Bx.keep_cell hb7 hHeld.2.2.2.2.2.2.1, Bx.keep_cell hb7 hHeld.2.2.2.2.2.2.2.1, Bx.keep_cell hb7 hHeld.2.2.2.2.2.2.2.2.1, Bx.keep_cell hb7 hHeld.2.2.2.2.2.2.2.2.2.1, Bx.keep_cell hb7 hHeld.2.2.2.2.2.2.2.2.2.2.1, Bx.keep_cell hb7 hHeld.2.2.2.2.2.2.2.2.2.2.2.1, Bx.keep_cell hb7 hHeld.2.2.2.2.2.2.2.2.2.2.2.2.1, Bx.keep_cell hb7 hHeld.2.2.2.2.2.2.2.2.2.2.2.2.2⟩) (fun hNew => ?_)
        clear hHeld
        have hHeld := hNew
        clear hNew hK K
        replace bel := Bx.then_below bel hb7
        clear hb7
        refine wpAnyH_take (i := 4) (oi := ?o4r) (v := ?v4r) ?hi4r (by kernel_rfl) (by kernel_rfl) (by kernel_rfl) (fun _ _ _ h => h) ?y4r (by assumption) ?r4r
        case hi4r => (simp only [List.getElem?_toArray, List.getElem?_cons_succ, List.getElem?_cons_zero]; rfl)
        case y4r => (refine Or.inl ⟨by rfl, ?_⟩; intro w' hSw; (try dsimp only at hSw); go_simp; (try with_reducible rfl))
        try simp only [Act.put, List.setIfInBounds_toArray, List.set_cons_zero, List.set_cons_succ]
        refine wpAnyH_take (i := 5) (oi := ?o5r) (v := ?v5r) ?hi5r (by kernel_rfl) (by kernel_rfl) (by kernel_rfl) (fun _ _ _ h => h) ?y5r (by assumption) ?r5r
        case hi5r => (simp only [List.getElem?_toArray, List.getElem?_cons_succ, List.getElem?_cons_zero]; rfl)
        case y5r => (refine Or.inl ⟨by rfl, ?_⟩; intro w' hSw; (try dsimp only at hSw); go_simp; (try with_reducible rfl))
        try simp only [Act.put, List.setIfInBounds_toArray, List.set_cons_zero, List.set_cons_succ]
        refine wpAnyH_take (i := 6) (oi := ?o6r) (v := ?v6r) ?hi6r (by kernel_rfl) (by kernel_rfl) (by kernel_rfl) (fun _ _ _ h => h) ?y6r (by assumption) ?r6r
        case hi6r => (simp only [List.getElem?_toArray, List.getElem?_cons_succ, List.getElem?_cons_zero]; rfl)
        case y6r => (refine Or.inl ⟨by rfl, ?_⟩; intro w' hSw; (try dsimp only at hSw); go_simp; (try with_reducible rfl))
        try simp only [Act.put, List.setIfInBounds_toArray, List.set_cons_zero, List.set_cons_succ]
        refine wpAnyH_take (i := 7) (oi := ?o7r) (v := ?v7r) ?hi7r (by kernel_rfl) (by kernel_rfl) (by kernel_rfl) (fun _ _ _ h => h) ?y7r (by assumption) ?r7r
        case hi7r => (simp only [List.getElem?_toArray, List.getElem?_cons_succ, List.getElem?_cons_zero]; rfl)
        case y7r => (refine Or.inl ⟨by rfl, ?_⟩; intro w' hSw; (try dsimp only at hSw); go_simp; (try with_reducible rfl))
        try simp only [Act.put, List.setIfInBounds_toArray, List.set_cons_zero, List.set_cons_succ]
        refine wpAnyH_take (i := 8) (oi := ?o8r) (v := ?v8r) ?hi8r (by kernel_rfl) (by kernel_rfl) (by kernel_rfl) (fun _ _ _ h => h) ?y8r (by assumption) ?r8r
        case hi8r => (simp only [List.getElem?_toArray, List.getElem?_cons_succ, List.getElem?_cons_zero]; rfl)
        case y8r => (refine Or.inl ⟨by rfl, ?_⟩; intro w' hSw; (try dsimp only at hSw); go_simp; (try with_reducible rfl))
        try simp only [Act.put, List.setIfInBounds_toArray, List.set_cons_zero, List.set_cons_succ]
        refine wpAnyH_take (i := 9) (oi := ?o9r) (v := ?v9r) ?hi9r (by kernel_rfl) (by kernel_rfl) (by kernel_rfl) (fun _ _ _ h => h) ?y9r (by assumption) ?r9r
        case hi9r => (simp only [List.getElem?_toArray, List.getElem?_cons_succ, List.getElem?_cons_zero]; rfl)
        case y9r => (refine Or.inl ⟨by rfl, ?_⟩; intro w' hSw; (try dsimp only at hSw); go_simp; (try with_reducible rfl))
        try simp only [Act.put, List.setIfInBounds_toArray, List.set_cons_zero, List.set_cons_succ]
        refine wpAnyH_take (i := 10) (oi := ?o10r) (v := ?v10r) ?hi10r (by kernel_rfl) (by kernel_rfl) (by kernel_rfl) (fun _ _ _ h => h) ?y10r (by assumption) ?r10r
        case hi10r => (simp only [List.getElem?_toArray, List.getElem?_cons_succ, List.getElem?_cons_zero]; rfl)
        case y10r => (refine Or.inl ⟨by rfl, ?_⟩; intro w' hSw; (try dsimp only at hSw); go_simp; (try with_reducible rfl))
        try simp only [Act.put, List.setIfInBounds_toArray, List.set_cons_zero, List.set_cons_succ]
        refine wpAnyH_take (i := 11) (oi := ?o11r) (v := ?v11r) ?hi11r (by kernel_rfl) (by kernel_rfl) (by kernel_rfl) (fun _ _ _ h => h) ?y11r (by assumption) ?r11r
        case hi11r => (simp only [List.getElem?_toArray, List.getElem?_cons_succ, List.getElem?_cons_zero]; rfl)
        case y11r => (refine Or.inl ⟨by rfl, ?_⟩; intro w' hSw; (try dsimp only at hSw); go_simp; (try with_reducible rfl))
        try simp only [Act.put, List.setIfInBounds_toArray, List.set_cons_zero, List.set_cons_succ]
        refine wpAnyH_take (i := 12) (oi := ?o12r) (v := ?v12r) ?hi12r (by kernel_rfl) (by kernel_rfl) (by kernel_rfl) (fun _ _ _ h => h) ?y12r (by assumption) ?r12r
        case hi12r => (simp only [List.getElem?_toArray, List.getElem?_cons_succ, List.getElem?_cons_zero]; rfl)
        case y12r => (refine Or.inl ⟨by rfl, ?_⟩; intro w' hSw; (try dsimp only at hSw); go_simp; (try with_reducible rfl))
        try simp only [Act.put, List.setIfInBounds_toArray, List.set_cons_zero, List.set_cons_succ]
        refine wpAnyH_take (i := 13) (oi := ?o13r) (v := ?v13r) ?hi13r (by kernel_rfl) (by kernel_rfl) (by kernel_rfl) (fun _ _ _ h => h) ?y13r (by assumption) ?r13r
        case hi13r => (simp only [List.getElem?_toArray, List.getElem?_cons_succ, List.getElem?_cons_zero]; rfl)
        case y13r => (refine Or.inl ⟨by rfl, ?_⟩; intro w' hSw; (try dsimp only at hSw); go_simp; (try with_reducible rfl))
        try simp only [Act.put, List.setIfInBounds_toArray, List.set_cons_zero, List.set_cons_succ]
        refine wpAnyH_take (i := 15) (oi := ?o15r) (v := ?v15r) ?hi15r (by kernel_rfl) (by kernel_rfl) (by kernel_rfl) (fun _ _ _ h => h) ?y15r (by assumption) ?r15r
        case hi15r => (simp only [List.getElem?_toArray, List.getElem?_cons_succ, List.getElem?_cons_zero]; rfl)
        case y15r => (refine Or.inl ⟨by rfl, ?_⟩; intro w' hSw; (try dsimp only at hSw); go_simp; (try with_reducible rfl))
        try simp only [Act.put, List.setIfInBounds_toArray, List.set_cons_zero, List.set_cons_succ]
        refine wpAnyH_take (i := 16) (oi := ?o16r) (v := ?v16r) ?hi16r (by kernel_rfl) (by kernel_rfl) (by kernel_rfl) (fun _ _ _ h => h) ?y16r (by assumption) ?r16r
        case hi16r => (simp only [List.getElem?_toArray, List.getElem?_cons_succ, List.getElem?_cons_zero]; rfl)
        case y16r => (refine Or.inl ⟨by rfl, ?_⟩; intro w' hSw; (try dsimp only at hSw); go_simp; (try with_reducible rfl))
        try simp only [Act.put, List.setIfInBounds_toArray, List.set_cons_zero, List.set_cons_succ]
        refine wpAnyH_take (i := 17) (oi := ?o17r) (v := ?v17r) ?hi17r (by kernel_rfl) (by kernel_rfl) (by kernel_rfl) (fun _ _ _ h => h) ?y17r (by assumption) ?r17r
        case hi17r => (simp only [List.getElem?_toArray, List.getElem?_cons_succ, List.getElem?_cons_zero]; rfl)
        case y17r => (refine Or.inl ⟨by rfl, ?_⟩; intro w' hSw; (try dsimp only at hSw); go_simp; (try with_reducible rfl))
        try simp only [Act.put, List.setIfInBounds_toArray, List.set_cons_zero, List.set_cons_succ]
        refine wpAnyH_take (i := 18) (oi := ?o18r) (v := ?v18r) ?hi18r (by kernel_rfl) (by kernel_rfl) (by kernel_rfl) (fun _ _ _ h => h) ?y18r (by assumption) ?r18r
        case hi18r => (simp only [List.getElem?_toArray, List.getElem?_cons_succ, List.getElem?_cons_zero]; rfl)
        case y18r => (refine Or.inl ⟨by rfl, ?_⟩; intro w' hSw; (try dsimp only at hSw); go_simp; (try with_reducible rfl))
        try simp only [Act.put, List.setIfInBounds_toArray, List.set_cons_zero, List.set_cons_succ]
        refine wpAnyH_take (i := 19) (oi := ?o19r) (v := ?v19r) ?hi19r (by kernel_rfl) (by kernel_rfl) (by kernel_rfl) (fun _ _ _ h => h) ?y19r (by assumption) ?r19r
        case hi19r => (simp only [List.getElem?_toArray, List.getElem?_cons_succ, List.getElem?_cons_zero]; rfl)
        case y19r => (refine Or.inl ⟨by rfl, ?_⟩; intro w' hSw; (try dsimp only at hSw); go_simp; (try with_reducible rfl))
        try simp only [Act.put, List.setIfInBounds_toArray, List.set_cons_zero, List.set_cons_succ]
        refine wpAnyH_take (i := 20) (oi := ?o20r) (v := ?v20r) ?hi20r (by kernel_rfl) (by kernel_rfl) (by kernel_rfl) (fun _ _ _ h => h) ?y20r (by assumption) ?r20r
        case hi20r => (simp only [List.getElem?_toArray, List.getElem?_cons_succ, List.getElem?_cons_zero]; rfl)
        case y20r => (refine Or.inl ⟨by rfl, ?_⟩; intro w' hSw; (try dsimp only at hSw); go_simp; (try with_reducible rfl))
        try simp only [Act.put, List.setIfInBounds_toArray, List.set_cons_zero, List.set_cons_succ]
        refine wpAnyH_take (i := 21) (oi := ?o21r) (v := ?v21r) ?hi21r (by kernel_rfl) (by kernel_rfl) (by kernel_rfl) (fun _ _ _ h => h) ?y21r (by assumption) ?r21r
        case hi21r => (simp only [List.getElem?_toArray, List.getElem?_cons_succ, List.getElem?_cons_zero]; rfl)
        case y21r => (refine Or.inl ⟨by rfl, ?_⟩; intro w' hSw; (try dsimp only at hSw); go_simp; (try with_reducible rfl))
        try simp only [Act.put, List.setIfInBounds_toArray, List.set_cons_zero, List.set_cons_succ]
        refine wpAnyH_take (i := 22) (oi := ?o22r) (v := ?v22r) ?hi22r (by kernel_rfl) (by kernel_rfl) (by kernel_rfl) (fun _ _ _ h => h) ?y22r (by assumption) ?r22r
        case hi22r => (simp only [List.getElem?_toArray, List.getElem?_cons_succ, List.getElem?_cons_zero]; rfl)
        case y22r => (refine Or.inl ⟨by rfl, ?_⟩; intro w' hSw; (try dsimp only at hSw); go_simp; (try with_reducible rfl))
        try simp only [Act.put, List.setIfInBounds_toArray, List.set_cons_zero, List.set_cons_succ]
        refine wpAnyH_ready (rs := [14]) (by kernel_rfl) (by simp) ?_
        refine AllReadyH.cons (o := ?o14r) ?hi14r ?hst14r AllReadyH.nil
        case hi14r => (simp only [List.getElem?_toArray, List.getElem?_cons_succ, List.getElem?_cons_zero]; rfl)
        intro K hK
        go_simp
        (go_at_call 14; (with_reducible refine (HLE.out _ bel).mono ?_); rintro e w8 ⟨Ca, ka, rfl, -, hEa, hb8⟩)
        go_wp2_with fail
        refine hK.out _ _ (⟨Bx.Blk.keep hHeld.1 hb8, Bx.keep_cell hb8 hHeld.2.1, Bx.keep_cell hb8 hHeld.2.2.1, Bx.keep_cell hb8 hHeld.2.2.2.1, Bx.keep_cell hb8 hHeld.2.2.2.2.1, Bx.keep_cell hb8 hHeld.2.2.2.2.2.1, Bx.keep_cell hb8 hHeld.2.2.2.2.2.2.1, Bx.keep_cell hb8 hHeld.2.2.2.2.2.2.2.1, Bx.keep_cell hb8 hHeld.2.2.2.2.2.2.2.2.1, Bx.keep_cell hb8 hHeld.2.2.2.2.2.2.2.2.2.1, Bx.keep_cell hb8 hHeld.2.2.2.2.2.2.2.2.2.2.1, Bx.keep_cell hb8 hHeld.2.2.2.2.2.2.2.2.2.2.2.1, Bx.keep_cell hb8 hHeld.2.2.2.2.2.2.2.2.2.2.2.2.1, Bx.keep_cell hb8 hHeld.2.2.2.2.2.2.2.2.2.2.2.2.2⟩) (fun hNew => ?_)
        clear hHeld
        have hHeld := hNew
        clear hNew hK K
        replace bel := Bx.then_below bel hb8
        have Ea := Lib.hid hEa
        clear hEa
        clear hb8
        refine wpAnyH_ready (rs := [23]) (by kernel_rfl) (by simp) ?_
        refine AllReadyH.cons (o := ?o23r) ?hi23r ?hst23r AllReadyH.nil
        case hi23r => (simp only [List.getElem?_toArray, List.getElem?_cons_succ, List.getElem?_cons_zero]; rfl)
        intro K hK
        go_simp
        (go_at_call 15; (with_reducible refine (HL2.out _ bel).mono ?_); rintro e w9 ⟨Cb, kb, rfl, -, hEb, hb9⟩)
        go_wp2_with fail
        refine hK.out _ _ (⟨Bx.Blk.keep hHeld.1 hb9, Bx.keep_cell hb9 hHeld.2.1, Bx.keep_cell hb9 hHeld.2.2.1, Bx.keep_cell hb9 hHeld.2.2.2.1, Bx.keep_cell hb9 hHeld.2.2.2.2.1, Bx.keep_cell hb9 hHeld.2.2.2.2.2.1, Bx.keep_cell hb9 hHeld.2.2.2.2.2.2.1, Bx.keep_cell hb9 hHeld.2.2.2.2.2.2.2.1, Bx.keep_cell hb9 hHeld.2.2.2.2.2.2.2.2.1, Bx.keep_cell hb9 hHeld.2.2.2.2.2.2.2.2.2.1, Bx.keep_cell hb9 hHeld.2.2.2.2.2.2.2.2.2.2.1, Bx.keep_cell hb9 hHeld.2.2.2.2.2.2.2.2.2.2.2.1, Bx.keep_cell hb9 hHeld.2.2.2.2.2.2.2.2.2.2.2.2.1, Bx.keep_cell hb9 hHeld.2.2.2.2.2.2.2.2.2.2.2.2.2⟩) (fun hNew => ?_)
        clear hHeld
        have hHeld := hNew
        clear hNew hK K
        replace bel := Bx.then_below bel hb9
        replace Ea := Lib.hid (Ea.out.below hb9)
        have Eb := Lib.hid hEb
        clear hEb
        clear hb9
        refine wpAnyH_ready (rs := [24]) (by kernel_rfl) (by simp) ?_
        refine AllReadyH.cons (o := ?o24r) ?hi24r ?hst24r AllReadyH.nil
        case hi24r => (simp only [List.getElem?_toArray, List.getElem?_cons_succ, List.getElem?_cons_zero]; rfl)
        intro K hK
        go_simp
        (go_at_call 11; (with_reducible refine (HS3.out _ _ _ _ _ Ea.out Eb.out).mono ?_); rintro e w10 ⟨rfl, hb10⟩)
        go_wp2_with fail
        refine hK.out _ _ (⟨Bx.Blk.keep hHeld.1 hb10, Bx.keep_cell hb10 hHeld.2.1, Bx.keep_cell hb10 hHeld.2.2.1, Bx.keep_cell hb10 hHeld.2.2.2.1, Bx.keep_cell hb10 hHeld.2.2.2.2.1, Bx.keep_cell hb10 hHeld.2.2.2.2.2.1, Bx.keep_cell hb10 hHeld.2.2.2.2.2.2.1, Bx.keep_cell hb10 hHeld.2.2.2.2.2.2.2.1, Bx.keep_cell hb10 hHeld.2.2.2.2.2.2.2.2.1, Bx.keep_cell hb10 hHeld.2.2.2.2.2.2.2.2.2.1, Bx.keep_cell hb10 hHeld.2.2.2.2.2.2.2.2.2.2.1, Bx.keep_cell hb10 hHeld.2.2.2.2.2.2.2.2.2.2.2.1, Bx.keep_cell hb10 hHeld.2.2.2.2.2.2.2.2.2.2.2.2.1, Bx.keep_cell hb10 hHeld.2.2.2.2.2.2.2.2.2.2.2.2.2⟩) (fun hNew => ?_)
        clear hHeld
        have hHeld := hNew
        clear hNew hK K
        replace bel := Bx.then_below bel hb10
        clear Ea Eb
        clear hb10
        refine wpAnyH_take (i := 25) (oi := ?o25r) (v := ?v25r) ?hi25r (by kernel_rfl) (by kernel_rfl) (by kernel_rfl) (fun _ _ _ h => h) ?y25r (by assumption) ?r25r
        case hi25r => (simp only [List.getElem?_toArray, List.getElem?_cons_succ, List.getElem?_cons_zero]; rfl)
        case y25r => (refine Or.inl ⟨by rfl, ?_⟩; intro w' hSw; (try dsimp only at hSw); go_simp; (try with_reducible rfl))
        try simp only [Act.put, List.setIfInBounds_toArray, List.set_cons_zero, List.set_cons_succ]
        refine wpAnyH_take (i := 26) (oi := ?o26r) (v := ?v26r) ?hi26r (by kernel_rfl) (by kernel_rfl) (by kernel_rfl) (fun _ _ _ h => h) ?y26r (by assumption) ?r26r
        case hi26r => (simp only [List.getElem?_toArray, List.getElem?_cons_succ, List.getElem?_cons_zero]; rfl)
        case y26r => (refine Or.inl ⟨by rfl, ?_⟩; intro w' hSw; (try dsimp only at hSw); go_simp; (try with_reducible rfl))
        try simp only [Act.put, List.setIfInBounds_toArray, List.set_cons_zero, List.set_cons_succ]
        refine wpAnyH_take (i := 27) (oi := ?o27r) (v := ?v27r) ?hi27r (by kernel_rfl) (by kernel_rfl) (by kernel_rfl) (fun _ _ _ h => h) ?y27r (by assumption) ?r27r
        case hi27r => (simp only [List.getElem?_toArray, List.getElem?_cons_succ, List.getElem?_cons_zero]; rfl)
        case y27r => (refine Or.inl ⟨by rfl, ?_⟩; intro w' hSw; (try dsimp only at hSw); go_simp; (try with_reducible rfl))
        try simp only [Act.put, List.setIfInBounds_toArray, List.set_cons_zero, List.set_cons_succ]
        refine wpAnyH_take (i := 28) (oi := ?o28r) (v := Mem.pv o k AP n c) ?hi28r (by kernel_rfl) (by kernel_rfl) (by kernel_rfl) (fun _ _ _ h => h) ?y28r (by assumption) ?r28r
        case hi28r => (simp only [List.getElem?_toArray, List.getElem?_cons_succ, List.getElem?_cons_zero]; rfl)
        case y28r => (refine Mem.yields_pl rfl _ rfl (m7) rfl o k AP n c ?_; intro w' hS; exact hS.1)
        try simp only [Act.put, List.setIfInBounds_toArray, List.set_cons_zero, List.set_cons_succ]
        refine wpAnyH_take (i := 29) (oi := ?o29r) (v := ?v29r) ?hi29r (by kernel_rfl) (by kernel_rfl) (by kernel_rfl) (fun _ _ _ h => h) ?y29r (by assumption) ?r29r
        case hi29r => (simp only [List.getElem?_toArray, List.getElem?_cons_succ, List.getElem?_cons_zero]; rfl)
        case y29r => (refine Or.inl ⟨by rfl, ?_⟩; intro w' hSw; (try dsimp only at hSw); go_simp; (try with_reducible rfl))
        try simp only [Act.put, List.setIfInBounds_toArray, List.set_cons_zero, List.set_cons_succ]
        refine wpAnyH_take (i := 30) (oi := ?o30r) (v := ?v30r) ?hi30r (by kernel_rfl) (by kernel_rfl) (by kernel_rfl) (fun _ _ _ h => h) ?y30r (by assumption) ?r30r
        case hi30r => (simp only [List.getElem?_toArray, List.getElem?_cons_succ, List.getElem?_cons_zero]; rfl)
        case y30r => (refine Or.inl ⟨by rfl, ?_⟩; intro w' hSw; (try dsimp only at hSw); go_simp; (try with_reducible rfl))
        try simp only [Act.put, List.setIfInBounds_toArray, List.set_cons_zero, List.set_cons_succ]
        refine wpAnyH_take (i := 31) (oi := ?o31r) (v := ?v31r) ?hi31r (by kernel_rfl) (by kernel_rfl) (by kernel_rfl) (fun _ _ _ h => h) ?y31r (by assumption) ?r31r
        case hi31r => (simp only [List.getElem?_toArray, List.getElem?_cons_succ, List.getElem?_cons_zero]; rfl)
        case y31r => (refine Or.inl ⟨by rfl, ?_⟩; intro w' hSw; (try dsimp only at hSw); go_simp; (try with_reducible rfl))
        try simp only [Act.put, List.setIfInBounds_toArray, List.set_cons_zero, List.set_cons_succ]
        refine wpAnyH_take (i := 32) (oi := ?o32r) (v := ?v32r) ?hi32r (by kernel_rfl) (by kernel_rfl) (by kernel_rfl) (fun _ _ _ h => h) ?y32r (by assumption) ?r32r
        case hi32r => (simp only [List.getElem?_toArray, List.getElem?_cons_succ, List.getElem?_cons_zero]; rfl)
        case y32r => (refine Or.inl ⟨by rfl, ?_⟩; intro w' hSw; (try dsimp only at hSw); go_simp; (try with_reducible rfl))
        try simp only [Act.put, List.setIfInBounds_toArray, List.set_cons_zero, List.set_cons_succ]
        refine wpAnyH_take (i := 33) (oi := ?o33r) (v := ?v33r) ?hi33r (by kernel_rfl) (by kernel_rfl) (by kernel_rfl) (fun _ _ _ h => h) ?y33r (by assumption) ?r33r
        case hi33r => (simp only [List.getElem?_toArray, List.getElem?_cons_succ, List.getElem?_cons_zero]; rfl)
        case y33r => (refine Or.inl ⟨by rfl, ?_⟩; intro w' hSw; (try dsimp only at hSw); go_simp; (try with_reducible rfl))
        try simp only [Act.put, List.setIfInBounds_toArray, List.set_cons_zero, List.set_cons_succ]
        refine wpAnyH_take (i := 34) (oi := ?o34r) (v := ?v34r) ?hi34r (by kernel_rfl) (by kernel_rfl) (by kernel_rfl) (fun _ _ _ h => h) ?y34r (by assumption) ?r34r
        case hi34r => (simp only [List.getElem?_toArray, List.getElem?_cons_succ, List.getElem?_cons_zero]; rfl)
        case y34r => (refine Or.inl ⟨by rfl, ?_⟩; intro w' hSw; (try dsimp only at hSw); go_simp; (try with_reducible rfl))
        try simp only [Act.put, List.setIfInBounds_toArray, List.set_cons_zero, List.set_cons_succ]
        refine wpAnyH_take (i := 35) (oi := ?o35r) (v := ?v35r) ?hi35r (by kernel_rfl) (by kernel_rfl) (by kernel_rfl) (fun _ _ _ h => h) ?y35r (by assumption) ?r35r
        case hi35r => (simp only [List.getElem?_toArray, List.getElem?_cons_succ, List.getElem?_cons_zero]; rfl)
        case y35r => (refine Or.inl ⟨by rfl, ?_⟩; intro w' hSw; (try dsimp only at hSw); go_simp; (try with_reducible rfl))
        try simp only [Act.put, List.setIfInBounds_toArray, List.set_cons_zero, List.set_cons_succ]
        refine wpAnyH_take (i := 37) (oi := ?o37r) (v := ?v37r) ?hi37r (by kernel_rfl) (by kernel_rfl) (by kernel_rfl) (fun _ _ _ h => h) ?y37r (by assumption) ?r37r
        case hi37r => (simp only [List.getElem?_toArray, List.getElem?_cons_succ, List.getElem?_cons_zero]; rfl)
        case y37r => (refine Or.inl ⟨by rfl, ?_⟩; intro w' hSw; (try dsimp only at hSw); go_simp; (try with_reducible rfl))
        try simp only [Act.put, List.setIfInBounds_toArray, List.set_cons_zero, List.set_cons_succ]
        refine wpAnyH_take (i := 38) (oi := ?o38r) (v := Mem.pv o k AP n c) ?hi38r (by kernel_rfl) (by kernel_rfl) (by kernel_rfl) (fun _ _ _ h => h) ?y38r (by assumption) ?r38r
        case hi38r => (simp only [List.getElem?_toArray, List.getElem?_cons_succ, List.getElem?_cons_zero]; rfl)
        case y38r => (refine Mem.yields_pl rfl _ rfl (m7) rfl o k AP n c ?_; intro w' hS; exact hS.1)
        try simp only [Act.put, List.setIfInBounds_toArray, List.set_cons_zero, List.set_cons_succ]
        refine wpAnyH_take (i := 39) (oi := ?o39r) (v := ?v39r) ?hi39r (by kernel_rfl) (by kernel_rfl) (by kernel_rfl) (fun _ _ _ h => h) ?y39r (by assumption) ?r39r
        case hi39r => (simp only [List.getElem?_toArray, List.getElem?_cons_succ, List.getElem?_cons_zero]; rfl)
        case y39r => (refine Or.inl ⟨by rfl, ?_⟩; intro w' hSw; (try dsimp only at hSw); go_simp; (try with_reducible rfl))
        try simp only [Act.put, List.setIfInBounds_toArray, List.set_cons_zero, List.set_cons_succ]
        refine wpAnyH_take (i := 40) (oi := ?o40r) (v := ?v40r) ?hi40r (by kernel_rfl) (by kernel_rfl) (by kernel_rfl) (fun _ _ _ h => h) ?y40r (by assumption) ?r40r
        case hi40r => (simp only [List.getElem?_toArray, List.getElem?_cons_succ, List.getElem?_cons_zero]; rfl)
        case y40r => (refine Or.inl ⟨by rfl, ?_⟩; intro w' hSw; (try dsimp only at hSw); go_simp; (try with_reducible rfl))
        try simp only [Act.put, List.setIfInBounds_toArray, List.set_cons_zero, List.set_cons_succ]
        refine wpAnyH_take (i := 41) (oi := ?o41r) (v := ?v41r) ?hi41r (by kernel_rfl) (by kernel_rfl) (by kernel_rfl) (fun _ _ _ h => h) ?y41r (by assumption) ?r41r
        case hi41r => (simp only [List.getElem?_toArray, List.getElem?_cons_succ, List.getElem?_cons_zero]; rfl)
        case y41r => (refine Or.inl ⟨by rfl, ?_⟩; intro w' hSw; (try dsimp only at hSw); go_simp; (try with_reducible rfl))
        try simp only [Act.put, List.setIfInBounds_toArray, List.set_cons_zero, List.set_cons_succ]
        refine wpAnyH_take (i := 42) (oi := ?o42r) (v := ?v42r) ?hi42r (by kernel_rfl) (by kernel_rfl) (by kernel_rfl) (fun _ _ _ h => h) ?y42r (by assumption) ?r42r
        case hi42r => (simp only [List.getElem?_toArray, List.getElem?_cons_succ, List.getElem?_cons_zero]; rfl)
        case y42r => (refine Or.inl ⟨by rfl, ?_⟩; intro w' hSw; (try dsimp only at hSw); go_simp; (try with_reducible rfl))
        try simp only [Act.put, List.setIfInBounds_toArray, List.set_cons_zero, List.set_cons_succ]
        refine wpAnyH_take (i := 43) (oi := ?o43r) (v := ?v43r) ?hi43r (by kernel_rfl) (by kernel_rfl) (by kernel_rfl) (fun _ _ _ h => h) ?y43r (by assumption) ?r43r
        case hi43r => (simp only [List.getElem?_toArray, List.getElem?_cons_succ, List.getElem?_cons_zero]; rfl)
        case y43r => (refine Or.inl ⟨by rfl, ?_⟩; intro w' hSw; (try dsimp only at hSw); go_simp; (try with_reducible rfl))
        try simp only [Act.put, List.setIfInBounds_toArray, List.set_cons_zero, List.set_cons_succ]
        refine wpAnyH_take (i := 44) (oi := ?o44r) (v := ?v44r) ?hi44r (by kernel_rfl) (by kernel_rfl) (by kernel_rfl) (fun _ _ _ h => h) ?y44r (by assumption) ?r44r
        case hi44r => (simp only [List.getElem?_toArray, List.getElem?_cons_succ, List.getElem?_cons_zero]; rfl)
        case y44r => (refine Or.inl ⟨by rfl, ?_⟩; intro w' hSw; (try dsimp only at hSw); go_simp; (try with_reducible rfl))
        try simp only [Act.put, List.setIfInBounds_toArray, List.set_cons_zero, List.set_cons_succ]
        refine wpAnyH_take (i := 45) (oi := ?o45r) (v := ?v45r) ?hi45r (by kernel_rfl) (by kernel_rfl) (by kernel_rfl) (fun _ _ _ h => h) ?y45r (by assumption) ?r45r
        case hi45r => (simp only [List.getElem?_toArray, List.getElem?_cons_succ, List.getElem?_cons_zero]; rfl)
        case y45r => (refine Or.inl ⟨by rfl, ?_⟩; intro w' hSw; (try dsimp only at hSw); go_simp; (try with_reducible rfl))
        try simp only [Act.put, List.setIfInBounds_toArray, List.set_cons_zero, List.set_cons_succ]
        refine wpAnyH_ready (rs := [36]) (by kernel_rfl) (by simp) ?_
        refine AllReadyH.cons (o := ?o36r) ?hi36r ?hst36r AllReadyH.nil
        case hi36r => (simp only [List.getElem?_toArray, List.getElem?_cons_succ, List.getElem?_cons_zero]; rfl)
        intro K hK
        go_simp
        (go_at_call 16; (with_reducible refine (HPO.out _ bel).mono ?_); rintro e w11 ⟨rfl, hb11⟩)
        go_wp2_with fail
        refine hK.out _ _ (⟨Bx.Blk.keep hHeld.1 hb11, Bx.keep_cell hb11 hHeld.2.1, Bx.keep_cell hb11 hHeld.2.2.1, Bx.keep_cell hb11 hHeld.2.2.2.1, Bx.keep_cell hb11 hHeld.2.2.2.2.1, Bx.keep_cell hb11 hHeld.2.2.2.2.2.1, Bx.keep_cell hb11 hHeld.2.2.2.2.2.2.1, Bx.keep_cell hb11 hHeld.2.2.2.2.2.2.2.1, Bx.keep_cell hb11 hHeld.2.2.2.2.2.2.2.2.1, Bx.keep_cell hb11 hHeld.2.2.2.2.2.2.2.2.2.1, Bx.keep_cell hb11 hHeld.2.2.2.2.2.2.2.2.2.2.1, Bx.keep_cell hb11 hHeld.2.2.2.2.2.2.2.2.2.2.2.1, Bx.keep_cell hb11 hHeld.2.2.2.2.2.2.2.2.2.2.2.2.1, Bx.keep_cell hb11 hHeld.2.2.2.2.2.2.2.2.2.2.2.2.2⟩) (fun hNew => ?_)
        clear hHeld
        have hHeld := hNew
        clear hNew hK K
        replace bel := Bx.then_below bel hb11
        clear hb11
        refine wpAnyH_ready (rs := [46]) (by kernel_rfl) (by simp) ?_
        refine AllReadyH.cons (o := ?o46r) ?hi46r ?hst46r AllReadyH.nil
        case hi46r => (simp only [List.getElem?_toArray, List.getElem?_cons_succ, List.getElem?_cons_zero]; rfl)
        intro K hK
        go_simp
        (go_at_call 17; (with_reducible refine (HP2.out _ bel).mono ?_); rintro e w12 ⟨rfl, hb12⟩)
        go_wp2_with fail
        refine hK.out _ _ (⟨Bx.Blk.keep hHeld.1 hb12, Bx.keep_cell hb12 hHeld.2.1, Bx.keep_cell hb12 hHeld.2.2.1, Bx.keep_cell hb12 hHeld.2.2.2.1, Bx.keep_cell hb12 hHeld.2.2.2.2.1, Bx.keep_cell hb12 hHeld.2.2.2.2.2.1, Bx.keep_cell hb12 hHeld.2.2.2.2.2.2.1, Bx.keep_cell hb12 hHeld.2.2.2.2.2.2.2.1, Bx.keep_cell hb12 hHeld.2.2.2.2.2.2.2.2.1, Bx.keep_cell hb12 hHeld.2.2.2.2.2.2.2.2.2.1, Bx.keep_cell hb12 hHeld.2.2.2.2.2.2.2.2.2.2.1, Bx.keep_cell hb12 hHeld.2.2.2.2.2.2.2.2.2.2.2.1, Bx.keep_cell hb12 hHeld.2.2.2.2.2.2.2.2.2.2.2.2.1, Bx.keep_cell hb12 hHeld.2.2.2.2.2.2.2.2.2.2.2.2.2⟩) (fun hNew => ?_)
        clear hHeld
        have hHeld := hNew
        clear hNew hK K
        replace bel := Bx.then_below bel hb12
        clear hb12
        refine wpAnyH_take (i := 47) (oi := ?o47r) (v := ?v47r) ?hi47r (by kernel_rfl) (by kernel_rfl) (by kernel_rfl) (fun _ _ _ h => h) ?y47r (by assumption) ?r47r
        case hi47r => (simp only [List.getElem?_toArray, List.getElem?_cons_succ, List.getElem?_cons_zero]; rfl)
        case y47r => (refine Or.inl ⟨by rfl, ?_⟩; intro w' hSw; (try dsimp only at hSw); go_simp; (try with_reducible rfl))
        try simp only [Act.put, List.setIfInBounds_toArray, List.set_cons_zero, List.set_cons_succ]
        refine wpAnyH_take (i := 48) (oi := ?o48r) (v := ?v48r) ?hi48r (by kernel_rfl) (by kernel_rfl) (by kernel_rfl) (fun _ _ _ h => h) ?y48r (by assumption) ?r48r
        case hi48r => (simp only [List.getElem?_toArray, List.getElem?_cons_succ, List.getElem?_cons_zero]; rfl)
        case y48r => (refine Or.inl ⟨by rfl, ?_⟩; intro w' hSw; (try dsimp only at hSw); go_simp; (try with_reducible rfl))
        try simp only [Act.put, List.setIfInBounds_toArray, List.set_cons_zero, List.set_cons_succ]
        refine wpAnyH_take (i := 49) (oi := ?o49r) (v := ?v49r) ?hi49r (by kernel_rfl) (by kernel_rfl) (by kernel_rfl) (fun _ _ _ h => h) ?y49r (by assumption) ?r49r
        case hi49r => (simp only [List.getElem?_toArray, List.getElem?_cons_succ, List.getElem?_cons_zero]; rfl)
        case y49r => (refine Or.inl ⟨by rfl, ?_⟩; intro w' hSw; (try dsimp only at hSw); go_simp; (try with_reducible rfl))
        try simp only [Act.put, List.setIfInBounds_toArray, List.set_cons_zero, List.set_cons_succ]
        refine wpAnyH_ready (rs := [50]) (by kernel_rfl) (by simp) ?_
        refine AllReadyH.cons (o := ?o50r) ?hi50r ?hst50r AllReadyH.nil
        case hi50r => (simp only [List.getElem?_toArray, List.getElem?_cons_succ, List.getElem?_cons_zero]; rfl)
        intro K hK
        go_simp
        (go_at_call 8; (with_reducible refine (HAW.out _ bel).mono ?_); rintro e w13 ⟨rfl, hb13⟩)
        go_wp2_with fail
        refine hK.out _ _ (⟨Bx.Blk.keep hHeld.1 hb13, Bx.keep_cell hb13 hHeld.2.1, Bx.keep_cell hb13 hHeld.2.2.1, Bx.keep_cell hb13 hHeld.2.2.2.1, Bx.keep_cell hb13 hHeld.2.2.2.2.1, Bx.keep_cell hb13 hHeld.2.2.2.2.2.1, Bx.keep_cell hb13 hHeld.2.2.2.2.2.2.1, Bx.keep_cell hb13 hHeld.2.2.2.2.2.2.2.1, Bx.keep_cell hb13 hHeld.2.2.2.2.2.2.2.2.1, Bx.keep_cell hb13 hHeld.2.2.2.2.2.2.2.2.2.1, Bx.keep_cell hb13 hHeld.2.2.2.2.2.2.2.2.2.2.1, Bx.keep_cell hb13 hHeld.2.2.2.2.2.2.2.2.2.2.2.1, Bx.keep_cell hb13 hHeld.2.2.2.2.2.2.2.2.2.2.2.2.1, Bx.keep_cell hb13 hHeld.2.2.2.2.2.2.2.2.2.2.2.2.2⟩) (fun hNew => ?_)
        clear hHeld
        have hHeld := hNew
        clear hNew hK K
        replace bel := Bx.then_below bel hb13
        clear hb13
        refine wpAnyH_take (i := 51) (oi := ?o51r) (v := ?v51r) ?hi51r (by kernel_rfl) (by kernel_rfl) (by kernel_rfl) (fun _ _ _ h => h) ?y51r (by assumption) ?r51r
        case hi51r => (simp only [List.getElem?_toArray, List.getElem?_cons_succ, List.getElem?_cons_zero]; rfl)
        case y51r => (refine Or.inl ⟨by rfl, ?_⟩; intro w' hSw; (try dsimp only at hSw); go_simp; (try with_reducible rfl))
        try simp only [Act.put, List.setIfInBounds_toArray, List.set_cons_zero, List.set_cons_succ]
        refine wpAnyH_take (i := 52) (oi := ?o52r) (v := ?v52r) ?hi52r (by kernel_rfl) (by kernel_rfl) (by kernel_rfl) (fun _ _ _ h => h) ?y52r (by assumption) ?r52r
        case hi52r => (simp only [List.getElem?_toArray, List.getElem?_cons_succ, List.getElem?_cons_zero]; rfl)
        case y52r => (refine Or.inl ⟨by rfl, ?_⟩; intro w' hSw; (try dsimp only at hSw); go_simp; (try with_reducible rfl))
        try simp only [Act.put, List.setIfInBounds_toArray, List.set_cons_zero, List.set_cons_succ]
        refine wpAnyH_done (by kernel_rfl) ?_ _
        refine NoPanic.normal ?_
        clear hHeld
        go_wp2_with fail
        go_ret
        exact ⟨rfl, bel⟩

end Fwd
end Go.Proofs.YtmojegnflcokjaaDoor
