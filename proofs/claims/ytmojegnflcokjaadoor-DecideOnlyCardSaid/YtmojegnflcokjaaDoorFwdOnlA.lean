/-
  The law DecideOnly, way by way.
-/
import Derived.Test.YtmojegnflcokjaaDoorPkPorB
import Derived.Test.YtmojegnflcokjaaDoorPkMemI
import Derived.Test.YtmojegnflcokjaaDoorTabK
import Derived.Test.YtmojegnflcokjaaDoorTabI
import Derived.Deep.DeepCutAuto
import Derived.Deep.RegionHeld3
namespace Go.Proofs.YtmojegnflcokjaaDoor
open Go.RowKit
namespace Fwd
open Oct Eth Tab

/-- A table's variable in block b: its cells, and its entries in memory, which lie elsewhere. -/
def Tst (W : World) (b : Nat) (most long : Int) (A : Option Addr) (l : List Tab.En) (c : Nat) : Prop :=
  Tab.Fre W b [.int .i64 most, .int .i64 long, .slice A l.length c] ∧ Tab.Ents W A l ∧ (∀ b' o, A = some ⟨b', o, none⟩ → 0 < l.length → b' ≠ b)

theorem Tst.below {W W' : World} {b : Nat} {most long : Int} {A : Option Addr} {l : List Tab.En} {c : Nat} (h : Tst W b most long A l c) (hb : Below W.heap.size W W') : Tst W' b most long A l c := ⟨h.1.keep hb, h.2.1.below hb, h.2.2⟩

theorem Tst.put {W : World} {b : Nat} {most long most' long' : Int} {A B : Option Addr} {l m : List Tab.En} {c d : Nat} (h : Tab.Fre W b [.int .i64 most', .int .i64 long', .slice B m.length d]) (hA : Tab.Ents W A l) (hn : ∀ b' o, A = some ⟨b', o, none⟩ → 0 < l.length → b' ≠ b) :
    Tst (((W.setCell ⟨b, 0, none⟩ (.int .i64 most)).setCell ⟨b, 1, none⟩ (.int .i64 long)).setCell ⟨b, 2, none⟩ (.slice A l.length c)) b most long A l c := by
  refine ⟨(((Bx.Fre.set h 0 (.int .i64 most)).set 1 (.int .i64 long)).set 2 (.slice A l.length c)), ?_, hn⟩
  by_cases h0 : 0 < l.length
  · have hx : ∀ b' o', A = some ⟨b', o', none⟩ → b' ≠ b := fun b' o' e => hn b' o' e h0
    exact ((hA.set hx).set hx).set hx
  · have : l = [] := List.eq_nil_of_length_eq_zero (by omega)
    rw [this]
    exact Tab.Ents.nil _ _

/-- What stands behind the law's steps: the table's entries, what the calls answer of it, and what holds of the frames that go out. -/
structure Tail (w : World) (o k : Nat → Int) (AP : Option Addr) (n c : Nat) (d s : Int) (g : Bool) (p v t : Int) (X : ByteArray) (q ln op : Int) (l l2 : List Tab.En) (outs : List Ou) (V : Int) (tk : Bool) (K : Int) (hO hLn : Bool) (en : Tab.En) (there gp : Bool) (F O N : Int) : Prop where
  fw : ∀ (A : Option Addr) (a : Nat) (w' : World), Below w.heap.size w w' → Tab.Ents w' A l → Calls Tryd.prog 9 #[tv 6 9 A l.length a, Mem.pv o k AP n c, fr d s g p v t X, .int .i64 q, .int .i64 ln, .int .i64 op] w' (GivesF A l 6 9 l2 outs w')
  tks : ∀ w', Below w.heap.size w w' → Calls Tryd.prog 21 #[Mem.pv o k AP n c, .int .i64 q, fr d s g p v t X] w' fun e w'' => e = .returned (.tuple #[.int .i64 V, .bool tk]) ∧ Below w'.heap.size w' w''
  kd : ∀ w', Below w.heap.size w w' → Calls Tryd.prog 12 #[fr d s g p v t X] w' fun e w'' => e = .returned (.int .i64 K) ∧ Below w'.heap.size w' w''
  ho : ∀ w', Below w.heap.size w w' → Calls Tryd.prog 22 #[.int .i64 op, .int .i64 q] w' fun e w'' => e = .returned (.bool hO) ∧ Below w'.heap.size w' w''
  hl : ∀ w', Below w.heap.size w w' → Calls Tryd.prog 22 #[.int .i64 ln, .int .i64 q] w' fun e w'' => e = .returned (.bool hLn) ∧ Below w'.heap.size w' w''
  sn : ∀ (A : Option Addr) (a : Nat) (w' : World), Tab.Ents w' A l2 → Calls Tryd.prog 23 #[tv 6 9 A l2.length a] w' fun e w'' => e = .returned (.bool true) ∧ Below w'.heap.size w' w''
  sm : hLn = false → l2 = l
  same : ∀ (A B : Option Addr) (a b : Nat) (w' : World), Tab.Ents w' A l → Tab.Ents w' B l → Calls Tryd.prog 24 #[tv 6 9 A l.length a, tv 6 9 B l.length b] w' fun e w'' => e = .returned (.bool true) ∧ Below w'.heap.size w' w''
  fi : ∀ (A : Option Addr) (a : Nat) (w' : World), Tab.Ents w' A l2 → Calls Tryd.prog 25 #[tv 6 9 A l2.length a, .int .i64 V, .int .u64 d] w' fun e w'' => e = .returned (.tuple #[ev en, .bool there]) ∧ Below w'.heap.size w' w''
  gr : ∀ w', Calls Tryd.prog 26 #[.int .u64 d] w' fun e w'' => e = .returned (.bool gp) ∧ w' = w''
  none : (tk = false ∨ ¬ K = 0 ∨ hO = false) → outs = []
  one : there = true → gp = false → outs.length ≤ 1 ∧ ∀ x ∈ outs, x.q = en.p
  of : ∀ w', Below w.heap.size w w' → Calls Tryd.prog 27 #[Mem.pv o k AP n c, .int .i64 V] w' fun e w'' => e = .returned (.int .i64 F) ∧ Below w'.heap.size w' w''
  all : ∀ x ∈ outs, ¬ x.q = q ∧ (∀ w', Below w.heap.size w w' → Calls Tryd.prog 22 #[.int .i64 op, .int .i64 x.q] w' fun e w'' => e = .returned (.bool true) ∧ Below w'.heap.size w' w'') ∧ (∀ w', Below w.heap.size w w' → Calls Tryd.prog 22 #[.int .i64 F, .int .i64 x.q] w' fun e w'' => e = .returned (.bool true) ∧ Below w'.heap.size w' w'') ∧ x.f.b = X ∧ x.f.d = d ∧ (x.f.g = true → x.f.v = V)
  rise : ∀ (j : Nat) (h : j + 1 < outs.length), (outs[j]'(Nat.lt_of_succ_lt h)).q < outs[j + 1].q
  wo : ∀ w', Below w.heap.size w w' → Calls Tryd.prog 29 #[.int .i64 (bits .and .i64 F op), .int .i64 q] w' fun e w'' => e = .returned (.int .i64 O) ∧ Below w'.heap.size w' w''
  co : ∀ w', Below w.heap.size w w' → Calls Tryd.prog 28 #[.int .i64 O] w' fun e w'' => e = .returned (.int .i64 N) ∧ Below w'.heap.size w' w''
  num : tk = true → K = 0 → hO = true → there = false → N = outs.length
  len8 : outs.length ≤ 8

set_option maxRecDepth 100000 in
set_option maxHeartbeats 8000000 in
theorem only_long (Lo : List Tab.Ev) (hlo : Lo.length ≤ maxLen) (A0 : Option Addr) (c0 : Nat) (o k : Nat → Int) (AP : Option Addr) (n c : Nat) (d s : Int) (g : Bool) (p v t : Int) (X : ByteArray) (q ln op : Int) (w : World) 
    (HLG : Hid (∀ w', Below w.heap.size w w' → Calls Tryd.prog 6 #[Mem.pv o k AP n c] w' fun e w'' => e = .returned (.bool true) ∧ Below w'.heap.size w' w''))
    (HAW : Hid (∀ w', Below w.heap.size w w' → Calls Tryd.prog 8 #[] w' fun e w'' => e = .returned (.bool true) ∧ Below w'.heap.size w' w'')) :
    Calls Tryd.prog 4 #[.slice A0 Lo.length c0, xv o k AP n c d s g p v t X, .agg #[.int .i64 q, .int .i64 ln, .int .i64 op]] w fun e w' => e = .returned (.bool true) ∧ Below w.heap.size w w' := by
  have hlo' : Lo.length ≤ 9223372036854775807 := hlo
  go_enter Tryd.func4, Tryd.ntmps4
  go_wp2
  have BX := Lib.hid ((Bx.Blk.new w (xc o k AP n c d s g p v t X) 34).more (.cells #[.int .i64 q, .int .i64 ln, .int .i64 op] 36))
  have BY := Lib.hid (Bx.Blk.new_at (W := w.alloc (xo o k AP n c d s g p v t X)) (k := w.heap.size + 1) [.int .i64 q, .int .i64 ln, .int .i64 op] 36 (by simp))
  have bel := Bx.bel_box (Bx.box_below w (xo o k AP n c d s g p v t X)) (.cells #[.int .i64 q, .int .i64 ln, .int .i64 op] 36)
  have hsz : w.heap.size + 2 = ((w.alloc (xo o k AP n c d s g p v t X)).alloc (.cells #[.int .i64 q, .int .i64 ln, .int .i64 op] 36)).heap.size := by simp
  generalize hg : (w.alloc (xo o k AP n c d s g p v t X)).alloc (.cells #[.int .i64 q, .int .i64 ln, .int .i64 op] 36) = W0 at *
  clear hg
  go_cut [7, 8] (fun s7 s8 wx => ∃ m7 m8 : Nat, s7 = .pointer (some ⟨m7, 0, none⟩) ∧ s8 = .pointer (some ⟨m8, 0, none⟩) ∧ W0.heap.size ≤ m7 ∧ W0.heap.size ≤ m8 ∧ m7 ≠ m8 ∧ Below W0.heap.size W0 wx ∧ Bx.Blk wx m7 (Mem.pc o k AP n c) ∧ Bx.Fre wx m8 (Mem.fc d s g p v t X))
  case first =>
    refine wp_region_noPanic ?_
    refine wp_region_held_drew (S := fun w' => Bx.Blk w' w.heap.size (xc o k AP n c d s g p v t X)) (by kernel_rfl) (by exact BX.out) (fun hHeld => ?_)
    refine wpAnyH_take (i := 0) (oi := ?o0) (v := ?v0) ?hi0 (by kernel_rfl) (by kernel_rfl) (by kernel_rfl) (fun _ _ _ h => h) ?y0 (by assumption) ?r0
    case hi0 => (simp only [List.getElem?_toArray, List.getElem?_cons_zero]; rfl)
    case y0 => (refine Or.inl ⟨by rfl, ?_⟩; intro w' hSw; (try dsimp only at hSw); go_simp; (try with_reducible rfl))
    try simp only [Act.put, List.setIfInBounds_toArray, List.set_cons_zero, List.set_cons_succ]
    refine wpAnyH_take (i := 1) (oi := ?o1) (v := Mem.pv o k AP n c) ?hi1 (by kernel_rfl) (by kernel_rfl) (by kernel_rfl) (fun _ _ _ h => h) ?y1 (by assumption) ?r1
    case hi1 => (simp only [List.getElem?_toArray, List.getElem?_cons_succ, List.getElem?_cons_zero]; rfl)
    case y1 => (refine yields_plan rfl _ rfl w.heap.size rfl o k AP n c d s g p v t X ?_; intro w' hS; exact hS)
    try simp only [Act.put, List.setIfInBounds_toArray, List.set_cons_zero, List.set_cons_succ]
    refine wpAnyH_take (i := 2) (oi := ?o2) (v := ?v2) ?hi2 (by kernel_rfl) (by kernel_rfl) (by kernel_rfl) (fun _ _ _ h => h) ?y2 (by assumption) ?r2
    case hi2 => (simp only [List.getElem?_toArray, List.getElem?_cons_succ, List.getElem?_cons_zero]; rfl)
    case y2 => (refine Or.inl ⟨by rfl, ?_⟩; intro w' hSw; (try dsimp only at hSw); go_simp; (try with_reducible rfl))
    try simp only [Act.put, List.setIfInBounds_toArray, List.set_cons_zero, List.set_cons_succ]
    refine wpAnyH_take (i := 3) (oi := ?o3) (v := fr d s g p v t X) ?hi3 (by kernel_rfl) (by kernel_rfl) (by kernel_rfl) (fun _ _ _ h => h) ?y3 (by assumption) ?r3
    case hi3 => (simp only [List.getElem?_toArray, List.getElem?_cons_succ, List.getElem?_cons_zero]; rfl)
    case y3 => (refine yields_frame rfl _ rfl w.heap.size rfl o k AP n c d s g p v t X ?_; intro w' hS; exact hS)
    try simp only [Act.put, List.setIfInBounds_toArray, List.set_cons_zero, List.set_cons_succ]
    refine wpAnyH_ready (rs := [4, 5]) (by kernel_rfl) (by simp) ?_
    refine AllReadyH.cons (o := ?o4) ?hi4 ?hst4 (AllReadyH.cons (o := ?o5) ?hi5 ?hst5 AllReadyH.nil)
    case hi4 => (simp only [List.getElem?_toArray, List.getElem?_cons_succ, List.getElem?_cons_zero]; rfl)
    case hi5 => (simp only [List.getElem?_toArray, List.getElem?_cons_succ, List.getElem?_cons_zero]; rfl)
    case hst4 =>
      intro K hK
      go_simp
      refine hK.out _ _ (Bx.Blk.more hHeld _) (fun hNew => ?_)
      clear hHeld
      have hHeld := hNew
      clear hNew hK K
      have NP := Lib.hid (Bx.Own.new W0 [.int .i64 0, .int .i64 0, .int .i64 0, .int .i64 0, .int .i64 0, .int .i64 0, .int .i64 0, .int .i64 0, .int .i64 0, .int .i64 0, .int .i64 0, .int .i64 0, .int .i64 0, .int .i64 0, .int .i64 0, .int .i64 0, .slice none 0 0] 28).draw
      have BE := Lib.hid (Bx.bel_drewn (Bx.bel_box (Bx.bel_refl W0) (Obj.cells #[.int .i64 0, .int .i64 0, .int .i64 0, .int .i64 0, .int .i64 0, .int .i64 0, .int .i64 0, .int .i64 0, .int .i64 0, .int .i64 0, .int .i64 0, .int .i64 0, .int .i64 0, .int .i64 0, .int .i64 0, .int .i64 0, .slice none 0 0] 28)))
      refine wpAnyH_ready (rs := [5]) (by kernel_rfl) (by simp) ?_
      refine AllReadyH.cons (o := ?o5a) ?hi5a ?hst5a AllReadyH.nil
      case hi5a => (simp only [List.getElem?_toArray, List.getElem?_cons_succ, List.getElem?_cons_zero]; rfl)
      intro K hK
      go_simp
      refine hK.out _ _ (Bx.Blk.more hHeld _) (fun hNew => ?_)
      clear hHeld
      have hHeld := hNew
      clear hNew hK K
      replace NP := Lib.hid (NP.out.more (Obj.cells #[.int .u64 0, .int .u64 0, .bool false, .int .i64 0, .int .i64 0, .int .i64 0, .string ⟨#[]⟩] 32))
      have NF := Lib.hid (Bx.Own.new_at (W := (W0.alloc (Obj.cells #[.int .i64 0, .int .i64 0, .int .i64 0, .int .i64 0, .int .i64 0, .int .i64 0, .int .i64 0, .int .i64 0, .int .i64 0, .int .i64 0, .int .i64 0, .int .i64 0, .int .i64 0, .int .i64 0, .int .i64 0, .int .i64 0, .slice none 0 0] 28)).drew) (k := W0.heap.size + 1) [.int .u64 0, .int .u64 0, .bool false, .int .i64 0, .int .i64 0, .int .i64 0, .string ⟨#[]⟩] 32 (by simp [World.drew]))
      replace BE := Lib.hid (Bx.bel_box BE.out (Obj.cells #[.int .u64 0, .int .u64 0, .bool false, .int .i64 0, .int .i64 0, .int .i64 0, .string ⟨#[]⟩] 32))
      have ZZ := Lib.hid (fun j => show ((W0.alloc (Obj.cells #[.int .i64 0, .int .i64 0, .int .i64 0, .int .i64 0, .int .i64 0, .int .i64 0, .int .i64 0, .int .i64 0, .int .i64 0, .int .i64 0, .int .i64 0, .int .i64 0, .int .i64 0, .int .i64 0, .int .i64 0, .int .i64 0, .slice none 0 0] 28)).drew.alloc (Obj.cells #[.int .u64 0, .int .u64 0, .bool false, .int .i64 0, .int .i64 0, .int .i64 0, .string ⟨#[]⟩] 32)).frozen? ⟨W0.heap.size + 1, j, none⟩ = false from frozen_at (W0.alloc (Obj.cells #[.int .i64 0, .int .i64 0, .int .i64 0, .int .i64 0, .int .i64 0, .int .i64 0, .int .i64 0, .int .i64 0, .int .i64 0, .int .i64 0, .int .i64 0, .int .i64 0, .int .i64 0, .int .i64 0, .int .i64 0, .int .i64 0, .slice none 0 0] 28)).drew #[.int .u64 0, .int .u64 0, .bool false, .int .i64 0, .int .i64 0, .int .i64 0, .string ⟨#[]⟩] 32 (by simp [World.drew]) j)
      refine wpAnyH_ready (rs := [6]) (by kernel_rfl) (by simp) ?_
      refine AllReadyH.cons (o := ?o6a) ?hi6a ?hst6a AllReadyH.nil
      case hi6a => (simp only [List.getElem?_toArray, List.getElem?_cons_succ, List.getElem?_cons_zero]; rfl)
      intro K hK
      rw [if_pos (by rfl)]
      refine wp_store_plan _ _ rfl (W0.heap.size) [.int .i64 0, .int .i64 0, .int .i64 0, .int .i64 0, .int .i64 0, .int .i64 0, .int .i64 0, .int .i64 0, .int .i64 0, .int .i64 0, .int .i64 0, .int .i64 0, .int .i64 0, .int .i64 0, .int .i64 0, .int .i64 0, .slice none 0 0] rfl o k AP n c rfl rfl NP.out ?_
      refine hK.out _ _ (Bx.Blk.apart hHeld (by omega)) (fun hNew => ?_)
      clear hHeld
      have hHeld := hNew
      clear hNew hK K
      replace NP := Lib.hid (NP.out.put (m := (Mem.pc o k AP n c)) rfl)
      replace NF := Lib.hid (NF.out.apart (k' := W0.heap.size) (m := (Mem.pc o k AP n c)) (by omega))
      replace BE := Lib.hid (Bx.bel_cells (k := W0.heap.size) (m := (Mem.pc o k AP n c)) BE.out (Nat.le_refl _))
      refine wpAnyH_ready (rs := [7]) (by kernel_rfl) (by simp) ?_
      refine ready_frame (oi := ?o7a) (x := ?x7a) (y := ?y7a) ?hi7a ?hw7a ?ho7a (W0.heap.size + 1) [.int .u64 0, .int .u64 0, .bool false, .int .i64 0, .int .i64 0, .int .i64 0, .string ⟨#[]⟩] rfl d s g p v t X ?hx7a ?hz7a NF.out (Bx.Blk.apart hHeld (by omega)) ?rest7a
      case hi7a => (simp only [List.getElem?_toArray, List.getElem?_cons_succ, List.getElem?_cons_zero]; rfl)
      case hw7a => rfl
      case ho7a => rfl
      case hx7a => rfl
      case hz7a => rfl
      replace hHeld := Bx.Blk.apart (k' := W0.heap.size + 1) (m := (Mem.fc d s g p v t X)) hHeld (by omega)
      replace NF := Lib.hid (NF.out.put (m := (Mem.fc d s g p v t X)) rfl)
      replace NP := Lib.hid (NP.out.apart (k' := W0.heap.size + 1) (m := (Mem.fc d s g p v t X)) (by omega))
      replace BE := Lib.hid (Bx.bel_cells (k := W0.heap.size + 1) (m := (Mem.fc d s g p v t X)) BE.out (Nat.le_succ _))
      refine wpAnyH_done (by kernel_rfl) ?_ _
      refine NoPanic.normal ?_
      go_wp2_with fail
      go_meet
      exact ⟨W0.heap.size, W0.heap.size + 1, rfl, rfl, (Nat.le_refl _), (Nat.le_succ _), by omega, BE.out, NP.out.1, ⟨NF.out.1, NF.out.1.lt (by simp), fun j => by rw [frozen_cells, frozen_cells]; exact ZZ.out j⟩⟩
    case hst5 =>
      intro K hK
      go_simp
      refine hK.out _ _ (Bx.Blk.more hHeld _) (fun hNew => ?_)
      clear hHeld
      have hHeld := hNew
      clear hNew hK K
      have NF := Lib.hid (Bx.Own.new W0 [.int .u64 0, .int .u64 0, .bool false, .int .i64 0, .int .i64 0, .int .i64 0, .string ⟨#[]⟩] 32).draw
      have BE := Lib.hid (Bx.bel_drewn (Bx.bel_box (Bx.bel_refl W0) (Obj.cells #[.int .u64 0, .int .u64 0, .bool false, .int .i64 0, .int .i64 0, .int .i64 0, .string ⟨#[]⟩] 32)))
      have ZZ := Lib.hid (fun j => show (W0.alloc (Obj.cells #[.int .u64 0, .int .u64 0, .bool false, .int .i64 0, .int .i64 0, .int .i64 0, .string ⟨#[]⟩] 32)).drew.frozen? ⟨W0.heap.size, j, none⟩ = false from World.frozen?_alloc_new W0 #[.int .u64 0, .int .u64 0, .bool false, .int .i64 0, .int .i64 0, .int .i64 0, .string ⟨#[]⟩] 32 j)
      refine wpAnyH_ready (rs := [4]) (by kernel_rfl) (by simp) ?_
      refine AllReadyH.cons (o := ?o4b) ?hi4b ?hst4b AllReadyH.nil
      case hi4b => (simp only [List.getElem?_toArray, List.getElem?_cons_succ, List.getElem?_cons_zero]; rfl)
      intro K hK
      go_simp
      refine hK.out _ _ (Bx.Blk.more hHeld _) (fun hNew => ?_)
      clear hHeld
      have hHeld := hNew
      clear hNew hK K
      replace NF := Lib.hid (NF.out.more (Obj.cells #[.int .i64 0, .int .i64 0, .int .i64 0, .int .i64 0, .int .i64 0, .int .i64 0, .int .i64 0, .int .i64 0, .int .i64 0, .int .i64 0, .int .i64 0, .int .i64 0, .int .i64 0, .int .i64 0, .int .i64 0, .int .i64 0, .slice none 0 0] 28))
      have NP := Lib.hid (Bx.Own.new_at (W := (W0.alloc (Obj.cells #[.int .u64 0, .int .u64 0, .bool false, .int .i64 0, .int .i64 0, .int .i64 0, .string ⟨#[]⟩] 32)).drew) (k := W0.heap.size + 1) [.int .i64 0, .int .i64 0, .int .i64 0, .int .i64 0, .int .i64 0, .int .i64 0, .int .i64 0, .int .i64 0, .int .i64 0, .int .i64 0, .int .i64 0, .int .i64 0, .int .i64 0, .int .i64 0, .int .i64 0, .int .i64 0, .slice none 0 0] 28 (by simp [World.drew]))
      replace BE := Lib.hid (Bx.bel_box BE.out (Obj.cells #[.int .i64 0, .int .i64 0, .int .i64 0, .int .i64 0, .int .i64 0, .int .i64 0, .int .i64 0, .int .i64 0, .int .i64 0, .int .i64 0, .int .i64 0, .int .i64 0, .int .i64 0, .int .i64 0, .int .i64 0, .int .i64 0, .slice none 0 0] 28))
      replace ZZ := Lib.hid (fun j => show ((W0.alloc (Obj.cells #[.int .u64 0, .int .u64 0, .bool false, .int .i64 0, .int .i64 0, .int .i64 0, .string ⟨#[]⟩] 32)).drew.alloc (Obj.cells #[.int .i64 0, .int .i64 0, .int .i64 0, .int .i64 0, .int .i64 0, .int .i64 0, .int .i64 0, .int .i64 0, .int .i64 0, .int .i64 0, .int .i64 0, .int .i64 0, .int .i64 0, .int .i64 0, .int .i64 0, .int .i64 0, .slice none 0 0] 28)).frozen? ⟨W0.heap.size, j, none⟩ = false from (frozen_old (W0.alloc (Obj.cells #[.int .u64 0, .int .u64 0, .bool false, .int .i64 0, .int .i64 0, .int .i64 0, .string ⟨#[]⟩] 32)).drew (Obj.cells #[.int .i64 0, .int .i64 0, .int .i64 0, .int .i64 0, .int .i64 0, .int .i64 0, .int .i64 0, .int .i64 0, .int .i64 0, .int .i64 0, .int .i64 0, .int .i64 0, .int .i64 0, .int .i64 0, .int .i64 0, .int .i64 0, .slice none 0 0] 28) (by simp [World.drew]) j).trans (ZZ.out j))
      refine wpAnyH_ready (rs := [6]) (by kernel_rfl) (by simp) ?_
      refine AllReadyH.cons (o := ?o6b) ?hi6b ?hst6b AllReadyH.nil
      case hi6b => (simp only [List.getElem?_toArray, List.getElem?_cons_succ, List.getElem?_cons_zero]; rfl)
      intro K hK
      rw [if_pos (by rfl)]
      refine wp_store_plan _ _ rfl (W0.heap.size + 1) [.int .i64 0, .int .i64 0, .int .i64 0, .int .i64 0, .int .i64 0, .int .i64 0, .int .i64 0, .int .i64 0, .int .i64 0, .int .i64 0, .int .i64 0, .int .i64 0, .int .i64 0, .int .i64 0, .int .i64 0, .int .i64 0, .slice none 0 0] rfl o k AP n c rfl rfl NP.out ?_
      refine hK.out _ _ (Bx.Blk.apart hHeld (by omega)) (fun hNew => ?_)
      clear hHeld
      have hHeld := hNew
      clear hNew hK K
      replace NP := Lib.hid (NP.out.put (m := (Mem.pc o k AP n c)) rfl)
      replace NF := Lib.hid (NF.out.apart (k' := W0.heap.size + 1) (m := (Mem.pc o k AP n c)) (by omega))
      replace BE := Lib.hid (Bx.bel_cells (k := W0.heap.size + 1) (m := (Mem.pc o k AP n c)) BE.out (Nat.le_succ _))
      refine wpAnyH_ready (rs := [7]) (by kernel_rfl) (by simp) ?_
      refine ready_frame (oi := ?o7b) (x := ?x7b) (y := ?y7b) ?hi7b ?hw7b ?ho7b (W0.heap.size) [.int .u64 0, .int .u64 0, .bool false, .int .i64 0, .int .i64 0, .int .i64 0, .string ⟨#[]⟩] rfl d s g p v t X ?hx7b ?hz7b NF.out (Bx.Blk.apart hHeld (by omega)) ?rest7b
      case hi7b => (simp only [List.getElem?_toArray, List.getElem?_cons_succ, List.getElem?_cons_zero]; rfl)
      case hw7b => rfl
      case ho7b => rfl
      case hx7b => rfl
      case hz7b => rfl
      replace hHeld := Bx.Blk.apart (k' := W0.heap.size) (m := (Mem.fc d s g p v t X)) hHeld (by omega)
      replace NF := Lib.hid (NF.out.put (m := (Mem.fc d s g p v t X)) rfl)
      replace NP := Lib.hid (NP.out.apart (k' := W0.heap.size) (m := (Mem.fc d s g p v t X)) (by omega))
      replace BE := Lib.hid (Bx.bel_cells (k := W0.heap.size) (m := (Mem.fc d s g p v t X)) BE.out (Nat.le_refl _))
      refine wpAnyH_done (by kernel_rfl) ?_ _
      refine NoPanic.normal ?_
      go_wp2_with fail
      go_meet
      exact ⟨W0.heap.size + 1, W0.heap.size, rfl, rfl, (Nat.le_succ _), (Nat.le_refl _), by omega, BE.out, NP.out.1, ⟨NF.out.1, NF.out.1.lt (by simp), fun j => by rw [frozen_cells, frozen_cells]; exact ZZ.out j⟩⟩
  case rest =>
    obtain ⟨m7, m8, rfl, rfl, hm7, hm8, n78, hb, P, FF⟩ := hcut
    have n7a : m7 ≠ w.heap.size + 1 ∧ w.heap.size ≤ m7 := by omega
    have n8a : m8 ≠ w.heap.size + 1 ∧ w.heap.size ≤ m8 := by omega
    replace bel := Bx.then_below bel hb
    replace BY := Lib.hid (BY.out.keep hb)
    replace P := Lib.hid P
    replace FF := Lib.hid FF
    clear hb BX hsz hm7 hm8
    have B0 := BY
    have B1 := P
    have B2 := Lib.hid FF.out.1
    clear BY P FF
    obtain ⟨c0_0, c0_1, c0_2⟩ := B0.out.all3
    obtain ⟨c2_0, c2_1, c2_2, c2_3, c2_4, c2_5, c2_6⟩ := B2.out.all7
    go_wp2_with (first | ((with_reducible refine Mem.load_at ?_ ?_ (m7) ?_ o k AP n c ?_ ?_); (· rfl); (· rfl); (· rfl); (· exact B1.out)))
    refine (HLG.out _ bel).mono ?_; rintro e w1 ⟨rfl, hb1⟩
    replace bel := Bx.then_below bel hb1
    replace B0 := Lib.hid (B0.out.keep hb1)
    replace B1 := Lib.hid (B1.out.keep hb1)
    replace B2 := Lib.hid (B2.out.keep hb1)
    clear hb1
    clear c0_0 c0_1 c0_2 c2_0 c2_1 c2_2 c2_3 c2_4 c2_5 c2_6
    obtain ⟨c0_0, c0_1, c0_2⟩ := B0.out.all3
    obtain ⟨c2_0, c2_1, c2_2, c2_3, c2_4, c2_5, c2_6⟩ := B2.out.all7
    go_wp2_with (first | ((with_reducible refine Mem.load_at ?_ ?_ (m7) ?_ o k AP n c ?_ ?_); (· rfl); (· rfl); (· rfl); (· exact B1.out)))
    refine (HAW.out _ bel).mono ?_; rintro e w2 ⟨rfl, hb2⟩
    replace bel := Bx.then_below bel hb2
    replace B0 := Lib.hid (B0.out.keep hb2)
    replace B1 := Lib.hid (B1.out.keep hb2)
    replace B2 := Lib.hid (B2.out.keep hb2)
    clear hb2
    go_wp2_with (first | ((with_reducible refine Mem.load_at ?_ ?_ (m7) ?_ o k AP n c ?_ ?_); (· rfl); (· rfl); (· rfl); (· exact B1.out)))
    go_ret
    exact ⟨rfl, bel⟩

set_option maxRecDepth 100000 in
set_option maxHeartbeats 8000000 in
theorem only_right (Lo : List Tab.Ev) (hlo : Lo.length ≤ maxLen) (A0 : Option Addr) (c0 : Nat) (o k : Nat → Int) (AP : Option Addr) (n c : Nat) (d s : Int) (g : Bool) (p v t : Int) (X : ByteArray) (q ln op : Int) (w : World) 
    (HLG : Hid (∀ w', Below w.heap.size w w' → Calls Tryd.prog 6 #[Mem.pv o k AP n c] w' fun e w'' => e = .returned (.bool false) ∧ Below w'.heap.size w' w''))
    (HRI : Hid (∀ w', Below w.heap.size w w' → Calls Tryd.prog 18 #[Mem.pv o k AP n c] w' fun e w'' => e = .returned (.bool false) ∧ Below w'.heap.size w' w''))
    (HAW : Hid (∀ w', Below w.heap.size w w' → Calls Tryd.prog 8 #[] w' fun e w'' => e = .returned (.bool true) ∧ Below w'.heap.size w' w'')) :
    Calls Tryd.prog 4 #[.slice A0 Lo.length c0, xv o k AP n c d s g p v t X, .agg #[.int .i64 q, .int .i64 ln, .int .i64 op]] w fun e w' => e = .returned (.bool true) ∧ Below w.heap.size w w' := by
  have hlo' : Lo.length ≤ 9223372036854775807 := hlo
  go_enter Tryd.func4, Tryd.ntmps4
  go_wp2
  have BX := Lib.hid ((Bx.Blk.new w (xc o k AP n c d s g p v t X) 34).more (.cells #[.int .i64 q, .int .i64 ln, .int .i64 op] 36))
  have BY := Lib.hid (Bx.Blk.new_at (W := w.alloc (xo o k AP n c d s g p v t X)) (k := w.heap.size + 1) [.int .i64 q, .int .i64 ln, .int .i64 op] 36 (by simp))
  have bel := Bx.bel_box (Bx.box_below w (xo o k AP n c d s g p v t X)) (.cells #[.int .i64 q, .int .i64 ln, .int .i64 op] 36)
  have hsz : w.heap.size + 2 = ((w.alloc (xo o k AP n c d s g p v t X)).alloc (.cells #[.int .i64 q, .int .i64 ln, .int .i64 op] 36)).heap.size := by simp
  generalize hg : (w.alloc (xo o k AP n c d s g p v t X)).alloc (.cells #[.int .i64 q, .int .i64 ln, .int .i64 op] 36) = W0 at *
  clear hg
  go_cut [7, 8] (fun s7 s8 wx => ∃ m7 m8 : Nat, s7 = .pointer (some ⟨m7, 0, none⟩) ∧ s8 = .pointer (some ⟨m8, 0, none⟩) ∧ W0.heap.size ≤ m7 ∧ W0.heap.size ≤ m8 ∧ m7 ≠ m8 ∧ Below W0.heap.size W0 wx ∧ Bx.Blk wx m7 (Mem.pc o k AP n c) ∧ Bx.Fre wx m8 (Mem.fc d s g p v t X))
  case first =>
    refine wp_region_noPanic ?_
    refine wp_region_held_drew (S := fun w' => Bx.Blk w' w.heap.size (xc o k AP n c d s g p v t X)) (by kernel_rfl) (by exact BX.out) (fun hHeld => ?_)
    refine wpAnyH_take (i := 0) (oi := ?o0) (v := ?v0) ?hi0 (by kernel_rfl) (by kernel_rfl) (by kernel_rfl) (fun _ _ _ h => h) ?y0 (by assumption) ?r0
    case hi0 => (simp only [List.getElem?_toArray, List.getElem?_cons_zero]; rfl)
    case y0 => (refine Or.inl ⟨by rfl, ?_⟩; intro w' hSw; (try dsimp only at hSw); go_simp; (try with_reducible rfl))
    try simp only [Act.put, List.setIfInBounds_toArray, List.set_cons_zero, List.set_cons_succ]
    refine wpAnyH_take (i := 1) (oi := ?o1) (v := Mem.pv o k AP n c) ?hi1 (by kernel_rfl) (by kernel_rfl) (by kernel_rfl) (fun _ _ _ h => h) ?y1 (by assumption) ?r1
    case hi1 => (simp only [List.getElem?_toArray, List.getElem?_cons_succ, List.getElem?_cons_zero]; rfl)
    case y1 => (refine yields_plan rfl _ rfl w.heap.size rfl o k AP n c d s g p v t X ?_; intro w' hS; exact hS)
    try simp only [Act.put, List.setIfInBounds_toArray, List.set_cons_zero, List.set_cons_succ]
    refine wpAnyH_take (i := 2) (oi := ?o2) (v := ?v2) ?hi2 (by kernel_rfl) (by kernel_rfl) (by kernel_rfl) (fun _ _ _ h => h) ?y2 (by assumption) ?r2
    case hi2 => (simp only [List.getElem?_toArray, List.getElem?_cons_succ, List.getElem?_cons_zero]; rfl)
    case y2 => (refine Or.inl ⟨by rfl, ?_⟩; intro w' hSw; (try dsimp only at hSw); go_simp; (try with_reducible rfl))
    try simp only [Act.put, List.setIfInBounds_toArray, List.set_cons_zero, List.set_cons_succ]
    refine wpAnyH_take (i := 3) (oi := ?o3) (v := fr d s g p v t X) ?hi3 (by kernel_rfl) (by kernel_rfl) (by kernel_rfl) (fun _ _ _ h => h) ?y3 (by assumption) ?r3
    case hi3 => (simp only [List.getElem?_toArray, List.getElem?_cons_succ, List.getElem?_cons_zero]; rfl)
    case y3 => (refine yields_frame rfl _ rfl w.heap.size rfl o k AP n c d s g p v t X ?_; intro w' hS; exact hS)
    try simp only [Act.put, List.setIfInBounds_toArray, List.set_cons_zero, List.set_cons_succ]
    refine wpAnyH_ready (rs := [4, 5]) (by kernel_rfl) (by simp) ?_
    refine AllReadyH.cons (o := ?o4) ?hi4 ?hst4 (AllReadyH.cons (o := ?o5) ?hi5 ?hst5 AllReadyH.nil)
    case hi4 => (simp only [List.getElem?_toArray, List.getElem?_cons_succ, List.getElem?_cons_zero]; rfl)
    case hi5 => (simp only [List.getElem?_toArray, List.getElem?_cons_succ, List.getElem?_cons_zero]; rfl)
    case hst4 =>
      intro K hK
      go_simp
      refine hK.out _ _ (Bx.Blk.more hHeld _) (fun hNew => ?_)
      clear hHeld
      have hHeld := hNew
      clear hNew hK K
      have NP := Lib.hid (Bx.Own.new W0 [.int .i64 0, .int .i64 0, .int .i64 0, .int .i64 0, .int .i64 0, .int .i64 0, .int .i64 0, .int .i64 0, .int .i64 0, .int .i64 0, .int .i64 0, .int .i64 0, .int .i64 0, .int .i64 0, .int .i64 0, .int .i64 0, .slice none 0 0] 28).draw
      have BE := Lib.hid (Bx.bel_drewn (Bx.bel_box (Bx.bel_refl W0) (Obj.cells #[.int .i64 0, .int .i64 0, .int .i64 0, .int .i64 0, .int .i64 0, .int .i64 0, .int .i64 0, .int .i64 0, .int .i64 0, .int .i64 0, .int .i64 0, .int .i64 0, .int .i64 0, .int .i64 0, .int .i64 0, .int .i64 0, .slice none 0 0] 28)))
      refine wpAnyH_ready (rs := [5]) (by kernel_rfl) (by simp) ?_
      refine AllReadyH.cons (o := ?o5a) ?hi5a ?hst5a AllReadyH.nil
      case hi5a => (simp only [List.getElem?_toArray, List.getElem?_cons_succ, List.getElem?_cons_zero]; rfl)
      intro K hK
      go_simp
      refine hK.out _ _ (Bx.Blk.more hHeld _) (fun hNew => ?_)
      clear hHeld
      have hHeld := hNew
      clear hNew hK K
      replace NP := Lib.hid (NP.out.more (Obj.cells #[.int .u64 0, .int .u64 0, .bool false, .int .i64 0, .int .i64 0, .int .i64 0, .string ⟨#[]⟩] 32))
      have NF := Lib.hid (Bx.Own.new_at (W := (W0.alloc (Obj.cells #[.int .i64 0, .int .i64 0, .int .i64 0, .int .i64 0, .int .i64 0, .int .i64 0, .int .i64 0, .int .i64 0, .int .i64 0, .int .i64 0, .int .i64 0, .int .i64 0, .int .i64 0, .int .i64 0, .int .i64 0, .int .i64 0, .slice none 0 0] 28)).drew) (k := W0.heap.size + 1) [.int .u64 0, .int .u64 0, .bool false, .int .i64 0, .int .i64 0, .int .i64 0, .string ⟨#[]⟩] 32 (by simp [World.drew]))
      replace BE := Lib.hid (Bx.bel_box BE.out (Obj.cells #[.int .u64 0, .int .u64 0, .bool false, .int .i64 0, .int .i64 0, .int .i64 0, .string ⟨#[]⟩] 32))
      have ZZ := Lib.hid (fun j => show ((W0.alloc (Obj.cells #[.int .i64 0, .int .i64 0, .int .i64 0, .int .i64 0, .int .i64 0, .int .i64 0, .int .i64 0, .int .i64 0, .int .i64 0, .int .i64 0, .int .i64 0, .int .i64 0, .int .i64 0, .int .i64 0, .int .i64 0, .int .i64 0, .slice none 0 0] 28)).drew.alloc (Obj.cells #[.int .u64 0, .int .u64 0, .bool false, .int .i64 0, .int .i64 0, .int .i64 0, .string ⟨#[]⟩] 32)).frozen? ⟨W0.heap.size + 1, j, none⟩ = false from frozen_at (W0.alloc (Obj.cells #[.int .i64 0, .int .i64 0, .int .i64 0, .int .i64 0, .int .i64 0, .int .i64 0, .int .i64 0, .int .i64 0, .int .i64 0, .int .i64 0, .int .i64 0, .int .i64 0, .int .i64 0, .int .i64 0, .int .i64 0, .int .i64 0, .slice none 0 0] 28)).drew #[.int .u64 0, .int .u64 0, .bool false, .int .i64 0, .int .i64 0, .int .i64 0, .string ⟨#[]⟩] 32 (by simp [World.drew]) j)
      refine wpAnyH_ready (rs := [6]) (by kernel_rfl) (by simp) ?_
      refine AllReadyH.cons (o := ?o6a) ?hi6a ?hst6a AllReadyH.nil
      case hi6a => (simp only [List.getElem?_toArray, List.getElem?_cons_succ, List.getElem?_cons_zero]; rfl)
      intro K hK
      rw [if_pos (by rfl)]
      refine wp_store_plan _ _ rfl (W0.heap.size) [.int .i64 0, .int .i64 0, .int .i64 0, .int .i64 0, .int .i64 0, .int .i64 0, .int .i64 0, .int .i64 0, .int .i64 0, .int .i64 0, .int .i64 0, .int .i64 0, .int .i64 0, .int .i64 0, .int .i64 0, .int .i64 0, .slice none 0 0] rfl o k AP n c rfl rfl NP.out ?_
      refine hK.out _ _ (Bx.Blk.apart hHeld (by omega)) (fun hNew => ?_)
      clear hHeld
      have hHeld := hNew
      clear hNew hK K
      replace NP := Lib.hid (NP.out.put (m := (Mem.pc o k AP n c)) rfl)
      replace NF := Lib.hid (NF.out.apart (k' := W0.heap.size) (m := (Mem.pc o k AP n c)) (by omega))
      replace BE := Lib.hid (Bx.bel_cells (k := W0.heap.size) (m := (Mem.pc o k AP n c)) BE.out (Nat.le_refl _))
      refine wpAnyH_ready (rs := [7]) (by kernel_rfl) (by simp) ?_
      refine ready_frame (oi := ?o7a) (x := ?x7a) (y := ?y7a) ?hi7a ?hw7a ?ho7a (W0.heap.size + 1) [.int .u64 0, .int .u64 0, .bool false, .int .i64 0, .int .i64 0, .int .i64 0, .string ⟨#[]⟩] rfl d s g p v t X ?hx7a ?hz7a NF.out (Bx.Blk.apart hHeld (by omega)) ?rest7a
      case hi7a => (simp only [List.getElem?_toArray, List.getElem?_cons_succ, List.getElem?_cons_zero]; rfl)
      case hw7a => rfl
      case ho7a => rfl
      case hx7a => rfl
      case hz7a => rfl
      replace hHeld := Bx.Blk.apart (k' := W0.heap.size + 1) (m := (Mem.fc d s g p v t X)) hHeld (by omega)
      replace NF := Lib.hid (NF.out.put (m := (Mem.fc d s g p v t X)) rfl)
      replace NP := Lib.hid (NP.out.apart (k' := W0.heap.size + 1) (m := (Mem.fc d s g p v t X)) (by omega))
      replace BE := Lib.hid (Bx.bel_cells (k := W0.heap.size + 1) (m := (Mem.fc d s g p v t X)) BE.out (Nat.le_succ _))
      refine wpAnyH_done (by kernel_rfl) ?_ _
      refine NoPanic.normal ?_
      go_wp2_with fail
      go_meet
      exact ⟨W0.heap.size, W0.heap.size + 1, rfl, rfl, (Nat.le_refl _), (Nat.le_succ _), by omega, BE.out, NP.out.1, ⟨NF.out.1, NF.out.1.lt (by simp), fun j => by rw [frozen_cells, frozen_cells]; exact ZZ.out j⟩⟩
    case hst5 =>
      intro K hK
      go_simp
      refine hK.out _ _ (Bx.Blk.more hHeld _) (fun hNew => ?_)
      clear hHeld
      have hHeld := hNew
      clear hNew hK K
      have NF := Lib.hid (Bx.Own.new W0 [.int .u64 0, .int .u64 0, .bool false, .int .i64 0, .int .i64 0, .int .i64 0, .string ⟨#[]⟩] 32).draw
      have BE := Lib.hid (Bx.bel_drewn (Bx.bel_box (Bx.bel_refl W0) (Obj.cells #[.int .u64 0, .int .u64 0, .bool false, .int .i64 0, .int .i64 0, .int .i64 0, .string ⟨#[]⟩] 32)))
      have ZZ := Lib.hid (fun j => show (W0.alloc (Obj.cells #[.int .u64 0, .int .u64 0, .bool false, .int .i64 0, .int .i64 0, .int .i64 0, .string ⟨#[]⟩] 32)).drew.frozen? ⟨W0.heap.size, j, none⟩ = false from World.frozen?_alloc_new W0 #[.int .u64 0, .int .u64 0, .bool false, .int .i64 0, .int .i64 0, .int .i64 0, .string ⟨#[]⟩] 32 j)
      refine wpAnyH_ready (rs := [4]) (by kernel_rfl) (by simp) ?_
      refine AllReadyH.cons (o := ?o4b) ?hi4b ?hst4b AllReadyH.nil
      case hi4b => (simp only [List.getElem?_toArray, List.getElem?_cons_succ, List.getElem?_cons_zero]; rfl)
      intro K hK
      go_simp
      refine hK.out _ _ (Bx.Blk.more hHeld _) (fun hNew => ?_)
      clear hHeld
      have hHeld := hNew
      clear hNew hK K
      replace NF := Lib.hid (NF.out.more (Obj.cells #[.int .i64 0, .int .i64 0, .int .i64 0, .int .i64 0, .int .i64 0, .int .i64 0, .int .i64 0, .int .i64 0, .int .i64 0, .int .i64 0, .int .i64 0, .int .i64 0, .int .i64 0, .int .i64 0, .int .i64 0, .int .i64 0, .slice none 0 0] 28))
      have NP := Lib.hid (Bx.Own.new_at (W := (W0.alloc (Obj.cells #[.int .u64 0, .int .u64 0, .bool false, .int .i64 0, .int .i64 0, .int .i64 0, .string ⟨#[]⟩] 32)).drew) (k := W0.heap.size + 1) [.int .i64 0, .int .i64 0, .int .i64 0, .int .i64 0, .int .i64 0, .int .i64 0, .int .i64 0, .int .i64 0, .int .i64 0, .int .i64 0, .int .i64 0, .int .i64 0, .int .i64 0, .int .i64 0, .int .i64 0, .int .i64 0, .slice none 0 0] 28 (by simp [World.drew]))
      replace BE := Lib.hid (Bx.bel_box BE.out (Obj.cells #[.int .i64 0, .int .i64 0, .int .i64 0, .int .i64 0, .int .i64 0, .int .i64 0, .int .i64 0, .int .i64 0, .int .i64 0, .int .i64 0, .int .i64 0, .int .i64 0, .int .i64 0, .int .i64 0, .int .i64 0, .int .i64 0, .slice none 0 0] 28))
      replace ZZ := Lib.hid (fun j => show ((W0.alloc (Obj.cells #[.int .u64 0, .int .u64 0, .bool false, .int .i64 0, .int .i64 0, .int .i64 0, .string ⟨#[]⟩] 32)).drew.alloc (Obj.cells #[.int .i64 0, .int .i64 0, .int .i64 0, .int .i64 0, .int .i64 0, .int .i64 0, .int .i64 0, .int .i64 0, .int .i64 0, .int .i64 0, .int .i64 0, .int .i64 0, .int .i64 0, .int .i64 0, .int .i64 0, .int .i64 0, .slice none 0 0] 28)).frozen? ⟨W0.heap.size, j, none⟩ = false from (frozen_old (W0.alloc (Obj.cells #[.int .u64 0, .int .u64 0, .bool false, .int .i64 0, .int .i64 0, .int .i64 0, .string ⟨#[]⟩] 32)).drew (Obj.cells #[.int .i64 0, .int .i64 0, .int .i64 0, .int .i64 0, .int .i64 0, .int .i64 0, .int .i64 0, .int .i64 0, .int .i64 0, .int .i64 0, .int .i64 0, .int .i64 0, .int .i64 0, .int .i64 0, .int .i64 0, .int .i64 0, .slice none 0 0] 28) (by simp [World.drew]) j).trans (ZZ.out j))
      refine wpAnyH_ready (rs := [6]) (by kernel_rfl) (by simp) ?_
      refine AllReadyH.cons (o := ?o6b) ?hi6b ?hst6b AllReadyH.nil
      case hi6b => (simp only [List.getElem?_toArray, List.getElem?_cons_succ, List.getElem?_cons_zero]; rfl)
      intro K hK
      rw [if_pos (by rfl)]
      refine wp_store_plan _ _ rfl (W0.heap.size + 1) [.int .i64 0, .int .i64 0, .int .i64 0, .int .i64 0, .int .i64 0, .int .i64 0, .int .i64 0, .int .i64 0, .int .i64 0, .int .i64 0, .int .i64 0, .int .i64 0, .int .i64 0, .int .i64 0, .int .i64 0, .int .i64 0, .slice none 0 0] rfl o k AP n c rfl rfl NP.out ?_
      refine hK.out _ _ (Bx.Blk.apart hHeld (by omega)) (fun hNew => ?_)
      clear hHeld
      have hHeld := hNew
      clear hNew hK K
      replace NP := Lib.hid (NP.out.put (m := (Mem.pc o k AP n c)) rfl)
      replace NF := Lib.hid (NF.out.apart (k' := W0.heap.size + 1) (m := (Mem.pc o k AP n c)) (by omega))
      replace BE := Lib.hid (Bx.bel_cells (k := W0.heap.size + 1) (m := (Mem.pc o k AP n c)) BE.out (Nat.le_succ _))
      refine wpAnyH_ready (rs := [7]) (by kernel_rfl) (by simp) ?_
      refine ready_frame (oi := ?o7b) (x := ?x7b) (y := ?y7b) ?hi7b ?hw7b ?ho7b (W0.heap.size) [.int .u64 0, .int .u64 0, .bool false, .int .i64 0, .int .i64 0, .int .i64 0, .string ⟨#[]⟩] rfl d s g p v t X ?hx7b ?hz7b NF.out (Bx.Blk.apart hHeld (by omega)) ?rest7b
      case hi7b => (simp only [List.getElem?_toArray, List.getElem?_cons_succ, List.getElem?_cons_zero]; rfl)
      case hw7b => rfl
      case ho7b => rfl
      case hx7b => rfl
      case hz7b => rfl
      replace hHeld := Bx.Blk.apart (k' := W0.heap.size) (m := (Mem.fc d s g p v t X)) hHeld (by omega)
      replace NF := Lib.hid (NF.out.put (m := (Mem.fc d s g p v t X)) rfl)
      replace NP := Lib.hid (NP.out.apart (k' := W0.heap.size) (m := (Mem.fc d s g p v t X)) (by omega))
      replace BE := Lib.hid (Bx.bel_cells (k := W0.heap.size) (m := (Mem.fc d s g p v t X)) BE.out (Nat.le_refl _))
      refine wpAnyH_done (by kernel_rfl) ?_ _
      refine NoPanic.normal ?_
      go_wp2_with fail
      go_meet
      exact ⟨W0.heap.size + 1, W0.heap.size, rfl, rfl, (Nat.le_succ _), (Nat.le_refl _), by omega, BE.out, NP.out.1, ⟨NF.out.1, NF.out.1.lt (by simp), fun j => by rw [frozen_cells, frozen_cells]; exact ZZ.out j⟩⟩
  case rest =>
    obtain ⟨m7, m8, rfl, rfl, hm7, hm8, n78, hb, P, FF⟩ := hcut
    have n7a : m7 ≠ w.heap.size + 1 ∧ w.heap.size ≤ m7 := by omega
    have n8a : m8 ≠ w.heap.size + 1 ∧ w.heap.size ≤ m8 := by omega
    replace bel := Bx.then_below bel hb
    replace BY := Lib.hid (BY.out.keep hb)
    replace P := Lib.hid P
    replace FF := Lib.hid FF
    clear hb BX hsz hm7 hm8
    have B0 := BY
    have B1 := P
    have B2 := Lib.hid FF.out.1
    clear BY P FF
    obtain ⟨c0_0, c0_1, c0_2⟩ := B0.out.all3
    obtain ⟨c2_0, c2_1, c2_2, c2_3, c2_4, c2_5, c2_6⟩ := B2.out.all7
    go_wp2_with (first | ((with_reducible refine Mem.load_at ?_ ?_ (m7) ?_ o k AP n c ?_ ?_); (· rfl); (· rfl); (· rfl); (· exact B1.out)))
    refine (HLG.out _ bel).mono ?_; rintro e w1 ⟨rfl, hb1⟩
    replace bel := Bx.then_below bel hb1
    replace B0 := Lib.hid (B0.out.keep hb1)
    replace B1 := Lib.hid (B1.out.keep hb1)
    replace B2 := Lib.hid (B2.out.keep hb1)
    clear hb1
    clear c0_0 c0_1 c0_2 c2_0 c2_1 c2_2 c2_3 c2_4 c2_5 c2_6
    obtain ⟨c0_0, c0_1, c0_2⟩ := B0.out.all3
    obtain ⟨c2_0, c2_1, c2_2, c2_3, c2_4, c2_5, c2_6⟩ := B2.out.all7
    go_wp2_with (first | ((with_reducible refine Mem.load_at ?_ ?_ (m7) ?_ o k AP n c ?_ ?_); (· rfl); (· rfl); (· rfl); (· exact B1.out)))
    refine (HRI.out _ bel).mono ?_; rintro e w2 ⟨rfl, hb2⟩
    replace bel := Bx.then_below bel hb2
    replace B0 := Lib.hid (B0.out.keep hb2)
    replace B1 := Lib.hid (B1.out.keep hb2)
    replace B2 := Lib.hid (B2.out.keep hb2)
    clear hb2
    clear c0_0 c0_1 c0_2 c2_0 c2_1 c2_2 c2_3 c2_4 c2_5 c2_6
    obtain ⟨c0_0, c0_1, c0_2⟩ := B0.out.all3
    obtain ⟨c2_0, c2_1, c2_2, c2_3, c2_4, c2_5, c2_6⟩ := B2.out.all7
    go_wp2_with (first | ((with_reducible refine Mem.load_at ?_ ?_ (m7) ?_ o k AP n c ?_ ?_); (· rfl); (· rfl); (· rfl); (· exact B1.out)))
    refine (HAW.out _ bel).mono ?_; rintro e w3 ⟨rfl, hb3⟩
    replace bel := Bx.then_below bel hb3
    replace B0 := Lib.hid (B0.out.keep hb3)
    replace B1 := Lib.hid (B1.out.keep hb3)
    replace B2 := Lib.hid (B2.out.keep hb3)
    clear hb3
    go_wp2_with (first | ((with_reducible refine Mem.load_at ?_ ?_ (m7) ?_ o k AP n c ?_ ?_); (· rfl); (· rfl); (· rfl); (· exact B1.out)))
    go_ret
    exact ⟨rfl, bel⟩

set_option maxRecDepth 100000 in
set_option maxHeartbeats 8000000 in
theorem only_ops (Lo : List Tab.Ev) (hlo : Lo.length ≤ maxLen) (A0 : Option Addr) (c0 : Nat) (o k : Nat → Int) (AP : Option Addr) (n c : Nat) (d s : Int) (g : Bool) (p v t : Int) (X : ByteArray) (q ln op : Int) (w : World) (hT : (60 : Int) < Lo.length)
    (HLG : Hid (∀ w', Below w.heap.size w w' → Calls Tryd.prog 6 #[Mem.pv o k AP n c] w' fun e w'' => e = .returned (.bool false) ∧ Below w'.heap.size w' w''))
    (HRI : Hid (∀ w', Below w.heap.size w w' → Calls Tryd.prog 18 #[Mem.pv o k AP n c] w' fun e w'' => e = .returned (.bool true) ∧ Below w'.heap.size w' w''))
    (HAW : Hid (∀ w', Below w.heap.size w w' → Calls Tryd.prog 8 #[] w' fun e w'' => e = .returned (.bool true) ∧ Below w'.heap.size w' w'')) :
    Calls Tryd.prog 4 #[.slice A0 Lo.length c0, xv o k AP n c d s g p v t X, .agg #[.int .i64 q, .int .i64 ln, .int .i64 op]] w fun e w' => e = .returned (.bool true) ∧ Below w.heap.size w w' := by
  have hlo' : Lo.length ≤ 9223372036854775807 := hlo
  go_enter Tryd.func4, Tryd.ntmps4
  go_wp2
  have BX := Lib.hid ((Bx.Blk.new w (xc o k AP n c d s g p v t X) 34).more (.cells #[.int .i64 q, .int .i64 ln, .int .i64 op] 36))
  have BY := Lib.hid (Bx.Blk.new_at (W := w.alloc (xo o k AP n c d s g p v t X)) (k := w.heap.size + 1) [.int .i64 q, .int .i64 ln, .int .i64 op] 36 (by simp))
  have bel := Bx.bel_box (Bx.box_below w (xo o k AP n c d s g p v t X)) (.cells #[.int .i64 q, .int .i64 ln, .int .i64 op] 36)
  have hsz : w.heap.size + 2 = ((w.alloc (xo o k AP n c d s g p v t X)).alloc (.cells #[.int .i64 q, .int .i64 ln, .int .i64 op] 36)).heap.size := by simp
  generalize hg : (w.alloc (xo o k AP n c d s g p v t X)).alloc (.cells #[.int .i64 q, .int .i64 ln, .int .i64 op] 36) = W0 at *
  clear hg
  go_cut [7, 8] (fun s7 s8 wx => ∃ m7 m8 : Nat, s7 = .pointer (some ⟨m7, 0, none⟩) ∧ s8 = .pointer (some ⟨m8, 0, none⟩) ∧ W0.heap.size ≤ m7 ∧ W0.heap.size ≤ m8 ∧ m7 ≠ m8 ∧ Below W0.heap.size W0 wx ∧ Bx.Blk wx m7 (Mem.pc o k AP n c) ∧ Bx.Fre wx m8 (Mem.fc d s g p v t X))
  case first =>
    refine wp_region_noPanic ?_
    refine wp_region_held_drew (S := fun w' => Bx.Blk w' w.heap.size (xc o k AP n c d s g p v t X)) (by kernel_rfl) (by exact BX.out) (fun hHeld => ?_)
    refine wpAnyH_take (i := 0) (oi := ?o0) (v := ?v0) ?hi0 (by kernel_rfl) (by kernel_rfl) (by kernel_rfl) (fun _ _ _ h => h) ?y0 (by assumption) ?r0
    case hi0 => (simp only [List.getElem?_toArray, List.getElem?_cons_zero]; rfl)
    case y0 => (refine Or.inl ⟨by rfl, ?_⟩; intro w' hSw; (try dsimp only at hSw); go_simp; (try with_reducible rfl))
    try simp only [Act.put, List.setIfInBounds_toArray, List.set_cons_zero, List.set_cons_succ]
    refine wpAnyH_take (i := 1) (oi := ?o1) (v := Mem.pv o k AP n c) ?hi1 (by kernel_rfl) (by kernel_rfl) (by kernel_rfl) (fun _ _ _ h => h) ?y1 (by assumption) ?r1
    case hi1 => (simp only [List.getElem?_toArray, List.getElem?_cons_succ, List.getElem?_cons_zero]; rfl)
    case y1 => (refine yields_plan rfl _ rfl w.heap.size rfl o k AP n c d s g p v t X ?_; intro w' hS; exact hS)
    try simp only [Act.put, List.setIfInBounds_toArray, List.set_cons_zero, List.set_cons_succ]
    refine wpAnyH_take (i := 2) (oi := ?o2) (v := ?v2) ?hi2 (by kernel_rfl) (by kernel_rfl) (by kernel_rfl) (fun _ _ _ h => h) ?y2 (by assumption) ?r2
    case hi2 => (simp only [List.getElem?_toArray, List.getElem?_cons_succ, List.getElem?_cons_zero]; rfl)
    case y2 => (refine Or.inl ⟨by rfl, ?_⟩; intro w' hSw; (try dsimp only at hSw); go_simp; (try with_reducible rfl))
    try simp only [Act.put, List.setIfInBounds_toArray, List.set_cons_zero, List.set_cons_succ]
    refine wpAnyH_take (i := 3) (oi := ?o3) (v := fr d s g p v t X) ?hi3 (by kernel_rfl) (by kernel_rfl) (by kernel_rfl) (fun _ _ _ h => h) ?y3 (by assumption) ?r3
    case hi3 => (simp only [List.getElem?_toArray, List.getElem?_cons_succ, List.getElem?_cons_zero]; rfl)
    case y3 => (refine yields_frame rfl _ rfl w.heap.size rfl o k AP n c d s g p v t X ?_; intro w' hS; exact hS)
    try simp only [Act.put, List.setIfInBounds_toArray, List.set_cons_zero, List.set_cons_succ]
    refine wpAnyH_ready (rs := [4, 5]) (by kernel_rfl) (by simp) ?_
    refine AllReadyH.cons (o := ?o4) ?hi4 ?hst4 (AllReadyH.cons (o := ?o5) ?hi5 ?hst5 AllReadyH.nil)
    case hi4 => (simp only [List.getElem?_toArray, List.getElem?_cons_succ, List.getElem?_cons_zero]; rfl)
    case hi5 => (simp only [List.getElem?_toArray, List.getElem?_cons_succ, List.getElem?_cons_zero]; rfl)
    case hst4 =>
      intro K hK
      go_simp
      refine hK.out _ _ (Bx.Blk.more hHeld _) (fun hNew => ?_)
      clear hHeld
      have hHeld := hNew
      clear hNew hK K
      have NP := Lib.hid (Bx.Own.new W0 [.int .i64 0, .int .i64 0, .int .i64 0, .int .i64 0, .int .i64 0, .int .i64 0, .int .i64 0, .int .i64 0, .int .i64 0, .int .i64 0, .int .i64 0, .int .i64 0, .int .i64 0, .int .i64 0, .int .i64 0, .int .i64 0, .slice none 0 0] 28).draw
      have BE := Lib.hid (Bx.bel_drewn (Bx.bel_box (Bx.bel_refl W0) (Obj.cells #[.int .i64 0, .int .i64 0, .int .i64 0, .int .i64 0, .int .i64 0, .int .i64 0, .int .i64 0, .int .i64 0, .int .i64 0, .int .i64 0, .int .i64 0, .int .i64 0, .int .i64 0, .int .i64 0, .int .i64 0, .int .i64 0, .slice none 0 0] 28)))
      refine wpAnyH_ready (rs := [5]) (by kernel_rfl) (by simp) ?_
      refine AllReadyH.cons (o := ?o5a) ?hi5a ?hst5a AllReadyH.nil
      case hi5a => (simp only [List.getElem?_toArray, List.getElem?_cons_succ, List.getElem?_cons_zero]; rfl)
      intro K hK
      go_simp
      refine hK.out _ _ (Bx.Blk.more hHeld _) (fun hNew => ?_)
      clear hHeld
      have hHeld := hNew
      clear hNew hK K
      replace NP := Lib.hid (NP.out.more (Obj.cells #[.int .u64 0, .int .u64 0, .bool false, .int .i64 0, .int .i64 0, .int .i64 0, .string ⟨#[]⟩] 32))
      have NF := Lib.hid (Bx.Own.new_at (W := (W0.alloc (Obj.cells #[.int .i64 0, .int .i64 0, .int .i64 0, .int .i64 0, .int .i64 0, .int .i64 0, .int .i64 0, .int .i64 0, .int .i64 0, .int .i64 0, .int .i64 0, .int .i64 0, .int .i64 0, .int .i64 0, .int .i64 0, .int .i64 0, .slice none 0 0] 28)).drew) (k := W0.heap.size + 1) [.int .u64 0, .int .u64 0, .bool false, .int .i64 0, .int .i64 0, .int .i64 0, .string ⟨#[]⟩] 32 (by simp [World.drew]))
      replace BE := Lib.hid (Bx.bel_box BE.out (Obj.cells #[.int .u64 0, .int .u64 0, .bool false, .int .i64 0, .int .i64 0, .int .i64 0, .string ⟨#[]⟩] 32))
      have ZZ := Lib.hid (fun j => show ((W0.alloc (Obj.cells #[.int .i64 0, .int .i64 0, .int .i64 0, .int .i64 0, .int .i64 0, .int .i64 0, .int .i64 0, .int .i64 0, .int .i64 0, .int .i64 0, .int .i64 0, .int .i64 0, .int .i64 0, .int .i64 0, .int .i64 0, .int .i64 0, .slice none 0 0] 28)).drew.alloc (Obj.cells #[.int .u64 0, .int .u64 0, .bool false, .int .i64 0, .int .i64 0, .int .i64 0, .string ⟨#[]⟩] 32)).frozen? ⟨W0.heap.size + 1, j, none⟩ = false from frozen_at (W0.alloc (Obj.cells #[.int .i64 0, .int .i64 0, .int .i64 0, .int .i64 0, .int .i64 0, .int .i64 0, .int .i64 0, .int .i64 0, .int .i64 0, .int .i64 0, .int .i64 0, .int .i64 0, .int .i64 0, .int .i64 0, .int .i64 0, .int .i64 0, .slice none 0 0] 28)).drew #[.int .u64 0, .int .u64 0, .bool false, .int .i64 0, .int .i64 0, .int .i64 0, .string ⟨#[]⟩] 32 (by simp [World.drew]) j)
      refine wpAnyH_ready (rs := [6]) (by kernel_rfl) (by simp) ?_
      refine AllReadyH.cons (o := ?o6a) ?hi6a ?hst6a AllReadyH.nil
      case hi6a => (simp only [List.getElem?_toArray, List.getElem?_cons_succ, List.getElem?_cons_zero]; rfl)
      intro K hK
      rw [if_pos (by rfl)]
      refine wp_store_plan _ _ rfl (W0.heap.size) [.int .i64 0, .int .i64 0, .int .i64 0, .int .i64 0, .int .i64 0, .int .i64 0, .int .i64 0, .int .i64 0, .int .i64 0, .int .i64 0, .int .i64 0, .int .i64 0, .int .i64 0, .int .i64 0, .int .i64 0, .int .i64 0, .slice none 0 0] rfl o k AP n c rfl rfl NP.out ?_
      refine hK.out _ _ (Bx.Blk.apart hHeld (by omega)) (fun hNew => ?_)
      clear hHeld
      have hHeld := hNew
      clear hNew hK K
      replace NP := Lib.hid (NP.out.put (m := (Mem.pc o k AP n c)) rfl)
      replace NF := Lib.hid (NF.out.apart (k' := W0.heap.size) (m := (Mem.pc o k AP n c)) (by omega))
      replace BE := Lib.hid (Bx.bel_cells (k := W0.heap.size) (m := (Mem.pc o k AP n c)) BE.out (Nat.le_refl _))
      refine wpAnyH_ready (rs := [7]) (by kernel_rfl) (by simp) ?_
      refine ready_frame (oi := ?o7a) (x := ?x7a) (y := ?y7a) ?hi7a ?hw7a ?ho7a (W0.heap.size + 1) [.int .u64 0, .int .u64 0, .bool false, .int .i64 0, .int .i64 0, .int .i64 0, .string ⟨#[]⟩] rfl d s g p v t X ?hx7a ?hz7a NF.out (Bx.Blk.apart hHeld (by omega)) ?rest7a
      case hi7a => (simp only [List.getElem?_toArray, List.getElem?_cons_succ, List.getElem?_cons_zero]; rfl)
      case hw7a => rfl
      case ho7a => rfl
      case hx7a => rfl
      case hz7a => rfl
      replace hHeld := Bx.Blk.apart (k' := W0.heap.size + 1) (m := (Mem.fc d s g p v t X)) hHeld (by omega)
      replace NF := Lib.hid (NF.out.put (m := (Mem.fc d s g p v t X)) rfl)
      replace NP := Lib.hid (NP.out.apart (k' := W0.heap.size + 1) (m := (Mem.fc d s g p v t X)) (by omega))
      replace BE := Lib.hid (Bx.bel_cells (k := W0.heap.size + 1) (m := (Mem.fc d s g p v t X)) BE.out (Nat.le_succ _))
      refine wpAnyH_done (by kernel_rfl) ?_ _
      refine NoPanic.normal ?_
      go_wp2_with fail
      go_meet
      exact ⟨W0.heap.size, W0.heap.size + 1, rfl, rfl, (Nat.le_refl _), (Nat.le_succ _), by omega, BE.out, NP.out.1, ⟨NF.out.1, NF.out.1.lt (by simp), fun j => by rw [frozen_cells, frozen_cells]; exact ZZ.out j⟩⟩
    case hst5 =>
      intro K hK
      go_simp
      refine hK.out _ _ (Bx.Blk.more hHeld _) (fun hNew => ?_)
      clear hHeld
      have hHeld := hNew
      clear hNew hK K
      have NF := Lib.hid (Bx.Own.new W0 [.int .u64 0, .int .u64 0, .bool false, .int .i64 0, .int .i64 0, .int .i64 0, .string ⟨#[]⟩] 32).draw
      have BE := Lib.hid (Bx.bel_drewn (Bx.bel_box (Bx.bel_refl W0) (Obj.cells #[.int .u64 0, .int .u64 0, .bool false, .int .i64 0, .int .i64 0, .int .i64 0, .string ⟨#[]⟩] 32)))
      have ZZ := Lib.hid (fun j => show (W0.alloc (Obj.cells #[.int .u64 0, .int .u64 0, .bool false, .int .i64 0, .int .i64 0, .int .i64 0, .string ⟨#[]⟩] 32)).drew.frozen? ⟨W0.heap.size, j, none⟩ = false from World.frozen?_alloc_new W0 #[.int .u64 0, .int .u64 0, .bool false, .int .i64 0, .int .i64 0, .int .i64 0, .string ⟨#[]⟩] 32 j)
      refine wpAnyH_ready (rs := [4]) (by kernel_rfl) (by simp) ?_
      refine AllReadyH.cons (o := ?o4b) ?hi4b ?hst4b AllReadyH.nil
      case hi4b => (simp only [List.getElem?_toArray, List.getElem?_cons_succ, List.getElem?_cons_zero]; rfl)
      intro K hK
      go_simp
      refine hK.out _ _ (Bx.Blk.more hHeld _) (fun hNew => ?_)
      clear hHeld
      have hHeld := hNew
      clear hNew hK K
      replace NF := Lib.hid (NF.out.more (Obj.cells #[.int .i64 0, .int .i64 0, .int .i64 0, .int .i64 0, .int .i64 0, .int .i64 0, .int .i64 0, .int .i64 0, .int .i64 0, .int .i64 0, .int .i64 0, .int .i64 0, .int .i64 0, .int .i64 0, .int .i64 0, .int .i64 0, .slice none 0 0] 28))
      have NP := Lib.hid (Bx.Own.new_at (W := (W0.alloc (Obj.cells #[.int .u64 0, .int .u64 0, .bool false, .int .i64 0, .int .i64 0, .int .i64 0, .string ⟨#[]⟩] 32)).drew) (k := W0.heap.size + 1) [.int .i64 0, .int .i64 0, .int .i64 0, .int .i64 0, .int .i64 0, .int .i64 0, .int .i64 0, .int .i64 0, .int .i64 0, .int .i64 0, .int .i64 0, .int .i64 0, .int .i64 0, .int .i64 0, .int .i64 0, .int .i64 0, .slice none 0 0] 28 (by simp [World.drew]))
      replace BE := Lib.hid (Bx.bel_box BE.out (Obj.cells #[.int .i64 0, .int .i64 0, .int .i64 0, .int .i64 0, .int .i64 0, .int .i64 0, .int .i64 0, .int .i64 0, .int .i64 0, .int .i64 0, .int .i64 0, .int .i64 0, .int .i64 0, .int .i64 0, .int .i64 0, .int .i64 0, .slice none 0 0] 28))
      replace ZZ := Lib.hid (fun j => show ((W0.alloc (Obj.cells #[.int .u64 0, .int .u64 0, .bool false, .int .i64 0, .int .i64 0, .int .i64 0, .string ⟨#[]⟩] 32)).drew.alloc (Obj.cells #[.int .i64 0, .int .i64 0, .int .i64 0, .int .i64 0, .int .i64 0, .int .i64 0, .int .i64 0, .int .i64 0, .int .i64 0, .int .i64 0, .int .i64 0, .int .i64 0, .int .i64 0, .int .i64 0, .int .i64 0, .int .i64 0, .slice none 0 0] 28)).frozen? ⟨W0.heap.size, j, none⟩ = false from (frozen_old (W0.alloc (Obj.cells #[.int .u64 0, .int .u64 0, .bool false, .int .i64 0, .int .i64 0, .int .i64 0, .string ⟨#[]⟩] 32)).drew (Obj.cells #[.int .i64 0, .int .i64 0, .int .i64 0, .int .i64 0, .int .i64 0, .int .i64 0, .int .i64 0, .int .i64 0, .int .i64 0, .int .i64 0, .int .i64 0, .int .i64 0, .int .i64 0, .int .i64 0, .int .i64 0, .int .i64 0, .slice none 0 0] 28) (by simp [World.drew]) j).trans (ZZ.out j))
      refine wpAnyH_ready (rs := [6]) (by kernel_rfl) (by simp) ?_
      refine AllReadyH.cons (o := ?o6b) ?hi6b ?hst6b AllReadyH.nil
      case hi6b => (simp only [List.getElem?_toArray, List.getElem?_cons_succ, List.getElem?_cons_zero]; rfl)
      intro K hK
      rw [if_pos (by rfl)]
      refine wp_store_plan _ _ rfl (W0.heap.size + 1) [.int .i64 0, .int .i64 0, .int .i64 0, .int .i64 0, .int .i64 0, .int .i64 0, .int .i64 0, .int .i64 0, .int .i64 0, .int .i64 0, .int .i64 0, .int .i64 0, .int .i64 0, .int .i64 0, .int .i64 0, .int .i64 0, .slice none 0 0] rfl o k AP n c rfl rfl NP.out ?_
      refine hK.out _ _ (Bx.Blk.apart hHeld (by omega)) (fun hNew => ?_)
      clear hHeld
      have hHeld := hNew
      clear hNew hK K
      replace NP := Lib.hid (NP.out.put (m := (Mem.pc o k AP n c)) rfl)
      replace NF := Lib.hid (NF.out.apart (k' := W0.heap.size + 1) (m := (Mem.pc o k AP n c)) (by omega))
      replace BE := Lib.hid (Bx.bel_cells (k := W0.heap.size + 1) (m := (Mem.pc o k AP n c)) BE.out (Nat.le_succ _))
      refine wpAnyH_ready (rs := [7]) (by kernel_rfl) (by simp) ?_
      refine ready_frame (oi := ?o7b) (x := ?x7b) (y := ?y7b) ?hi7b ?hw7b ?ho7b (W0.heap.size) [.int .u64 0, .int .u64 0, .bool false, .int .i64 0, .int .i64 0, .int .i64 0, .string ⟨#[]⟩] rfl d s g p v t X ?hx7b ?hz7b NF.out (Bx.Blk.apart hHeld (by omega)) ?rest7b
      case hi7b => (simp only [List.getElem?_toArray, List.getElem?_cons_succ, List.getElem?_cons_zero]; rfl)
      case hw7b => rfl
      case ho7b => rfl
      case hx7b => rfl
      case hz7b => rfl
      replace hHeld := Bx.Blk.apart (k' := W0.heap.size) (m := (Mem.fc d s g p v t X)) hHeld (by omega)
      replace NF := Lib.hid (NF.out.put (m := (Mem.fc d s g p v t X)) rfl)
      replace NP := Lib.hid (NP.out.apart (k' := W0.heap.size) (m := (Mem.fc d s g p v t X)) (by omega))
      replace BE := Lib.hid (Bx.bel_cells (k := W0.heap.size) (m := (Mem.fc d s g p v t X)) BE.out (Nat.le_refl _))
      refine wpAnyH_done (by kernel_rfl) ?_ _
      refine NoPanic.normal ?_
      go_wp2_with fail
      go_meet
      exact ⟨W0.heap.size + 1, W0.heap.size, rfl, rfl, (Nat.le_succ _), (Nat.le_refl _), by omega, BE.out, NP.out.1, ⟨NF.out.1, NF.out.1.lt (by simp), fun j => by rw [frozen_cells, frozen_cells]; exact ZZ.out j⟩⟩
  case rest =>
    obtain ⟨m7, m8, rfl, rfl, hm7, hm8, n78, hb, P, FF⟩ := hcut
    have n7a : m7 ≠ w.heap.size + 1 ∧ w.heap.size ≤ m7 := by omega
    have n8a : m8 ≠ w.heap.size + 1 ∧ w.heap.size ≤ m8 := by omega
    replace bel := Bx.then_below bel hb
    replace BY := Lib.hid (BY.out.keep hb)
    replace P := Lib.hid P
    replace FF := Lib.hid FF
    clear hb BX hsz hm7 hm8
    have B0 := BY
    have B1 := P
    have B2 := Lib.hid FF.out.1
    clear BY P FF
    obtain ⟨c0_0, c0_1, c0_2⟩ := B0.out.all3
    obtain ⟨c2_0, c2_1, c2_2, c2_3, c2_4, c2_5, c2_6⟩ := B2.out.all7
    go_wp2_with (first | ((with_reducible refine Mem.load_at ?_ ?_ (m7) ?_ o k AP n c ?_ ?_); (· rfl); (· rfl); (· rfl); (· exact B1.out)))
    refine (HLG.out _ bel).mono ?_; rintro e w1 ⟨rfl, hb1⟩
    replace bel := Bx.then_below bel hb1
    replace B0 := Lib.hid (B0.out.keep hb1)
    replace B1 := Lib.hid (B1.out.keep hb1)
    replace B2 := Lib.hid (B2.out.keep hb1)
    clear hb1
    clear c0_0 c0_1 c0_2 c2_0 c2_1 c2_2 c2_3 c2_4 c2_5 c2_6
    obtain ⟨c0_0, c0_1, c0_2⟩ := B0.out.all3
    obtain ⟨c2_0, c2_1, c2_2, c2_3, c2_4, c2_5, c2_6⟩ := B2.out.all7
    go_wp2_with (first | ((with_reducible refine Mem.load_at ?_ ?_ (m7) ?_ o k AP n c ?_ ?_); (· rfl); (· rfl); (· rfl); (· exact B1.out)))
    refine (HRI.out _ bel).mono ?_; rintro e w2 ⟨rfl, hb2⟩
    replace bel := Bx.then_below bel hb2
    replace B0 := Lib.hid (B0.out.keep hb2)
    replace B1 := Lib.hid (B1.out.keep hb2)
    replace B2 := Lib.hid (B2.out.keep hb2)
    clear hb2
    clear c0_0 c0_1 c0_2 c2_0 c2_1 c2_2 c2_3 c2_4 c2_5 c2_6
    obtain ⟨c0_0, c0_1, c0_2⟩ := B0.out.all3
    obtain ⟨c2_0, c2_1, c2_2, c2_3, c2_4, c2_5, c2_6⟩ := B2.out.all7
    go_wp2_with (first | ((with_reducible refine Mem.load_at ?_ ?_ (m7) ?_ o k AP n c ?_ ?_); (· rfl); (· rfl); (· rfl); (· exact B1.out)))
    refine (HAW.out _ bel).mono ?_; rintro e w3 ⟨rfl, hb3⟩
    replace bel := Bx.then_below bel hb3
    replace B0 := Lib.hid (B0.out.keep hb3)
    replace B1 := Lib.hid (B1.out.keep hb3)
    replace B2 := Lib.hid (B2.out.keep hb3)
    clear hb3
    go_wp2_with (first | ((with_reducible refine Mem.load_at ?_ ?_ (m7) ?_ o k AP n c ?_ ?_); (· rfl); (· rfl); (· rfl); (· exact B1.out)))
    go_ret
    exact ⟨rfl, bel⟩

set_option maxRecDepth 100000 in
set_option maxHeartbeats 8000000 in
theorem only_body (Lo : List Tab.Ev) (hlo : Lo.length ≤ maxLen) (A0 : Option Addr) (c0 : Nat) (o k : Nat → Int) (AP : Option Addr) (n c : Nat) (d s : Int) (g : Bool) (p v t : Int) (X : ByteArray) (q ln op : Int) (w : World) (hT : ¬ (60 : Int) < Lo.length) (hX : 12000 < X.size)
    (HLG : Hid (∀ w', Below w.heap.size w w' → Calls Tryd.prog 6 #[Mem.pv o k AP n c] w' fun e w'' => e = .returned (.bool false) ∧ Below w'.heap.size w' w''))
    (HRI : Hid (∀ w', Below w.heap.size w w' → Calls Tryd.prog 18 #[Mem.pv o k AP n c] w' fun e w'' => e = .returned (.bool true) ∧ Below w'.heap.size w' w''))
    (HAW : Hid (∀ w', Below w.heap.size w w' → Calls Tryd.prog 8 #[] w' fun e w'' => e = .returned (.bool true) ∧ Below w'.heap.size w' w'')) :
    Calls Tryd.prog 4 #[.slice A0 Lo.length c0, xv o k AP n c d s g p v t X, .agg #[.int .i64 q, .int .i64 ln, .int .i64 op]] w fun e w' => e = .returned (.bool true) ∧ Below w.heap.size w w' := by
  have hlo' : Lo.length ≤ 9223372036854775807 := hlo
  go_enter Tryd.func4, Tryd.ntmps4
  go_wp2
  have BX := Lib.hid ((Bx.Blk.new w (xc o k AP n c d s g p v t X) 34).more (.cells #[.int .i64 q, .int .i64 ln, .int .i64 op] 36))
  have BY := Lib.hid (Bx.Blk.new_at (W := w.alloc (xo o k AP n c d s g p v t X)) (k := w.heap.size + 1) [.int .i64 q, .int .i64 ln, .int .i64 op] 36 (by simp))
  have bel := Bx.bel_box (Bx.box_below w (xo o k AP n c d s g p v t X)) (.cells #[.int .i64 q, .int .i64 ln, .int .i64 op] 36)
  have hsz : w.heap.size + 2 = ((w.alloc (xo o k AP n c d s g p v t X)).alloc (.cells #[.int .i64 q, .int .i64 ln, .int .i64 op] 36)).heap.size := by simp
  generalize hg : (w.alloc (xo o k AP n c d s g p v t X)).alloc (.cells #[.int .i64 q, .int .i64 ln, .int .i64 op] 36) = W0 at *
  clear hg
  go_cut [7, 8] (fun s7 s8 wx => ∃ m7 m8 : Nat, s7 = .pointer (some ⟨m7, 0, none⟩) ∧ s8 = .pointer (some ⟨m8, 0, none⟩) ∧ W0.heap.size ≤ m7 ∧ W0.heap.size ≤ m8 ∧ m7 ≠ m8 ∧ Below W0.heap.size W0 wx ∧ Bx.Blk wx m7 (Mem.pc o k AP n c) ∧ Bx.Fre wx m8 (Mem.fc d s g p v t X))
  case first =>
    refine wp_region_noPanic ?_
    refine wp_region_held_drew (S := fun w' => Bx.Blk w' w.heap.size (xc o k AP n c d s g p v t X)) (by kernel_rfl) (by exact BX.out) (fun hHeld => ?_)
    refine wpAnyH_take (i := 0) (oi := ?o0) (v := ?v0) ?hi0 (by kernel_rfl) (by kernel_rfl) (by kernel_rfl) (fun _ _ _ h => h) ?y0 (by assumption) ?r0
    case hi0 => (simp only [List.getElem?_toArray, List.getElem?_cons_zero]; rfl)
    case y0 => (refine Or.inl ⟨by rfl, ?_⟩; intro w' hSw; (try dsimp only at hSw); go_simp; (try with_reducible rfl))
    try simp only [Act.put, List.setIfInBounds_toArray, List.set_cons_zero, List.set_cons_succ]
    refine wpAnyH_take (i := 1) (oi := ?o1) (v := Mem.pv o k AP n c) ?hi1 (by kernel_rfl) (by kernel_rfl) (by kernel_rfl) (fun _ _ _ h => h) ?y1 (by assumption) ?r1
    case hi1 => (simp only [List.getElem?_toArray, List.getElem?_cons_succ, List.getElem?_cons_zero]; rfl)
    case y1 => (refine yields_plan rfl _ rfl w.heap.size rfl o k AP n c d s g p v t X ?_; intro w' hS; exact hS)
    try simp only [Act.put, List.setIfInBounds_toArray, List.set_cons_zero, List.set_cons_succ]
    refine wpAnyH_take (i := 2) (oi := ?o2) (v := ?v2) ?hi2 (by kernel_rfl) (by kernel_rfl) (by kernel_rfl) (fun _ _ _ h => h) ?y2 (by assumption) ?r2
    case hi2 => (simp only [List.getElem?_toArray, List.getElem?_cons_succ, List.getElem?_cons_zero]; rfl)
    case y2 => (refine Or.inl ⟨by rfl, ?_⟩; intro w' hSw; (try dsimp only at hSw); go_simp; (try with_reducible rfl))
    try simp only [Act.put, List.setIfInBounds_toArray, List.set_cons_zero, List.set_cons_succ]
    refine wpAnyH_take (i := 3) (oi := ?o3) (v := fr d s g p v t X) ?hi3 (by kernel_rfl) (by kernel_rfl) (by kernel_rfl) (fun _ _ _ h => h) ?y3 (by assumption) ?r3
    case hi3 => (simp only [List.getElem?_toArray, List.getElem?_cons_succ, List.getElem?_cons_zero]; rfl)
    case y3 => (refine yields_frame rfl _ rfl w.heap.size rfl o k AP n c d s g p v t X ?_; intro w' hS; exact hS)
    try simp only [Act.put, List.setIfInBounds_toArray, List.set_cons_zero, List.set_cons_succ]
    refine wpAnyH_ready (rs := [4, 5]) (by kernel_rfl) (by simp) ?_
    refine AllReadyH.cons (o := ?o4) ?hi4 ?hst4 (AllReadyH.cons (o := ?o5) ?hi5 ?hst5 AllReadyH.nil)
    case hi4 => (simp only [List.getElem?_toArray, List.getElem?_cons_succ, List.getElem?_cons_zero]; rfl)
    case hi5 => (simp only [List.getElem?_toArray, List.getElem?_cons_succ, List.getElem?_cons_zero]; rfl)
    case hst4 =>
      intro K hK
      go_simp
      refine hK.out _ _ (Bx.Blk.more hHeld _) (fun hNew => ?_)
      clear hHeld
      have hHeld := hNew
      clear hNew hK K
      have NP := Lib.hid (Bx.Own.new W0 [.int .i64 0, .int .i64 0, .int .i64 0, .int .i64 0, .int .i64 0, .int .i64 0, .int .i64 0, .int .i64 0, .int .i64 0, .int .i64 0, .int .i64 0, .int .i64 0, .int .i64 0, .int .i64 0, .int .i64 0, .int .i64 0, .slice none 0 0] 28).draw
      have BE := Lib.hid (Bx.bel_drewn (Bx.bel_box (Bx.bel_refl W0) (Obj.cells #[.int .i64 0, .int .i64 0, .int .i64 0, .int .i64 0, .int .i64 0, .int .i64 0, .int .i64 0, .int .i64 0, .int .i64 0, .int .i64 0, .int .i64 0, .int .i64 0, .int .i64 0, .int .i64 0, .int .i64 0, .int .i64 0, .slice none 0 0] 28)))
      refine wpAnyH_ready (rs := [5]) (by kernel_rfl) (by simp) ?_
      refine AllReadyH.cons (o := ?o5a) ?hi5a ?hst5a AllReadyH.nil
      case hi5a => (simp only [List.getElem?_toArray, List.getElem?_cons_succ, List.getElem?_cons_zero]; rfl)
      intro K hK
      go_simp
      refine hK.out _ _ (Bx.Blk.more hHeld _) (fun hNew => ?_)
      clear hHeld
      have hHeld := hNew
      clear hNew hK K
      replace NP := Lib.hid (NP.out.more (Obj.cells #[.int .u64 0, .int .u64 0, .bool false, .int .i64 0, .int .i64 0, .int .i64 0, .string ⟨#[]⟩] 32))
      have NF := Lib.hid (Bx.Own.new_at (W := (W0.alloc (Obj.cells #[.int .i64 0, .int .i64 0, .int .i64 0, .int .i64 0, .int .i64 0, .int .i64 0, .int .i64 0, .int .i64 0, .int .i64 0, .int .i64 0, .int .i64 0, .int .i64 0, .int .i64 0, .int .i64 0, .int .i64 0, .int .i64 0, .slice none 0 0] 28)).drew) (k := W0.heap.size + 1) [.int .u64 0, .int .u64 0, .bool false, .int .i64 0, .int .i64 0, .int .i64 0, .string ⟨#[]⟩] 32 (by simp [World.drew]))
      replace BE := Lib.hid (Bx.bel_box BE.out (Obj.cells #[.int .u64 0, .int .u64 0, .bool false, .int .i64 0, .int .i64 0, .int .i64 0, .string ⟨#[]⟩] 32))
      have ZZ := Lib.hid (fun j => show ((W0.alloc (Obj.cells #[.int .i64 0, .int .i64 0, .int .i64 0, .int .i64 0, .int .i64 0, .int .i64 0, .int .i64 0, .int .i64 0, .int .i64 0, .int .i64 0, .int .i64 0, .int .i64 0, .int .i64 0, .int .i64 0, .int .i64 0, .int .i64 0, .slice none 0 0] 28)).drew.alloc (Obj.cells #[.int .u64 0, .int .u64 0, .bool false, .int .i64 0, .int .i64 0, .int .i64 0, .string ⟨#[]⟩] 32)).frozen? ⟨W0.heap.size + 1, j, none⟩ = false from frozen_at (W0.alloc (Obj.cells #[.int .i64 0, .int .i64 0, .int .i64 0, .int .i64 0, .int .i64 0, .int .i64 0, .int .i64 0, .int .i64 0, .int .i64 0, .int .i64 0, .int .i64 0, .int .i64 0, .int .i64 0, .int .i64 0, .int .i64 0, .int .i64 0, .slice none 0 0] 28)).drew #[.int .u64 0, .int .u64 0, .bool false, .int .i64 0, .int .i64 0, .int .i64 0, .string ⟨#[]⟩] 32 (by simp [World.drew]) j)
      refine wpAnyH_ready (rs := [6]) (by kernel_rfl) (by simp) ?_
      refine AllReadyH.cons (o := ?o6a) ?hi6a ?hst6a AllReadyH.nil
      case hi6a => (simp only [List.getElem?_toArray, List.getElem?_cons_succ, List.getElem?_cons_zero]; rfl)
      intro K hK
      rw [if_pos (by rfl)]
      refine wp_store_plan _ _ rfl (W0.heap.size) [.int .i64 0, .int .i64 0, .int .i64 0, .int .i64 0, .int .i64 0, .int .i64 0, .int .i64 0, .int .i64 0, .int .i64 0, .int .i64 0, .int .i64 0, .int .i64 0, .int .i64 0, .int .i64 0, .int .i64 0, .int .i64 0, .slice none 0 0] rfl o k AP n c rfl rfl NP.out ?_
      refine hK.out _ _ (Bx.Blk.apart hHeld (by omega)) (fun hNew => ?_)
      clear hHeld
      have hHeld := hNew
      clear hNew hK K
      replace NP := Lib.hid (NP.out.put (m := (Mem.pc o k AP n c)) rfl)
      replace NF := Lib.hid (NF.out.apart (k' := W0.heap.size) (m := (Mem.pc o k AP n c)) (by omega))
      replace BE := Lib.hid (Bx.bel_cells (k := W0.heap.size) (m := (Mem.pc o k AP n c)) BE.out (Nat.le_refl _))
      refine wpAnyH_ready (rs := [7]) (by kernel_rfl) (by simp) ?_
      refine ready_frame (oi := ?o7a) (x := ?x7a) (y := ?y7a) ?hi7a ?hw7a ?ho7a (W0.heap.size + 1) [.int .u64 0, .int .u64 0, .bool false, .int .i64 0, .int .i64 0, .int .i64 0, .string ⟨#[]⟩] rfl d s g p v t X ?hx7a ?hz7a NF.out (Bx.Blk.apart hHeld (by omega)) ?rest7a
      case hi7a => (simp only [List.getElem?_toArray, List.getElem?_cons_succ, List.getElem?_cons_zero]; rfl)
      case hw7a => rfl
      case ho7a => rfl
      case hx7a => rfl
      case hz7a => rfl
      replace hHeld := Bx.Blk.apart (k' := W0.heap.size + 1) (m := (Mem.fc d s g p v t X)) hHeld (by omega)
      replace NF := Lib.hid (NF.out.put (m := (Mem.fc d s g p v t X)) rfl)
      replace NP := Lib.hid (NP.out.apart (k' := W0.heap.size + 1) (m := (Mem.fc d s g p v t X)) (by omega))
      replace BE := Lib.hid (Bx.bel_cells (k := W0.heap.size + 1) (m := (Mem.fc d s g p v t X)) BE.out (Nat.le_succ _))
      refine wpAnyH_done (by kernel_rfl) ?_ _
      refine NoPanic.normal ?_
      go_wp2_with fail
      go_meet
      exact ⟨W0.heap.size, W0.heap.size + 1, rfl, rfl, (Nat.le_refl _), (Nat.le_succ _), by omega, BE.out, NP.out.1, ⟨NF.out.1, NF.out.1.lt (by simp), fun j => by rw [frozen_cells, frozen_cells]; exact ZZ.out j⟩⟩
    case hst5 =>
      intro K hK
      go_simp
      refine hK.out _ _ (Bx.Blk.more hHeld _) (fun hNew => ?_)
      clear hHeld
      have hHeld := hNew
      clear hNew hK K
      have NF := Lib.hid (Bx.Own.new W0 [.int .u64 0, .int .u64 0, .bool false, .int .i64 0, .int .i64 0, .int .i64 0, .string ⟨#[]⟩] 32).draw
      have BE := Lib.hid (Bx.bel_drewn (Bx.bel_box (Bx.bel_refl W0) (Obj.cells #[.int .u64 0, .int .u64 0, .bool false, .int .i64 0, .int .i64 0, .int .i64 0, .string ⟨#[]⟩] 32)))
      have ZZ := Lib.hid (fun j => show (W0.alloc (Obj.cells #[.int .u64 0, .int .u64 0, .bool false, .int .i64 0, .int .i64 0, .int .i64 0, .string ⟨#[]⟩] 32)).drew.frozen? ⟨W0.heap.size, j, none⟩ = false from World.frozen?_alloc_new W0 #[.int .u64 0, .int .u64 0, .bool false, .int .i64 0, .int .i64 0, .int .i64 0, .string ⟨#[]⟩] 32 j)
      refine wpAnyH_ready (rs := [4]) (by kernel_rfl) (by simp) ?_
      refine AllReadyH.cons (o := ?o4b) ?hi4b ?hst4b AllReadyH.nil
      case hi4b => (simp only [List.getElem?_toArray, List.getElem?_cons_succ, List.getElem?_cons_zero]; rfl)
      intro K hK
      go_simp
      refine hK.out _ _ (Bx.Blk.more hHeld _) (fun hNew => ?_)
      clear hHeld
      have hHeld := hNew
      clear hNew hK K
      replace NF := Lib.hid (NF.out.more (Obj.cells #[.int .i64 0, .int .i64 0, .int .i64 0, .int .i64 0, .int .i64 0, .int .i64 0, .int .i64 0, .int .i64 0, .int .i64 0, .int .i64 0, .int .i64 0, .int .i64 0, .int .i64 0, .int .i64 0, .int .i64 0, .int .i64 0, .slice none 0 0] 28))
      have NP := Lib.hid (Bx.Own.new_at (W := (W0.alloc (Obj.cells #[.int .u64 0, .int .u64 0, .bool false, .int .i64 0, .int .i64 0, .int .i64 0, .string ⟨#[]⟩] 32)).drew) (k := W0.heap.size + 1) [.int .i64 0, .int .i64 0, .int .i64 0, .int .i64 0, .int .i64 0, .int .i64 0, .int .i64 0, .int .i64 0, .int .i64 0, .int .i64 0, .int .i64 0, .int .i64 0, .int .i64 0, .int .i64 0, .int .i64 0, .int .i64 0, .slice none 0 0] 28 (by simp [World.drew]))
      replace BE := Lib.hid (Bx.bel_box BE.out (Obj.cells #[.int .i64 0, .int .i64 0, .int .i64 0, .int .i64 0, .int .i64 0, .int .i64 0, .int .i64 0, .int .i64 0, .int .i64 0, .int .i64 0, .int .i64 0, .int .i64 0, .int .i64 0, .int .i64 0, .int .i64 0, .int .i64 0, .slice none 0 0] 28))
      replace ZZ := Lib.hid (fun j => show ((W0.alloc (Obj.cells #[.int .u64 0, .int .u64 0, .bool false, .int .i64 0, .int .i64 0, .int .i64 0, .string ⟨#[]⟩] 32)).drew.alloc (Obj.cells #[.int .i64 0, .int .i64 0, .int .i64 0, .int .i64 0, .int .i64 0, .int .i64 0, .int .i64 0, .int .i64 0, .int .i64 0, .int .i64 0, .int .i64 0, .int .i64 0, .int .i64 0, .int .i64 0, .int .i64 0, .int .i64 0, .slice none 0 0] 28)).frozen? ⟨W0.heap.size, j, none⟩ = false from (frozen_old (W0.alloc (Obj.cells #[.int .u64 0, .int .u64 0, .bool false, .int .i64 0, .int .i64 0, .int .i64 0, .string ⟨#[]⟩] 32)).drew (Obj.cells #[.int .i64 0, .int .i64 0, .int .i64 0, .int .i64 0, .int .i64 0, .int .i64 0, .int .i64 0, .int .i64 0, .int .i64 0, .int .i64 0, .int .i64 0, .int .i64 0, .int .i64 0, .int .i64 0, .int .i64 0, .int .i64 0, .slice none 0 0] 28) (by simp [World.drew]) j).trans (ZZ.out j))
      refine wpAnyH_ready (rs := [6]) (by kernel_rfl) (by simp) ?_
      refine AllReadyH.cons (o := ?o6b) ?hi6b ?hst6b AllReadyH.nil
      case hi6b => (simp only [List.getElem?_toArray, List.getElem?_cons_succ, List.getElem?_cons_zero]; rfl)
      intro K hK
      rw [if_pos (by rfl)]
      refine wp_store_plan _ _ rfl (W0.heap.size + 1) [.int .i64 0, .int .i64 0, .int .i64 0, .int .i64 0, .int .i64 0, .int .i64 0, .int .i64 0, .int .i64 0, .int .i64 0, .int .i64 0, .int .i64 0, .int .i64 0, .int .i64 0, .int .i64 0, .int .i64 0, .int .i64 0, .slice none 0 0] rfl o k AP n c rfl rfl NP.out ?_
      refine hK.out _ _ (Bx.Blk.apart hHeld (by omega)) (fun hNew => ?_)
      clear hHeld
      have hHeld := hNew
      clear hNew hK K
      replace NP := Lib.hid (NP.out.put (m := (Mem.pc o k AP n c)) rfl)
      replace NF := Lib.hid (NF.out.apart (k' := W0.heap.size + 1) (m := (Mem.pc o k AP n c)) (by omega))
      replace BE := Lib.hid (Bx.bel_cells (k := W0.heap.size + 1) (m := (Mem.pc o k AP n c)) BE.out (Nat.le_succ _))
      refine wpAnyH_ready (rs := [7]) (by kernel_rfl) (by simp) ?_
      refine ready_frame (oi := ?o7b) (x := ?x7b) (y := ?y7b) ?hi7b ?hw7b ?ho7b (W0.heap.size) [.int .u64 0, .int .u64 0, .bool false, .int .i64 0, .int .i64 0, .int .i64 0, .string ⟨#[]⟩] rfl d s g p v t X ?hx7b ?hz7b NF.out (Bx.Blk.apart hHeld (by omega)) ?rest7b
      case hi7b => (simp only [List.getElem?_toArray, List.getElem?_cons_succ, List.getElem?_cons_zero]; rfl)
      case hw7b => rfl
      case ho7b => rfl
      case hx7b => rfl
      case hz7b => rfl
      replace hHeld := Bx.Blk.apart (k' := W0.heap.size) (m := (Mem.fc d s g p v t X)) hHeld (by omega)
      replace NF := Lib.hid (NF.out.put (m := (Mem.fc d s g p v t X)) rfl)
      replace NP := Lib.hid (NP.out.apart (k' := W0.heap.size) (m := (Mem.fc d s g p v t X)) (by omega))
      replace BE := Lib.hid (Bx.bel_cells (k := W0.heap.size) (m := (Mem.fc d s g p v t X)) BE.out (Nat.le_refl _))
      refine wpAnyH_done (by kernel_rfl) ?_ _
      refine NoPanic.normal ?_
      go_wp2_with fail
      go_meet
      exact ⟨W0.heap.size + 1, W0.heap.size, rfl, rfl, (Nat.le_succ _), (Nat.le_refl _), by omega, BE.out, NP.out.1, ⟨NF.out.1, NF.out.1.lt (by simp), fun j => by rw [frozen_cells, frozen_cells]; exact ZZ.out j⟩⟩
  case rest =>
    obtain ⟨m7, m8, rfl, rfl, hm7, hm8, n78, hb, P, FF⟩ := hcut
    have n7a : m7 ≠ w.heap.size + 1 ∧ w.heap.size ≤ m7 := by omega
    have n8a : m8 ≠ w.heap.size + 1 ∧ w.heap.size ≤ m8 := by omega
    replace bel := Bx.then_below bel hb
    replace BY := Lib.hid (BY.out.keep hb)
    replace P := Lib.hid P
    replace FF := Lib.hid FF
    clear hb BX hsz hm7 hm8
    have B0 := BY
    have B1 := P
    have B2 := Lib.hid FF.out.1
    clear BY P FF
    obtain ⟨c0_0, c0_1, c0_2⟩ := B0.out.all3
    obtain ⟨c2_0, c2_1, c2_2, c2_3, c2_4, c2_5, c2_6⟩ := B2.out.all7
    go_wp2_with (first | ((with_reducible refine Mem.load_at ?_ ?_ (m7) ?_ o k AP n c ?_ ?_); (· rfl); (· rfl); (· rfl); (· exact B1.out)))
    refine (HLG.out _ bel).mono ?_; rintro e w1 ⟨rfl, hb1⟩
    replace bel := Bx.then_below bel hb1
    replace B0 := Lib.hid (B0.out.keep hb1)
    replace B1 := Lib.hid (B1.out.keep hb1)
    replace B2 := Lib.hid (B2.out.keep hb1)
    clear hb1
    clear c0_0 c0_1 c0_2 c2_0 c2_1 c2_2 c2_3 c2_4 c2_5 c2_6
    obtain ⟨c0_0, c0_1, c0_2⟩ := B0.out.all3
    obtain ⟨c2_0, c2_1, c2_2, c2_3, c2_4, c2_5, c2_6⟩ := B2.out.all7
    go_wp2_with (first | ((with_reducible refine Mem.load_at ?_ ?_ (m7) ?_ o k AP n c ?_ ?_); (· rfl); (· rfl); (· rfl); (· exact B1.out)))
    refine (HRI.out _ bel).mono ?_; rintro e w2 ⟨rfl, hb2⟩
    replace bel := Bx.then_below bel hb2
    replace B0 := Lib.hid (B0.out.keep hb2)
    replace B1 := Lib.hid (B1.out.keep hb2)
    replace B2 := Lib.hid (B2.out.keep hb2)
    clear hb2
    clear c0_0 c0_1 c0_2 c2_0 c2_1 c2_2 c2_3 c2_4 c2_5 c2_6
    obtain ⟨c0_0, c0_1, c0_2⟩ := B0.out.all3
    obtain ⟨c2_0, c2_1, c2_2, c2_3, c2_4, c2_5, c2_6⟩ := B2.out.all7
    go_wp2_with (first | ((with_reducible refine Mem.load_at ?_ ?_ (m7) ?_ o k AP n c ?_ ?_); (· rfl); (· rfl); (· rfl); (· exact B1.out)))
    refine (HAW.out _ bel).mono ?_; rintro e w3 ⟨rfl, hb3⟩
    replace bel := Bx.then_below bel hb3
    replace B0 := Lib.hid (B0.out.keep hb3)
    replace B1 := Lib.hid (B1.out.keep hb3)
    replace B2 := Lib.hid (B2.out.keep hb3)
    clear hb3
    go_wp2_with (first | ((with_reducible refine Mem.load_at ?_ ?_ (m7) ?_ o k AP n c ?_ ?_); (· rfl); (· rfl); (· rfl); (· exact B1.out)))
    go_ret
    exact ⟨rfl, bel⟩

end Fwd
end Go.Proofs.YtmojegnflcokjaaDoor
