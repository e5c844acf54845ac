/-
  Packed in one text: OctAwake, MacB, FwdA, FwdE.
-/
import Derived.Test.YtmojegnflcokjaaDoorPkOctNum
import Derived.Deep.MidRow
import Derived.Test.YtmojegnflcokjaaDoorPkMemB
import Derived.Test.YtmojegnflcokjaaDoorFwdC
/-
  The check of single answers that the statements of layer 1 end with (tipstafflaw01.awake) comes out true, whatever the memory, and changes nothing that was there.
-/
namespace Go.Proofs.YtmojegnflcokjaaDoor
open Go.RowKit
namespace Oct

theorem below_then {a b c : World} (h1 : Below a.heap.size a b) (h2 : Below b.heap.size b c) : Below a.heap.size a c := h1.trans (h2.mono h1.size)

end Oct
end Go.Proofs.YtmojegnflcokjaaDoor

/-
  What mac.Reserved, mac.Text and mac.Parse answer, in every memory that holds the table of reserved addresses as the program's text lays it; and that they change nothing that was there.
-/
namespace Go.Proofs.YtmojegnflcokjaaDoor
open Go.RowKit
namespace Mac
open Oct

theorem info_res : (Tryd.prog.info? 102).map (·.size) = some 16 := by kernel_rfl
theorem info_mac : (Tryd.prog.info? 30).map (·.size) = some 1 := by kernel_rfl

theorem run_index_tab (w : World) (cs : List Value) (k : Nat) (hk : k < 16) (v : Value) (hv : cs[k]? = some v) :
    (Instr.index 102 (.agg cs.toArray) (.int .i64 (k : Int))).run Tryd.prog w = .ok v w := by
  have hk2 : (0 : Int) ≤ (k : Int) ∧ (k : Int) < ((16 : Nat) : Int) := ⟨by omega, by omega⟩
  have hz : (sizeOf 30).run Tryd.prog w = .ok 1 w := by kernel_rfl
  unfold Instr.index
  simp [asIntOf, run_underlying Tryd.underlying102, hz, part, hk, hv]

set_option maxRecDepth 40000 in
theorem reserved_core (m : Nat) (w : World) (cs : List Value) (hl : cs.length = 16) (hc : w.rangeAt 0 0 cs)
    (hcs : ∀ k : Nat, k < 16 → cs[k]? = some (.int .u64 ((1652522221568 + k : Nat) : Int))) : Calls Tryd.prog 39 #[.int .u64 m] w fun e w' => e = .returned (.bool (reservedB m)) ∧ w = w' := by
  have HI : (Tryd.prog.info? 102).map (·.size) = some cs.length := by rw [hl]; exact info_res
  have HI' := Lib.hid HI
  have HC := Lib.hid hcs
  have HL := Lib.hid hl
  have HR := Lib.hid hc
  clear HI hcs hl hc
  go_enter Tryd.func39, Tryd.ntmps39
  go_wp2_with (refine wpList_load_mid rfl 102 (.global 0) rfl 0 0 rfl cs (.array 16 30) HR.out Tryd.underlying102 rfl HI'.out ?_)
  go_loop [4, 6] (fun _ i => ∃ k : Nat, k ≤ 16 ∧ i = .int .i64 k ∧ Aside (∀ j : Nat, j < k → m ≠ 1652522221568 + j)) (fun _ i => 16 - (intOf i).toNat)
  case atStart => exact ⟨0, by omega, rfl, fun j h => by omega⟩
  case round =>
    obtain ⟨k, hk, rfl, HN⟩ := hrel
    by_cases hlt : k < 16
    · have hx := run_index_tab w cs k hlt _ (HC.out k hlt)
      by_cases he : m = 1652522221568 + k
      · have hq : ((m : Int) == ((1652522221568 + k : Nat) : Int)) = true := by rw [he]; simp
        have HE := Lib.hid (show reservedB m = true by unfold reservedB; rw [he]; simp; omega)
        clear he
        generalize ((1652522221568 + k : Nat) : Int) = z at *
        go_wp2
        go_ret
        exact ⟨ret_bool HE.out.symm, rfl⟩
      · have hq : ((m : Int) == ((1652522221568 + k : Nat) : Int)) = false := by simp; omega
        have HE := Lib.hid he
        clear he
        generalize ((1652522221568 + k : Nat) : Int) = z at *
        go_wp2
        go_round
        case rel =>
          refine ⟨k + 1, by omega, by go_num, fun j hj => ?_⟩
          by_cases h : j = k
          · subst h; exact HE.out
          · exact HN.out j (by omega)
        case measure => simp [intOf]; omega
    · have HE := Lib.hid (show reservedB m = false by
        unfold reservedB
        have h16 := HN.out
        have : ¬ (m / 16 = 103282638848) := fun h => h16 (m % 16) (by omega) (by omega)
        simp [this])
      go_wp2
      go_ret
      exact ⟨ret_bool HE.out.symm, rfl⟩

end Mac
end Go.Proofs.YtmojegnflcokjaaDoor

/-
  What decide.Kind and the document answer of any frame, in every memory that holds the table of reserved addresses as the program's text lays it.
-/
namespace Go.Proofs.YtmojegnflcokjaaDoor
open Go.RowKit
namespace Fwd
open Oct Eth

/-- The memory holds the table of reserved addresses. -/
def Home (w : World) : Prop := (∀ j : Nat, j < 16 → w.cell? ⟨0, j, none⟩ = some (.int .u64 ((1652522221568 + j : Nat) : Int))) ∧ 0 < w.heap.size

theorem Home.below {w w' : World} (h : Home w) (hb : Below w.heap.size w w') : Home w' := by
  obtain ⟨h1, h3⟩ := h
  refine ⟨fun j hj => ?_, Nat.lt_of_lt_of_le h3 hb.size⟩
  rw [hb.cell (p := ⟨0, j, none⟩) h3]
  exact h1 j hj

theorem reserved_any (m : Nat) (w : World) (h : Home w) : Calls Tryd.prog 39 #[.int .u64 m] w fun e w' => e = .returned (.bool (Mac.reservedB m)) ∧ w = w' := by
  refine Mac.reserved_core m w ((List.range 16).map fun k => .int .u64 ((1652522221568 + k : Nat) : Int)) (by simp) ?_ ?_
  · intro j v hj
    have hlt : j < 16 := by
      have := (List.getElem?_eq_some_iff.1 hj).1
      simpa using this
    rw [Nat.zero_add, h.1 j hlt]
    simp [hlt] at hj
    rw [← hj]
    simp
  · intro k hk
    simp [hk]

set_option maxRecDepth 20000 in
theorem kind_any (d : Nat) (s : Int) (g : Bool) (p v t : Int) (b : ByteArray) (w : World) (h : Home w) :
    Calls Tryd.prog 12 #[fr d s g p v t b] w fun e w' => e = .returned (.int .i64 (kindN t d)) ∧ Below w.heap.size w w' := by
  have bel := Lib.hid (Bx.box_below w (Mem.fo d s g p v t b))
  have HR := Lib.hid (reserved_any d _ (h.below bel.out))
  unfold kindN
  by_cases h1 : t = 34958
  · subst h1
    go_enter Tryd.func12, Tryd.ntmps12
    go_wp2
    go_ret
    exact ⟨rfl, bel.out⟩
  · have e1 : (t == 34958) = false := by simpa using h1
    rw [if_neg h1]
    by_cases h2 : d = 1652522221568
    · subst h2
      go_enter Tryd.func12, Tryd.ntmps12
      go_wp2
      go_ret
      exact ⟨rfl, bel.out⟩
    · have e2 : ((d : Int) == 1652522221568) = false := by simp; omega
      rw [if_neg h2]
      clear h2
      cases hr : Mac.reservedB d with
      | true =>
        rw [hr] at HR
        go_enter Tryd.func12, Tryd.ntmps12
        go_wp2_with fail
        refine HR.out.mono ?_; rintro e w1 ⟨rfl, rfl⟩
        go_wp2
        go_ret
        exact ⟨rfl, bel.out⟩
      | false =>
        rw [hr] at HR
        go_enter Tryd.func12, Tryd.ntmps12
        go_wp2_with fail
        refine HR.out.mono ?_; rintro e w1 ⟨rfl, rfl⟩
        go_wp2
        go_ret
        exact ⟨rfl, bel.out⟩

set_option maxRecDepth 20000 in
theorem rkind_any (d : Nat) (hd : d < 18446744073709551616) (s : Int) (g : Bool) (p v t : Int) (b : ByteArray) (w : World) :
    Calls Tryd.prog 13 #[fr d s g p v t b] w fun e w' => e = .returned (.int .i64 (kindN t d)) ∧ Below w.heap.size w w' := by
  have bel := Lib.hid (Bx.box_below w (Mem.fo d s g p v t b))
  have HR := Lib.hid (fun w => Mac.rreserved_any d hd w)
  unfold kindN
  by_cases h1 : t = 34958
  · subst h1
    go_enter Tryd.func13, Tryd.ntmps13
    go_wp2
    go_ret
    exact ⟨rfl, bel.out⟩
  · have e1 : (t == 34958) = false := by simpa using h1
    rw [if_neg h1]
    by_cases h2 : d = 1652522221568
    · subst h2
      go_enter Tryd.func13, Tryd.ntmps13
      go_wp2
      go_ret
      exact ⟨rfl, bel.out⟩
    · have e2 : ((d : Int) == 1652522221568) = false := by simp; omega
      rw [if_neg h2]
      clear h2
      cases hr : Mac.reservedB d with
      | true =>
        rw [hr] at HR
        go_enter Tryd.func13, Tryd.ntmps13
        go_wp2_with fail
        refine (HR.out _).mono ?_; rintro e w1 ⟨rfl, rfl⟩
        go_wp2
        go_ret
        exact ⟨rfl, bel.out⟩
      | false =>
        rw [hr] at HR
        go_enter Tryd.func13, Tryd.ntmps13
        go_wp2_with fail
        refine (HR.out _).mono ?_; rintro e w1 ⟨rfl, rfl⟩
        go_wp2
        go_ret
        exact ⟨rfl, bel.out⟩

end Fwd
end Go.Proofs.YtmojegnflcokjaaDoor

/-
  What decide.Learns and the document's own answer of any table, and any frame.
-/
namespace Go.Proofs.YtmojegnflcokjaaDoor
open Go.RowKit
namespace Fwd
open Oct Eth Tab

/-- A table handed back, its entries new or those that came. -/
def GivesT (A0 : Option Addr) (l0 : List Tab.En) (most long : Int) (l : List Tab.En) (w : World) (e : Ending) (w' : World) : Prop :=
  ∃ A k, e = .returned (tv most long A l.length k) ∧ ((A = A0 ∧ l = l0) ∨ ∀ b o, A = some ⟨b, o, none⟩ → w.heap.size ≤ b) ∧ Tab.Ents w' A l ∧ Below w.heap.size w w'

set_option maxRecDepth 40000 in
set_option maxHeartbeats 4000000 in
theorem learns_no (most long : Int) (l : List Tab.En) (A : Option Addr) (c : Nat) (d s : Int) (g : Bool) (p vv t : Int) (b : ByteArray) (v q ln : Int) (w : World) (hA : Tab.Ents w A l) (hh : Por.hasZ (Por.low ln) q = false) :
    Calls Tryd.prog 14 #[tv most long A l.length c, fr d s g p vv t b, .int .i64 v, .int .i64 q, .int .i64 ln] w (GivesT A l most long l w) := by
  have HH := Lib.hid (fun w => Por.has_any ln q w)
  rw [hh] at HH
  have HB4 := Lib.hid (Bx.bel_box (Bx.bel_box (Bx.box_below w (to most long A l.length c)) (Mem.fo d s g p vv t b)) (to most long A l.length c))
  have HE := Lib.hid (hA.below HB4.out)
  have K := Lib.hid (((Tab.Fre.new w [.int .i64 most, .int .i64 long, .slice A l.length c] 24).keep (Bx.box_below _ (Mem.fo d s g p vv t b))).keep (Bx.box_below _ (to 0 0 none 0 0)))
  have R5 := (Lib.hid (Bx.Blk.new_at (W := (w.alloc (to most long A l.length c)).alloc (Mem.fo d s g p vv t b)) (k := w.heap.size + 2) [.int .i64 most, .int .i64 long, .slice A l.length c] 24 (by simp)).all3)
  obtain ⟨⟨k0, k1, k2⟩, _⟩ := K.out.all3
  clear hA K hh
  go_enter Tryd.func14, Tryd.ntmps14
  go_wp2_with fail
  refine (HH.out _).mono ?_; rintro e w' ⟨rfl, rfl⟩
  go_wp2_with fail
  refine bodyPost_ret (v := tv most long A l.length c) ?_ rfl ?_
  · obtain ⟨d0, d1, d2⟩ := R5.out
    simp [results, Tryd.results14, d0, d1, d2, go_sem]
  · exact ⟨A, c, rfl, .inl ⟨rfl, rfl⟩, HE.out, HB4.out⟩

set_option maxRecDepth 40000 in
set_option maxHeartbeats 4000000 in
theorem learns_yes (most long : Int) (l : List Tab.En) (A : Option Addr) (c : Nat) (d : Int) (s : Nat) (g : Bool) (p vv t : Int) (b : ByteArray) (v q ln : Int) (w : World) (hA : Tab.Ents w A l) (hh : Por.hasZ (Por.low ln) q = true) (L : List Tab.En) (num : Int) 
    (HC : Hid (∀ w, Tab.Ents w A l → Calls Tryd.prog 41 #[tv most long A l.length c, .int .i64 v, .int .u64 s, .int .i64 q] w (Tab.GivesL A l most long L num w))) :
    Calls Tryd.prog 14 #[tv most long A l.length c, fr d s g p vv t b, .int .i64 v, .int .i64 q, .int .i64 ln] w (GivesT A l most long L w) := by
  have HH := Lib.hid (fun w => Por.has_any ln q w)
  rw [hh] at HH
  have bel := Lib.hid (Bx.bel_box (Bx.bel_box (Bx.box_below w (to most long A l.length c)) (Mem.fo d s g p vv t b)) (to 0 0 none 0 0))
  have A1 := Lib.hid (hA.below bel.out)
  have K := Lib.hid (((Tab.Fre.new w [.int .i64 most, .int .i64 long, .slice A l.length c] 24).keep (Bx.box_below _ (Mem.fo d s g p vv t b))).keep (Bx.box_below _ (to 0 0 none 0 0)))
  have O := Lib.hid ((Bx.Blk.new_at (W := w.alloc (to most long A l.length c)) (k := w.heap.size + 1) (Mem.fc d s g p vv t b) 32 (by simp)).keep (Bx.box_below _ (to 0 0 none 0 0)))
  have R : Hid (Tab.Fre (((w.alloc (to most long A l.length c)).alloc (Mem.fo d s g p vv t b)).alloc (to 0 0 none 0 0)) (w.heap.size + 2) [.int .i64 0, .int .i64 0, .slice none 0 0]) := Lib.hid (by
    have := Tab.Fre.new ((w.alloc (to most long A l.length c)).alloc (Mem.fo d s g p vv t b)) [.int .i64 0, .int .i64 0, .slice none 0 0] 24
    rwa [show ((w.alloc (to most long A l.length c)).alloc (Mem.fo d s g p vv t b)).heap.size = w.heap.size + 2 by simp] at this)
  have hsz := Lib.hid (show (((w.alloc (to most long A l.length c)).alloc (Mem.fo d s g p vv t b)).alloc (to 0 0 none 0 0)).heap.size = w.heap.size + 3 by simp)
  have hle2 : w.heap.size ≤ w.heap.size + 2 := Nat.le_add_right _ _
  have HAL := Lib.hid (fun b' o' (e : A = some ⟨b', o', none⟩) (h : 0 < l.length) => show b' < w.heap.size by
    obtain ⟨b, o, e2, hb, _⟩ := hA.at h
    rw [e] at e2
    cases e2
    exact hb)
  obtain ⟨⟨k0, k1, k2⟩, _⟩ := K.out.all3
  obtain ⟨o0, o1, o2, o3, o4, o5, o6⟩ := O.out.all7
  clear hh
  go_enter Tryd.func14, Tryd.ntmps14
  go_wp2_with fail
  refine (HH.out _).mono ?_; rintro e w' ⟨rfl, rfl⟩
  go_wp2_with fail
  refine (HC.out _ A1.out).mono ?_; rintro e w1 ⟨B, cc, rfl, hB, hE, hb1⟩
  have hb2 := Bx.bel_box hb1 (to most long B L.length cc)
  have T := Lib.hid ((Bx.Blk.new w1 [.int .i64 most, .int .i64 long, .slice B L.length cc] 24).all3)
  replace hE := hE.below (Bx.box_below w1 (to most long B L.length cc))
  have HW : Hid (w1.alloc (to most long B L.length cc) = w1.alloc (to most long B L.length cc)) := Lib.hid rfl
  have bel2 := Lib.hid (Bx.then_below bel.out hb2)
  have K1 := Lib.hid (K.out.keep hb2)
  have R1 := Lib.hid (R.out.keep hb2)
  have HEA := Lib.hid (A1.out.below hb2)
  have hb3 := Lib.hid hb2.size
  clear k0 k1 k2 o0 o1 o2 o3 o4 o5 o6
  have HB4 := Lib.hid (((bel2.out.setCell (p := ⟨w.heap.size + 2, 0, none⟩) hle2 (.int .i64 most)).setCell (p := ⟨w.heap.size + 2, 1, none⟩) hle2 (.int .i64 long)).setCell (p := ⟨w.heap.size + 2, 2, none⟩) hle2 (.slice B L.length cc))
  have R5 := Lib.hid (R1.out.1.put3 (x0 := .int .i64 most) (x1 := .int .i64 long) (x2 := .slice B L.length cc)).all3
  have HS : Hid (∀ b' o', B = some ⟨b', o', none⟩ → 0 < L.length → b' ≠ w.heap.size + 2) := Lib.hid (fun b' o' e h => by
    rcases hB with ⟨rfl, rfl⟩ | hB
    · have := HAL.out b' o' e h
      omega
    · have := hB b' o' e
      rw [hsz.out] at this
      omega)
  have HE : Hid (Tab.Ents ((((w1.alloc (to most long B L.length cc)).setCell ⟨w.heap.size + 2, 0, none⟩ (.int .i64 most)).setCell ⟨w.heap.size + 2, 1, none⟩ (.int .i64 long)).setCell ⟨w.heap.size + 2, 2, none⟩ (.slice B L.length cc)) B L) := Lib.hid (by
    by_cases h0 : 0 < L.length
    · have hx : ∀ b' o', B = some ⟨b', o', none⟩ → b' ≠ w.heap.size + 2 := fun b' o' e => HS.out b' o' e h0
      exact ((hE.set hx).set hx).set hx
    · have : L = [] := List.eq_nil_of_length_eq_zero (by omega)
      rw [this]
      exact Tab.Ents.nil _ _)
  have HN : Hid ((B = A ∧ L = l) ∨ ∀ b o, B = some ⟨b, o, none⟩ → w.heap.size ≤ b) := Lib.hid (hB.imp id (fun h b o e => by have := h b o e; rw [hsz.out] at this; omega))
  clear hB hE hb2 HC bel A1 K R O hsz K1 bel2 HS HAL HEA
  obtain ⟨t0, t1, t2⟩ := T.out
  obtain ⟨⟨r0, r1, r2⟩, s0, s1, s2⟩ := R1.out.all3
  clear R1 T
  go_wp2_with fail
  refine bodyPost_ret (v := tv most long B L.length cc) ?_ rfl ?_
  · obtain ⟨d0, d1, d2⟩ := R5.out
    simp [results, Tryd.results14, d0, d1, d2, go_sem]
  · exact ⟨B, cc, rfl, HN.out, HE.out, HB4.out⟩

set_option maxRecDepth 40000 in
set_option maxHeartbeats 4000000 in
theorem rlearns_no (most long : Int) (l : List Tab.En) (A : Option Addr) (c : Nat) (d s : Int) (g : Bool) (p vv t : Int) (b : ByteArray) (v q ln : Int) (w : World) (hA : Tab.Ents w A l) (hh : Por.hasZ (Por.low ln) q = false) :
    Calls Tryd.prog 15 #[tv most long A l.length c, fr d s g p vv t b, .int .i64 v, .int .i64 q, .int .i64 ln] w (GivesT A l most long l w) := by
  have HH := Lib.hid (fun w => Por.rhas_any ln q w)
  rw [hh] at HH
  have HB4 := Lib.hid (Bx.bel_box (Bx.bel_box (Bx.box_below w (to most long A l.length c)) (Mem.fo d s g p vv t b)) (to most long A l.length c))
  have HE := Lib.hid (hA.below HB4.out)
  have K := Lib.hid (((Tab.Fre.new w [.int .i64 most, .int .i64 long, .slice A l.length c] 24).keep (Bx.box_below _ (Mem.fo d s g p vv t b))).keep (Bx.box_below _ (to 0 0 none 0 0)))
  have R5 := (Lib.hid (Bx.Blk.new_at (W := (w.alloc (to most long A l.length c)).alloc (Mem.fo d s g p vv t b)) (k := w.heap.size + 2) [.int .i64 most, .int .i64 long, .slice A l.length c] 24 (by simp)).all3)
  obtain ⟨⟨k0, k1, k2⟩, _⟩ := K.out.all3
  clear hA K hh
  go_enter Tryd.func15, Tryd.ntmps15
  go_wp2_with fail
  refine (HH.out _).mono ?_; rintro e w' ⟨rfl, rfl⟩
  go_wp2_with fail
  refine bodyPost_ret (v := tv most long A l.length c) ?_ rfl ?_
  · obtain ⟨d0, d1, d2⟩ := R5.out
    simp [results, Tryd.results15, d0, d1, d2, go_sem]
  · exact ⟨A, c, rfl, .inl ⟨rfl, rfl⟩, HE.out, HB4.out⟩

set_option maxRecDepth 40000 in
set_option maxHeartbeats 4000000 in
theorem rlearns_yes (most long : Int) (l : List Tab.En) (A : Option Addr) (c : Nat) (d : Int) (s : Nat) (g : Bool) (p vv t : Int) (b : ByteArray) (v q ln : Int) (w : World) (hA : Tab.Ents w A l) (hh : Por.hasZ (Por.low ln) q = true) (L : List Tab.En) (num : Int) (hnum : ¬ num = 0 → L = l) 
    (HC : Hid (∀ w, Tab.Ents w A l → Calls Tryd.prog 43 #[tv most long A l.length c, .int .i64 v, .int .u64 s, .int .i64 q] w (Tab.GivesL A l most long L num w))) :
    Calls Tryd.prog 15 #[tv most long A l.length c, fr d s g p vv t b, .int .i64 v, .int .i64 q, .int .i64 ln] w (GivesT A l most long L w) := by
  have HH := Lib.hid (fun w => Por.rhas_any ln q w)
  rw [hh] at HH
  have bel := Lib.hid (Bx.bel_box (Bx.bel_box (Bx.box_below w (to most long A l.length c)) (Mem.fo d s g p vv t b)) (to 0 0 none 0 0))
  have A1 := Lib.hid (hA.below bel.out)
  have K := Lib.hid (((Tab.Fre.new w [.int .i64 most, .int .i64 long, .slice A l.length c] 24).keep (Bx.box_below _ (Mem.fo d s g p vv t b))).keep (Bx.box_below _ (to 0 0 none 0 0)))
  have O := Lib.hid ((Bx.Blk.new_at (W := w.alloc (to most long A l.length c)) (k := w.heap.size + 1) (Mem.fc d s g p vv t b) 32 (by simp)).keep (Bx.box_below _ (to 0 0 none 0 0)))
  have R : Hid (Tab.Fre (((w.alloc (to most long A l.length c)).alloc (Mem.fo d s g p vv t b)).alloc (to 0 0 none 0 0)) (w.heap.size + 2) [.int .i64 0, .int .i64 0, .slice none 0 0]) := Lib.hid (by
    have := Tab.Fre.new ((w.alloc (to most long A l.length c)).alloc (Mem.fo d s g p vv t b)) [.int .i64 0, .int .i64 0, .slice none 0 0] 24
    rwa [show ((w.alloc (to most long A l.length c)).alloc (Mem.fo d s g p vv t b)).heap.size = w.heap.size + 2 by simp] at this)
  have hsz := Lib.hid (show (((w.alloc (to most long A l.length c)).alloc (Mem.fo d s g p vv t b)).alloc (to 0 0 none 0 0)).heap.size = w.heap.size + 3 by simp)
  have hle2 : w.heap.size ≤ w.heap.size + 2 := Nat.le_add_right _ _
  have HAL := Lib.hid (fun b' o' (e : A = some ⟨b', o', none⟩) (h : 0 < l.length) => show b' < w.heap.size by
    obtain ⟨b, o, e2, hb, _⟩ := hA.at h
    rw [e] at e2
    cases e2
    exact hb)
  obtain ⟨⟨k0, k1, k2⟩, _⟩ := K.out.all3
  obtain ⟨o0, o1, o2, o3, o4, o5, o6⟩ := O.out.all7
  clear hh
  have hN := Lib.hid hnum
  clear hnum
  go_enter Tryd.func15, Tryd.ntmps15
  go_wp2_with fail
  refine (HH.out _).mono ?_; rintro e w' ⟨rfl, rfl⟩
  go_wp2_with fail
  refine (HC.out _ A1.out).mono ?_; rintro e w1 ⟨B, cc, rfl, hB, hE, hb1⟩
  have hb2 := Bx.bel_box hb1 (to most long B L.length cc)
  have T := Lib.hid ((Bx.Blk.new w1 [.int .i64 most, .int .i64 long, .slice B L.length cc] 24).all3)
  replace hE := hE.below (Bx.box_below w1 (to most long B L.length cc))
  have HW : Hid (w1.alloc (to most long B L.length cc) = w1.alloc (to most long B L.length cc)) := Lib.hid rfl
  have bel2 := Lib.hid (Bx.then_below bel.out hb2)
  have K1 := Lib.hid (K.out.keep hb2)
  have R1 := Lib.hid (R.out.keep hb2)
  have HEA := Lib.hid (A1.out.below hb2)
  have hb3 := Lib.hid hb2.size
  clear k0 k1 k2 o0 o1 o2 o3 o4 o5 o6
  by_cases hz : num = 0
  · subst hz
    have HB4 := Lib.hid (((bel2.out.setCell (p := ⟨w.heap.size + 2, 0, none⟩) hle2 (.int .i64 most)).setCell (p := ⟨w.heap.size + 2, 1, none⟩) hle2 (.int .i64 long)).setCell (p := ⟨w.heap.size + 2, 2, none⟩) hle2 (.slice B L.length cc))
    have R5 := Lib.hid (R1.out.1.put3 (x0 := .int .i64 most) (x1 := .int .i64 long) (x2 := .slice B L.length cc)).all3
    have HS : Hid (∀ b' o', B = some ⟨b', o', none⟩ → 0 < L.length → b' ≠ w.heap.size + 2) := Lib.hid (fun b' o' e h => by
      rcases hB with ⟨rfl, rfl⟩ | hB
      · have := HAL.out b' o' e h
        omega
      · have := hB b' o' e
        rw [hsz.out] at this
        omega)
    have HE : Hid (Tab.Ents ((((w1.alloc (to most long B L.length cc)).setCell ⟨w.heap.size + 2, 0, none⟩ (.int .i64 most)).setCell ⟨w.heap.size + 2, 1, none⟩ (.int .i64 long)).setCell ⟨w.heap.size + 2, 2, none⟩ (.slice B L.length cc)) B L) := Lib.hid (by
      by_cases h0 : 0 < L.length
      · have hx : ∀ b' o', B = some ⟨b', o', none⟩ → b' ≠ w.heap.size + 2 := fun b' o' e => HS.out b' o' e h0
        exact ((hE.set hx).set hx).set hx
      · have : L = [] := List.eq_nil_of_length_eq_zero (by omega)
        rw [this]
        exact Tab.Ents.nil _ _)
    have HN : Hid ((B = A ∧ L = l) ∨ ∀ b o, B = some ⟨b, o, none⟩ → w.heap.size ≤ b) := Lib.hid (hB.imp id (fun h b o e => by have := h b o e; rw [hsz.out] at this; omega))
    clear hB hE hb2 HC bel A1 K R O hsz K1 bel2 HS HAL HEA
    obtain ⟨t0, t1, t2⟩ := T.out
    obtain ⟨⟨r0, r1, r2⟩, s0, s1, s2⟩ := R1.out.all3
    clear R1 T
    go_wp2_with fail
    refine bodyPost_ret (v := tv most long B L.length cc) ?_ rfl ?_
    · obtain ⟨d0, d1, d2⟩ := R5.out
      simp [results, Tryd.results15, d0, d1, d2, go_sem]
    · exact ⟨B, cc, rfl, HN.out, HE.out, HB4.out⟩
  · have hz1 : (num == 0) = false := by simpa using hz
    have hz2 : (num != 0) = true := by simpa using hz
    have hLl : l = L := (hN.out hz).symm
    subst hLl
    have hE1 := hE
    clear hE
    have hE := HEA.out
    have HB4 := Lib.hid (((bel2.out.setCell (p := ⟨w.heap.size + 2, 0, none⟩) hle2 (.int .i64 most)).setCell (p := ⟨w.heap.size + 2, 1, none⟩) hle2 (.int .i64 long)).setCell (p := ⟨w.heap.size + 2, 2, none⟩) hle2 (.slice A l.length c))
    have R5 := Lib.hid (R1.out.1.put3 (x0 := .int .i64 most) (x1 := .int .i64 long) (x2 := .slice A l.length c)).all3
    have HS : Hid (∀ b' o', A = some ⟨b', o', none⟩ → 0 < l.length → b' ≠ w.heap.size + 2) := Lib.hid (fun b' o' e h => by
      have := HAL.out b' o' e h
      omega)
    have HE : Hid (Tab.Ents ((((w1.alloc (to most long B l.length cc)).setCell ⟨w.heap.size + 2, 0, none⟩ (.int .i64 most)).setCell ⟨w.heap.size + 2, 1, none⟩ (.int .i64 long)).setCell ⟨w.heap.size + 2, 2, none⟩ (.slice A l.length c)) A l) := Lib.hid (by
      by_cases h0 : 0 < l.length
      · have hx : ∀ b' o', A = some ⟨b', o', none⟩ → b' ≠ w.heap.size + 2 := fun b' o' e => HS.out b' o' e h0
        exact ((hE.set hx).set hx).set hx
      · have : l = [] := List.eq_nil_of_length_eq_zero (by omega)
        rw [this]
        exact Tab.Ents.nil _ _)
    clear hB hE hE1 hb2 HC bel A1 K R O hsz bel2 HS HAL HEA
    obtain ⟨⟨k0, k1, k2⟩, _⟩ := K1.out.all3
    obtain ⟨⟨r0, r1, r2⟩, s0, s1, s2⟩ := R1.out.all3
    obtain ⟨t0, t1, t2⟩ := T.out
    clear R1 T K1
    go_wp2_with fail
    refine bodyPost_ret (v := tv most long A l.length c) ?_ rfl ?_
    · obtain ⟨d0, d1, d2⟩ := R5.out
      simp [results, Tryd.results15, d0, d1, d2, go_sem]
    · exact ⟨A, c, rfl, .inl ⟨rfl, rfl⟩, HE.out, HB4.out⟩

theorem learns_any (most long : Int) (l : List Tab.En) (hl : l.length ≤ 100000) (A : Option Addr) (c : Nat) (d : Int) (s : Nat) (hs : s < 18446744073709551616) (g : Bool) (p vv t : Int) (b : ByteArray) (v q ln : Int) (w : World) (hA : Tab.Ents w A l) :
    Calls Tryd.prog 14 #[tv most long A l.length c, fr d s g p vv t b, .int .i64 v, .int .i64 q, .int .i64 ln] w (GivesT A l most long (learnsL most l v s q ln) w) := by
  unfold learnsL
  cases hh : Por.hasZ (Por.low ln) q with
  | false => exact learns_no most long l A c d s g p vv t b v q ln w hA hh
  | true => exact learns_yes most long l A c d s g p vv t b v q ln w hA hh _ _ (Lib.hid fun w hA => Tab.learn_any most long l hl A c v s hs q w hA)

theorem rlearns_any (most long : Int) (l : List Tab.En) (hl : l.length ≤ 100000) (hsr : l.Pairwise fun x y => Tab.ahd x y = true) (A : Option Addr) (c : Nat) (d : Int) (s : Nat) (hs : s < 18446744073709551616) (g : Bool) (p vv t : Int) (b : ByteArray) (v q ln : Int) (w : World) (hA : Tab.Ents w A l) :
    Calls Tryd.prog 15 #[tv most long A l.length c, fr d s g p vv t b, .int .i64 v, .int .i64 q, .int .i64 ln] w (GivesT A l most long (learnsL most l v s q ln) w) := by
  unfold learnsL
  cases hh : Por.hasZ (Por.low ln) q with
  | false => exact rlearns_no most long l A c d s g p vv t b v q ln w hA hh
  | true => exact rlearns_yes most long l A c d s g p vv t b v q ln w hA hh _ _ (fun h => Tab.learn_err h) (Lib.hid fun w hA => Tab.rlearn_any most long l hl hsr A c v s hs q w hA)

end Fwd
end Go.Proofs.YtmojegnflcokjaaDoor
