/-
  What is found in a table; and table.kept: the entries that a method value keeps, in a row of the call's own.
-/
import Derived.Test.YtfnjgjehmddkcaaDoorTabA
import Derived.Shelf.Abstract
namespace Go.Proofs.YtfnjgjehmddkcaaDoor
open Go.RowKit
namespace Tab
open Oct

theorem info_en : (Tryd.prog.info? 29).map (fun i => (i.zero, i.size, i.bytes)) = some (some (.agg #[.int .i64 0, .int .u64 0, .int .i64 0, .int .i64 0]), 4, 32) := by kernel_rfl

/-- A block that may be written: its first cells. -/
def Fre (W : World) (k : Nat) (l : List Value) : Prop := Bx.Blk W k l ∧ k < W.heap.size ∧ ∀ j, W.frozen? ⟨k, j, none⟩ = false

theorem Fre.new (W : World) (l : List Value) (t : TypeId) : Fre (W.alloc (.cells l.toArray t)) W.heap.size l := ⟨Bx.Blk.new W l t, by simp, fun j => World.frozen?_alloc_new W l.toArray t j⟩

theorem Fre.keep {W w1 : World} {k : Nat} {l : List Value} (h : Fre W k l) (hb : Below W.heap.size W w1) : Fre w1 k l :=
  ⟨h.1.keep hb, Nat.lt_of_lt_of_le h.2.1 hb.size, fun j => by rw [hb.frozen (p := ⟨k, j, none⟩) h.2.1]; exact h.2.2 j⟩

theorem Fre.drew {W : World} {k : Nat} {l : List Value} (h : Fre W k l) : Fre W.drew k l := h

theorem Fre.all3 {W : World} {k : Nat} {x0 x1 x2 : Value} (h : Fre W k [x0, x1, x2]) : (W.cell? ⟨k, 0, none⟩ = some x0 ∧ W.cell? ⟨k, 1, none⟩ = some x1 ∧ W.cell? ⟨k, 2, none⟩ = some x2) ∧
    W.frozen? ⟨k, 0, none⟩ = false ∧ W.frozen? ⟨k, 1, none⟩ = false ∧ W.frozen? ⟨k, 2, none⟩ = false := ⟨h.1.all3, h.2.2 0, h.2.2 1, h.2.2 2⟩

theorem Fre.all4 {W : World} {k : Nat} {x0 x1 x2 x3 : Value} (h : Fre W k [x0, x1, x2, x3]) : (W.cell? ⟨k, 0, none⟩ = some x0 ∧ W.cell? ⟨k, 1, none⟩ = some x1 ∧ W.cell? ⟨k, 2, none⟩ = some x2 ∧ W.cell? ⟨k, 3, none⟩ = some x3) ∧
    W.frozen? ⟨k, 0, none⟩ = false ∧ W.frozen? ⟨k, 1, none⟩ = false ∧ W.frozen? ⟨k, 2, none⟩ = false ∧ W.frozen? ⟨k, 3, none⟩ = false := ⟨h.1.all4, h.2.2 0, h.2.2 1, h.2.2 2, h.2.2 3⟩

/-- The place of the first entry of that VLAN and address, or the place behind all. -/
def posE (l : List En) (v : Int) (m : Nat) : Nat := l.findIdx (isK v m)
theorem posE_le (l : List En) (v : Int) (m : Nat) : posE l v m ≤ l.length := List.findIdx_le_length

theorem posE_hit {l : List En} {v : Int} {m j : Nat} (hj : j < l.length) (h : j ≤ posE l v m) (hk : isK v m l[j] = true) : posE l v m = j := by
  unfold posE at *
  by_cases e : j < l.findIdx (isK v m)
  · have := List.not_of_lt_findIdx e
    simp [hk] at this
  · omega

theorem posE_miss {l : List En} {v : Int} {m j : Nat} (hj : j < l.length) (h : j ≤ posE l v m) (hk : isK v m l[j] = false) : j + 1 ≤ posE l v m := by
  unfold posE at *
  by_cases e : j < l.findIdx (isK v m)
  · omega
  · have e2 : l.findIdx (isK v m) = j := by omega
    have := List.findIdx_getElem (xs := l) (p := isK v m) (w := by omega)
    simp only [e2] at this
    rw [hk] at this
    cases this

theorem find_pos : ∀ (l : List En) (v : Int) (m : Nat), findE l v m = l[posE l v m]?
  | [], _, _ => rfl
  | x :: l, v, m => by
    have ih := find_pos l v m
    unfold findE posE at *
    rw [List.find?_cons, List.findIdx_cons]
    cases isK v m x with
    | true => rfl
    | false => simpa using ih

/-- What IndexFunc answers. -/
def idxE (l : List En) (v : Int) (m : Nat) : Int := if posE l v m < l.length then posE l v m else -1

set_option maxRecDepth 20000 in
set_option maxHeartbeats 2000000 in
theorem idx_any (l : List En) (hl : l.length ≤ maxLen) (v : Int) (m : Nat) (A : Option Addr) (c : Nat) (w : World) (hA : Ents w A l) :
    Calls Tryd.prog 41 #[.slice A l.length c, .func (.func 42) #[.agg #[.int .i64 v, .int .u64 m]] #[]] w fun e w' => e = .returned (.int .i64 (idxE l v m)) ∧ Below w.heap.size w w' := by
  have HA := Lib.hid hA
  have HR := Lib.hid (fun x w => of_any v m x w)
  have eg : ∀ args w, (callFunc 42 args).run Tryd.prog w = .ok (.enter 42 args) w := enters_of Tryd.func42 (by kernel_rfl) rfl
  clear hA
  have hl' : l.length ≤ 9223372036854775807 := hl
  go_enter Tryd.func41, Tryd.ntmps41
  go_wp2
  go_loopw [5, 8] (fun _ ix wr => ∃ k : Nat, k ≤ l.length ∧ ix = .int .i64 k ∧ Aside (k ≤ posE l v m) ∧ Aside (Below w.heap.size w wr)) (fun _ ix _ => l.length - (intOf ix).toNat)
  case atStart => exact ⟨0, Nat.zero_le _, rfl, Nat.zero_le _, Below.refl _ _⟩
  case round =>
    obtain ⟨k, hk, rfl, HP, HB⟩ := hrel
    by_cases hlt : k < l.length
    · obtain ⟨b', o', rfl, _, c0, c1, c2, c3⟩ := (HA.out.below HB.out).at hlt
      have HR' := Lib.hid (fun w => HR.out l[k] w)
      cases hx : isK v m l[k] with
      | true =>
        have HE := Lib.hid (show idxE l v m = k by unfold idxE; rw [posE_hit hlt HP.out hx, if_pos hlt])
        rw [hx] at HR'
        clear hx
        generalize l[k] = x at *
        obtain ⟨x1, x2, x3, x4⟩ := x
        simp only at c0 c1 c2 c3 HR'
        go_wp2_with fail
        refine (HR'.out _).mono ?_; rintro e w1 ⟨rfl, hb1⟩
        have B2 := Lib.hid (Bx.then_below HB.out hb1)
        clear hb1
        go_wp2_with fail
        go_ret
        exact ⟨by rw [HE.out]; rfl, B2.out⟩
      | false =>
        have HP2 := Lib.hid (posE_miss hlt HP.out hx)
        rw [hx] at HR'
        clear hx
        generalize l[k] = x at *
        obtain ⟨x1, x2, x3, x4⟩ := x
        simp only at c0 c1 c2 c3 HR'
        go_wp2_with fail
        refine (HR'.out _).mono ?_; rintro e w1 ⟨rfl, hb1⟩
        have B2 := Lib.hid (Bx.then_below HB.out hb1)
        clear hb1
        go_wp2_with fail
        go_roundw
        case rel => exact ⟨k + 1, by omega, by go_num, HP2.out, B2.out⟩
        case measure => simp [intOf]; omega
    · have e1 : idxE l v m = -1 := by unfold idxE; rw [if_neg (by have := HP.out; omega)]
      go_wp2
      go_ret
      exact ⟨by rw [e1]; rfl, HB.out⟩

/-- What is found, or nothing. -/
def gotE (l : List En) (v : Int) (m : Nat) : En := (findE l v m).getD ⟨0, 0, 0, 0⟩
def isE (l : List En) (v : Int) (m : Nat) : Bool := (findE l v m).isSome

set_option maxRecDepth 20000 in
set_option maxHeartbeats 2000000 in
theorem find_any (most long : Int) (l : List En) (hl : l.length ≤ maxLen) (v : Int) (m : Nat) (A : Option Addr) (c : Nat) (w : World) (hA : Ents w A l) :
    Calls Tryd.prog 17 #[tv most long A l.length c, .int .i64 v, .int .u64 m] w fun e w' => e = .returned (.tuple #[ev (gotE l v m), .bool (isE l v m)]) ∧ Below w.heap.size w w' := by
  have HI := Lib.hid (fun (w : World) hA => idx_any l hl v m A c w hA)
  have bel := Lib.hid (Bx.bel_box (Bx.box_below w (to most long A l.length c)) (eo ⟨0, 0, 0, 0⟩))
  have A1 := Lib.hid (hA.below bel.out)
  have K := Lib.hid ((Fre.new w [.int .i64 most, .int .i64 long, .slice A l.length c] 24).keep (Bx.box_below _ (eo ⟨0, 0, 0, 0⟩)))
  have R : Hid (Fre ((w.alloc (to most long A l.length c)).alloc (eo ⟨0, 0, 0, 0⟩)) (w.heap.size + 1) [.int .i64 0, .int .u64 0, .int .i64 0, .int .i64 0]) := Lib.hid (by
    have := Fre.new (w.alloc (to most long A l.length c)) [.int .i64 0, .int .u64 0, .int .i64 0, .int .i64 0] 29
    rwa [show (w.alloc (to most long A l.length c)).heap.size = w.heap.size + 1 by simp] at this)
  clear hA
  have hle : w.heap.size ≤ w.heap.size + 1 := Nat.le_succ _
  by_cases hp : posE l v m < l.length
  · have e1 : idxE l v m = posE l v m := if_pos hp
    have e2 : findE l v m = some (l[posE l v m]) := by rw [find_pos, List.getElem?_eq_getElem hp]
    have e3 : gotE l v m = l[posE l v m] := by unfold gotE; rw [e2]; rfl
    have e4 : isE l v m = true := by unfold isE; rw [e2]; rfl
    rw [e1] at HI
    rw [e3, e4]
    have HX := Lib.hid (fun w (h : Ents w A l) => h.at hp)
    clear e1 e2 e3 e4
    generalize posE l v m = p at *
    generalize l[p] = x at *
    obtain ⟨x1, x2, x3, x4⟩ := x
    go_enter Tryd.func17, Tryd.ntmps17
    go_wp2_with fail
    refine (HI.out _ A1.out).mono ?_; rintro e w1 ⟨rfl, hb1⟩
    have bel2 := Lib.hid (Bx.then_below bel.out hb1)
    have A2 := Lib.hid (A1.out.below hb1)
    obtain ⟨⟨c0, c1, c2⟩, _⟩ := (K.out.keep hb1).all3
    have R1 := Lib.hid (R.out.keep hb1)
    obtain ⟨⟨r0, r1, r2, r3⟩, f0, f1, f2, f3⟩ := R1.out.all4
    clear hb1 HI K R A1 bel
    obtain ⟨b, o, hb, _, d0, d1, d2, d3⟩ := HX.out _ A2.out
    subst hb
    have R2 := Lib.hid ((R1.out.1.put4 (x0 := .int .i64 x1) (x1 := .int .u64 x2) (x2 := .int .i64 x3) (x3 := .int .i64 x4)).all4)
    have bel3 := Lib.hid ((((bel2.out.setCell (p := ⟨w.heap.size + 1, 0, none⟩) hle (.int .i64 x1)).setCell (p := ⟨w.heap.size + 1, 1, none⟩) hle (.int .u64 x2)).setCell (p := ⟨w.heap.size + 1, 2, none⟩) hle (.int .i64 x3)).setCell (p := ⟨w.heap.size + 1, 3, none⟩) hle (.int .i64 x4))
    clear A2 bel2 R1 HX
    go_wp2_with fail
    refine bodyPost_ret (v := .tuple #[ev ⟨x1, x2, x3, x4⟩, .bool true]) ?_ rfl ?_
    · obtain ⟨d0, d1, d2, d3⟩ := R2.out
      simp [results, Tryd.results17, d0, d1, d2, d3, go_sem]
    · exact ⟨rfl, bel3.out⟩
  · have e1 : idxE l v m = -1 := if_neg hp
    have e2 : findE l v m = none := by rw [find_pos, List.getElem?_eq_none (by omega)]
    have e3 : gotE l v m = ⟨0, 0, 0, 0⟩ := by unfold gotE; rw [e2]; rfl
    have e4 : isE l v m = false := by unfold isE; rw [e2]; rfl
    rw [e1] at HI
    rw [e3, e4]
    clear e1 e2 e3 e4
    go_enter Tryd.func17, Tryd.ntmps17
    go_wp2_with fail
    refine (HI.out _ A1.out).mono ?_; rintro e w1 ⟨rfl, hb1⟩
    have bel2 := Lib.hid (Bx.then_below bel.out hb1)
    have A2 := Lib.hid (A1.out.below hb1)
    obtain ⟨⟨c0, c1, c2⟩, _⟩ := (K.out.keep hb1).all3
    have R1 := Lib.hid (R.out.keep hb1)
    obtain ⟨⟨r0, r1, r2, r3⟩, f0, f1, f2, f3⟩ := R1.out.all4
    clear hb1 HI K R A1 bel
    have R2 := Lib.hid ((R1.out.1.put4 (x0 := .int .i64 0) (x1 := .int .u64 0) (x2 := .int .i64 0) (x3 := .int .i64 0)).all4)
    have bel3 := Lib.hid ((((bel2.out.setCell (p := ⟨w.heap.size + 1, 0, none⟩) hle (.int .i64 0)).setCell (p := ⟨w.heap.size + 1, 1, none⟩) hle (.int .u64 0)).setCell (p := ⟨w.heap.size + 1, 2, none⟩) hle (.int .i64 0)).setCell (p := ⟨w.heap.size + 1, 3, none⟩) hle (.int .i64 0))
    clear A2 bel2 R1
    go_wp2_with fail
    refine bodyPost_ret (v := .tuple #[ev ⟨0, 0, 0, 0⟩, .bool false]) ?_ rfl ?_
    · obtain ⟨d0, d1, d2, d3⟩ := R2.out
      simp [results, Tryd.results17, d0, d1, d2, d3, go_sem]
    · exact ⟨rfl, bel3.out⟩

end Tab
end Go.Proofs.YtfnjgjehmddkcaaDoor
