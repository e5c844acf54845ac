/-
  Packed in one text: MemI, FwdJ, TabOpen.
-/
import Derived.Test.YtmojegnflcokjaaDoorPkMemB
import Derived.Test.YtmojegnflcokjaaDoorFwdH
import Derived.Test.YtmojegnflcokjaaDoorTabK
import Derived.Test.YtmojegnflcokjaaDoorPkPorB
import Derived.WideShapes
/-
  The usual plan, as package member and the document make it.
-/
namespace Go.Proofs.YtmojegnflcokjaaDoor
open Go.RowKit
namespace Mem
open Oct Eth

/-- The VLANs of the usual plan. -/
def usualL : List Vl := [⟨1, 0, 255⟩, ⟨10, 128, 0⟩, ⟨20, 128, 0⟩, ⟨30, 128, 0⟩]

theorem pc_set (o k : Nat → Int) (A : Option Addr) (n c : Nat) (x : Int) {i : Nat} (h : i < 8) : (pc o k A n c).set i (.int .i64 x) = pc (fun j => if j = i then x else o j) k A n c := by
  have : i = 0 ∨ i = 1 ∨ i = 2 ∨ i = 3 ∨ i = 4 ∨ i = 5 ∨ i = 6 ∨ i = 7 := by omega
  rcases this with rfl | rfl | rfl | rfl | rfl | rfl | rfl | rfl <;> rfl

theorem pc_set_take (o k : Nat → Int) (A : Option Addr) (n c : Nat) (x : Int) {i : Nat} (h : i < 8) : (pc o k A n c).set (8 + i) (.int .i64 x) = pc o (fun j => if j = i then x else k j) A n c := by
  have : i = 0 ∨ i = 1 ∨ i = 2 ∨ i = 3 ∨ i = 4 ∨ i = 5 ∨ i = 6 ∨ i = 7 := by omega
  rcases this with rfl | rfl | rfl | rfl | rfl | rfl | rfl | rfl <;> rfl

/-- Behind so many rounds. -/
def up (i : Nat) : Nat → Int := fun j => if j < i then 1 else 0

theorem up_next (i : Nat) : (fun j => if j = i then (1 : Int) else up i j) = up (i + 1) := by
  funext j
  unfold up
  split
  · rw [if_pos (by omega)]
  · split
    · rw [if_pos (by omega)]
    · rw [if_neg (by omega)]

theorem vls_new (W : World) : Vls (W.alloc (.cells #[.int .i64 1, .int .i64 0, .int .i64 255, .int .i64 10, .int .i64 128, .int .i64 0, .int .i64 20, .int .i64 128, .int .i64 0, .int .i64 30, .int .i64 128, .int .i64 0] 80)) (some ⟨W.heap.size, 0, none⟩) usualL := by
  have h := Bx.Blk.new W [.int .i64 1, .int .i64 0, .int .i64 255, .int .i64 10, .int .i64 128, .int .i64 0, .int .i64 20, .int .i64 128, .int .i64 0, .int .i64 30, .int .i64 128, .int .i64 0] 80
  have hs : W.heap.size < (W.alloc (.cells #[.int .i64 1, .int .i64 0, .int .i64 255, .int .i64 10, .int .i64 128, .int .i64 0, .int .i64 20, .int .i64 128, .int .i64 0, .int .i64 30, .int .i64 128, .int .i64 0] 80)).heap.size := by simp
  intro j x hj
  match j, hj with
  | 0, hj => obtain rfl : (⟨1, 0, 255⟩ : Vl) = x := Option.some.inj hj; exact ⟨_, _, rfl, hs, h.at 0 rfl, h.at 1 rfl, h.at 2 rfl⟩
  | 1, hj => obtain rfl : (⟨10, 128, 0⟩ : Vl) = x := Option.some.inj hj; exact ⟨_, _, rfl, hs, h.at 3 rfl, h.at 4 rfl, h.at 5 rfl⟩
  | 2, hj => obtain rfl : (⟨20, 128, 0⟩ : Vl) = x := Option.some.inj hj; exact ⟨_, _, rfl, hs, h.at 6 rfl, h.at 7 rfl, h.at 8 rfl⟩
  | 3, hj => obtain rfl : (⟨30, 128, 0⟩ : Vl) = x := Option.some.inj hj; exact ⟨_, _, rfl, hs, h.at 9 rfl, h.at 10 rfl, h.at 11 rfl⟩
  | j + 4, hj => simp [usualL] at hj

theorem Vls.apart {W : World} {b k : Nat} {l : List Vl} {m : List Value} (h : Vls W (some ⟨b, 0, none⟩) l) (hne : b ≠ k) : Vls (W.setCells k 0 m) (some ⟨b, 0, none⟩) l := fun j x hj => by
  obtain ⟨b', o, e, h1, h2, h3, h4⟩ := h j x hj
  cases e
  exact ⟨_, _, rfl, World.block_lt_of_cell? _ _ (Bx.cell_cells h2 hne), Bx.cell_cells h2 hne, Bx.cell_cells h3 hne, Bx.cell_cells h4 hne⟩

theorem zero_next (i : Nat) : (fun j => if j = i then (0 : Int) else (fun _ => (0 : Int)) j) = fun _ => 0 := by
  funext j
  simp

set_option maxRecDepth 100000 in
set_option maxHeartbeats 4000000 in
theorem usual_any (w : World) :
    Calls Tryd.prog 32 #[] w fun e w' => ∃ b, e = .returned (pv (fun _ => 1) (fun _ => 0) (some ⟨b, 0, none⟩) 4 4) ∧ Vls w' (some ⟨b, 0, none⟩) usualL ∧ Below w.heap.size w w' := by
  have R := Lib.hid (Bx.Own.new w (pc (fun _ => 0) (fun _ => 0) none 0 0) 28)
  have B0 := Lib.hid (Bx.box_below w (po (fun _ => 0) (fun _ => 0) none 0 0))
  go_enter Tryd.func32, Tryd.ntmps32
  go_wp2_with fail
  have hR := (R.out.more (.cells #[.int .i64 1, .int .i64 0, .int .i64 255, .int .i64 10, .int .i64 128, .int .i64 0, .int .i64 20, .int .i64 128, .int .i64 0, .int .i64 30, .int .i64 128, .int .i64 0] 80))
  have hB := Bx.bel_box B0.out (.cells #[.int .i64 1, .int .i64 0, .int .i64 255, .int .i64 10, .int .i64 128, .int .i64 0, .int .i64 20, .int .i64 128, .int .i64 0, .int .i64 30, .int .i64 128, .int .i64 0] 80)
  have hV := vls_new (w.alloc (po (fun _ => 0) (fun _ => 0) none 0 0))
  have hs : w.heap.size + 1 + 1 = ((w.alloc (po (fun _ => 0) (fun _ => 0) none 0 0)).alloc (.cells #[.int .i64 1, .int .i64 0, .int .i64 255, .int .i64 10, .int .i64 128, .int .i64 0, .int .i64 20, .int .i64 128, .int .i64 0, .int .i64 30, .int .i64 128, .int .i64 0] 80)).heap.size := by simp
  rw [show (w.alloc (po (fun _ => 0) (fun _ => 0) none 0 0)).heap.size = w.heap.size + 1 by simp] at hV
  generalize hg : (w.alloc (po (fun _ => 0) (fun _ => 0) none 0 0)).alloc (.cells #[.int .i64 1, .int .i64 0, .int .i64 255, .int .i64 10, .int .i64 128, .int .i64 0, .int .i64 20, .int .i64 128, .int .i64 0, .int .i64 30, .int .i64 128, .int .i64 0] 80) = W1 at *
  clear hg R B0
  generalize w.heap.size + 1 + 1 = n2 at *
  have hne : (w.heap.size + 1) ≠ w.heap.size := by omega
  generalize w.heap.size + 1 = n1 at *
  subst hs
  have HF0 := Lib.hid (Bx.Fre.new W1 (pc (up 0) (fun _ => 0) (some ⟨n1, 0, none⟩) 4 4) 28)
  have HB0 := Lib.hid (Bx.box_below W1 (po (up 0) (fun _ => 0) (some ⟨n1, 0, none⟩) 4 4))
  have HR := Lib.hid hR
  have HB1 := Lib.hid hB
  have HV := Lib.hid hV
  clear hR hB hV
  go_loopw [2, 9] (fun _ ix wr => ∃ i : Nat, i ≤ 8 ∧ ix = .int .i64 i ∧ Aside (Bx.Fre wr W1.heap.size (pc (up i) (fun _ => 0) (some ⟨n1, 0, none⟩) 4 4)) ∧ Aside (Below W1.heap.size W1 wr)) (fun _ ix _ => 8 - (intOf ix).toNat)
  case atStart => exact ⟨0, Nat.zero_le _, rfl, HF0.out, HB0.out⟩
  case round =>
    obtain ⟨i, hi, rfl, HF, HB⟩ := hrel
    by_cases hlt : i < 8
    · have hlt2 : (i : Int) < 8 := by omega
      have hin : ((i : Int)).toNat = i := by omega
      have c0 := HF.out.1.at i (pc_own (up i) (fun _ => 0) (some ⟨n1, 0, none⟩) 4 4 hlt)
      have f0 := HF.out.2.2 i
      have Q1 := Lib.hid (HF.out.set i (.int .i64 1))
      rw [pc_set _ _ _ _ _ _ hlt, up_next] at Q1
      have BQ := Lib.hid (HB.out.setCell (p := ⟨W1.heap.size, i, none⟩) (Nat.le_refl _) (.int .i64 1))
      have c1 := Q1.out.1.at (8 + i) (pc_take (up (i + 1)) (fun _ => 0) (some ⟨n1, 0, none⟩) 4 4 hlt)
      have f1 := HF.out.2.2 (8 + i)
      replace Q1 := Lib.hid (Q1.out.set (8 + i) (.int .i64 0))
      rw [pc_set_take _ _ _ _ _ _ hlt, zero_next] at Q1
      replace BQ := Lib.hid (BQ.out.setCell (p := ⟨W1.heap.size, 8 + i, none⟩) (Nat.le_refl _) (.int .i64 0))
      go_wp2
      go_roundw
      case rel => exact ⟨i + 1, by omega, by go_num, Q1.out, BQ.out⟩
      case measure => simp [intOf]; omega
    · obtain rfl : i = 8 := by omega
      have P1 := Lib.hid (show Bx.Blk wr W1.heap.size (pc (fun _ => 1) (fun _ => 0) (some ⟨n1, 0, none⟩) 4 4) from HF.out.1)
      have P2 := Lib.hid (HR.out.keep HB.out)
      have P3 := Lib.hid (P2.out.put (m := pc (fun _ => 1) (fun _ => 0) (some ⟨n1, 0, none⟩) 4 4) rfl)
      have P4 := Lib.hid (Bx.bel_cells (m := pc (fun _ => 1) (fun _ => 0) (some ⟨n1, 0, none⟩) 4 4) (Bx.then_below HB1.out HB.out) (Nat.le_refl _))
      have P5 := Lib.hid ((HV.out.below HB.out).apart (m := pc (fun _ => 1) (fun _ => 0) (some ⟨n1, 0, none⟩) 4 4) (k := w.heap.size) hne)
      clear HF HR HB HB1 HV HF0 HB0
      go_wp2_with (first | ((with_reducible refine load_at ?_ ?_ W1.heap.size ?_ (fun _ => 1) (fun _ => 0) (some ⟨n1, 0, none⟩) 4 4 ?_ ?_); (· rfl); (· rfl); (· rfl); (· exact P1.out)) | ((with_reducible refine store_at ?_ ?_ w.heap.size (pc (fun _ => 0) (fun _ => 0) none 0 0) rfl (fun _ => 1) (fun _ => 0) (some ⟨n1, 0, none⟩) 4 4 ?_ ?_ ?_ ?_); (· rfl); (· rfl); (· rfl); (· rfl); (· exact P2.out)))
      refine bodyPost_ret (v := pv (fun _ => 1) (fun _ => 0) (some ⟨n1, 0, none⟩) 4 4) ?_ rfl ?_
      · obtain ⟨d0, d1, d2, d3, d4, d5, d6, d7, d8, d9, d10, d11, d12, d13, d14, d15, d16⟩ := P3.out.blk.all17
        simp [results, Tryd.results32, d0, d1, d2, d3, d4, d5, d6, d7, d8, d9, d10, d11, d12, d13, d14, d15, d16, go_sem]
      · exact ⟨_, rfl, P5.out, P4.out⟩

end Mem
end Go.Proofs.YtmojegnflcokjaaDoor

/-
  The check of single answers that the statements of layer 16 end with (tipstafflaw16.awake) comes out true, in every memory that holds the table of reserved addresses, and changes nothing that was there.
-/
namespace Go.Proofs.YtmojegnflcokjaaDoor
open Go.RowKit
namespace Fwd
open Oct Eth Tab

set_option maxRecDepth 20000 in
theorem aw_u (A : Option Addr) (c : Nat) (AP : Option Addr) (w : World) (hA : Tab.Ents w A []) (hP : Mem.Vls w AP Mem.usualL) (hm : Home w) :
    Calls Tryd.prog 9 #[tv 4 9 A 0 c, Mem.pv (fun _ => 1) (fun _ => 0) AP 4 4, fr 4 2 false 0 0 2048 ⟨#[]⟩, .int .i64 0, .int .i64 255, .int .i64 255] w fun e w' => ∃ B c' Ao co, e = .returned (.tuple #[tv 4 9 B 1 c', .slice Ao 7 co]) ∧ Tab.Ents w' B [⟨1, 2, 0, 0⟩] ∧ Below w.heap.size w w' :=
  (forward_any 4 9 [] (by decide) A c (fun _ => 1) (fun _ => 0) Mem.usualL (by decide) AP 4 4 (by decide) 2 (by decide) false 0 0 2048 ⟨#[]⟩ 0 255 255 w hA hP hm).mono fun e w' ⟨B, c', Ao, co, he, _, _, hE, hO, hb⟩ => by
    have e1 : fwdL 4 [] (fun _ => 1) (fun _ => 0) Mem.usualL 4 2 false 0 2048 0 255 = [⟨1, 2, 0, 0⟩] := by decide +kernel
    have e2 : (fwdO 4 [] (fun _ => 1) (fun _ => 0) Mem.usualL 4 2 false 0 0 2048 ⟨#[]⟩ 0 255 255).length = 7 := by decide +kernel
    rw [e1] at he hE
    rw [e2] at he
    exact ⟨B, c', Ao, co, he, hE, hb⟩

set_option maxRecDepth 20000 in
theorem aw_v (A : Option Addr) (c : Nat) (AP : Option Addr) (w : World) (hA : Tab.Ents w A [⟨1, 2, 0, 0⟩]) (hP : Mem.Vls w AP Mem.usualL) (hm : Home w) :
    Calls Tryd.prog 9 #[tv 4 9 A 1 c, Mem.pv (fun _ => 1) (fun _ => 0) AP 4 4, fr 2 4 false 0 0 2048 ⟨#[]⟩, .int .i64 3, .int .i64 255, .int .i64 255] w fun e w' => ∃ B c' Ao co, e = .returned (.tuple #[tv 4 9 B 2 c', .slice Ao 1 co]) ∧ Tab.Ents w' B [⟨1, 2, 0, 0⟩, ⟨1, 4, 3, 0⟩] ∧ (∃ b o, Ao = some ⟨b, o, none⟩ ∧ w'.cell? ⟨b, o, none⟩ = some (.int .i64 0)) ∧ Below w.heap.size w w' :=
  (forward_any 4 9 [⟨1, 2, 0, 0⟩] (by decide) A c (fun _ => 1) (fun _ => 0) Mem.usualL (by decide) AP 4 2 (by decide) 4 (by decide) false 0 0 2048 ⟨#[]⟩ 3 255 255 w hA hP hm).mono fun e w' ⟨B, c', Ao, co, he, _, _, hE, hO, hb⟩ => by
    have e1 : fwdL 4 [⟨1, 2, 0, 0⟩] (fun _ => 1) (fun _ => 0) Mem.usualL 2 4 false 0 2048 3 255 = [⟨1, 2, 0, 0⟩, ⟨1, 4, 3, 0⟩] := by decide +kernel
    have e2 : (fwdO 4 [⟨1, 2, 0, 0⟩] (fun _ => 1) (fun _ => 0) Mem.usualL 2 4 false 0 0 2048 ⟨#[]⟩ 3 255 255).length = 1 := by decide +kernel
    have e3 : (fwdO 4 [⟨1, 2, 0, 0⟩] (fun _ => 1) (fun _ => 0) Mem.usualL 2 4 false 0 0 2048 ⟨#[]⟩ 3 255 255).map (·.q) = [0] := by decide +kernel
    have hx : ∃ b o, Ao = some ⟨b, o, none⟩ ∧ w'.cell? ⟨b, o, none⟩ = some (.int .i64 0) := by
      obtain ⟨b, o, h1, _, h2, _⟩ := hO.at (k := 0) (by rw [e2]; decide)
      have e4 : ((fwdO 4 [⟨1, 2, 0, 0⟩] (fun _ => 1) (fun _ => 0) Mem.usualL 2 4 false 0 0 2048 ⟨#[]⟩ 3 255 255)[0]'(by rw [e2]; decide)).q = 0 := by
        have h := congrArg (fun l : List Int => l[0]?) e3
        simpa [List.getElem?_eq_getElem (show 0 < (fwdO 4 [⟨1, 2, 0, 0⟩] (fun _ => 1) (fun _ => 0) Mem.usualL 2 4 false 0 0 2048 ⟨#[]⟩ 3 255 255).length by rw [e2]; decide)] using h
      rw [e4, Nat.zero_mul, Nat.add_zero] at h2
      exact ⟨b, o, h1, h2⟩
    rw [e1] at he hE
    rw [e2] at he
    exact ⟨B, c', Ao, co, he, hE, hx, hb⟩

set_option maxRecDepth 20000 in
theorem aw_n (A : Option Addr) (c : Nat) (AP : Option Addr) (w : World) (hA : Tab.Ents w A [⟨1, 2, 0, 0⟩, ⟨1, 4, 3, 0⟩]) (hP : Mem.Vls w AP Mem.usualL) (hm : Home w) :
    Calls Tryd.prog 9 #[tv 4 9 A 2 c, Mem.pv (fun _ => 1) (fun _ => 0) AP 4 4, fr 1652522221568 4 false 0 0 0 ⟨#[]⟩, .int .i64 3, .int .i64 255, .int .i64 255] w fun e w' => ∃ B c' Ao co, e = .returned (.tuple #[tv 4 9 B 2 c', .slice Ao 0 co]) ∧ Tab.Ents w' B [⟨1, 2, 0, 0⟩, ⟨1, 4, 3, 0⟩] ∧ Below w.heap.size w w' :=
  (forward_any 4 9 [⟨1, 2, 0, 0⟩, ⟨1, 4, 3, 0⟩] (by decide) A c (fun _ => 1) (fun _ => 0) Mem.usualL (by decide) AP 4 1652522221568 (by decide) 4 (by decide) false 0 0 0 ⟨#[]⟩ 3 255 255 w hA hP hm).mono fun e w' ⟨B, c', Ao, co, he, _, _, hE, hO, hb⟩ => by
    have e1 : fwdL 4 [⟨1, 2, 0, 0⟩, ⟨1, 4, 3, 0⟩] (fun _ => 1) (fun _ => 0) Mem.usualL 1652522221568 4 false 0 0 3 255 = [⟨1, 2, 0, 0⟩, ⟨1, 4, 3, 0⟩] := by decide +kernel
    have e2 : (fwdO 4 [⟨1, 2, 0, 0⟩, ⟨1, 4, 3, 0⟩] (fun _ => 1) (fun _ => 0) Mem.usualL 1652522221568 4 false 0 0 0 ⟨#[]⟩ 3 255 255).length = 0 := by decide +kernel
    rw [e1] at he hE
    rw [e2] at he
    exact ⟨B, c', Ao, co, he, hE, hb⟩

set_option maxRecDepth 20000 in
theorem aw_o (A : Option Addr) (c : Nat) (AP : Option Addr) (w : World) (hA : Tab.Ents w A [⟨1, 2, 0, 0⟩, ⟨1, 4, 3, 0⟩]) (hP : Mem.Vls w AP Mem.usualL) (hm : Home w) :
    Calls Tryd.prog 9 #[tv 4 9 A 2 c, Mem.pv (fun _ => 1) (fun _ => 0) AP 4 4, fr 2 4 false 0 0 0 ⟨#[]⟩, .int .i64 3, .int .i64 255, .int .i64 254] w fun e w' => ∃ B c' Ao co, e = .returned (.tuple #[tv 4 9 B 2 c', .slice Ao 0 co]) ∧ Tab.Ents w' B [⟨1, 2, 0, 0⟩, ⟨1, 4, 3, 0⟩] ∧ Below w.heap.size w w' :=
  (forward_any 4 9 [⟨1, 2, 0, 0⟩, ⟨1, 4, 3, 0⟩] (by decide) A c (fun _ => 1) (fun _ => 0) Mem.usualL (by decide) AP 4 2 (by decide) 4 (by decide) false 0 0 0 ⟨#[]⟩ 3 255 254 w hA hP hm).mono fun e w' ⟨B, c', Ao, co, he, _, _, hE, hO, hb⟩ => by
    have e1 : fwdL 4 [⟨1, 2, 0, 0⟩, ⟨1, 4, 3, 0⟩] (fun _ => 1) (fun _ => 0) Mem.usualL 2 4 false 0 0 3 255 = [⟨1, 2, 0, 0⟩, ⟨1, 4, 3, 0⟩] := by decide +kernel
    have e2 : (fwdO 4 [⟨1, 2, 0, 0⟩, ⟨1, 4, 3, 0⟩] (fun _ => 1) (fun _ => 0) Mem.usualL 2 4 false 0 0 0 ⟨#[]⟩ 3 255 254).length = 0 := by decide +kernel
    rw [e1] at he hE
    rw [e2] at he
    exact ⟨B, c', Ao, co, he, hE, hb⟩

theorem aw_new (w : World) : Calls Tryd.prog 19 #[.int .i64 4, .int .i64 9] w fun e w' => e = .returned (.tuple #[tv 4 9 none 0 0, .int .i64 0]) ∧ Below w.heap.size w w' := new_any 4 9 w

theorem aw_k1 (w : World) (hm : Home w) : Calls Tryd.prog 12 #[fr 0 0 false 0 0 34958 ⟨#[]⟩] w fun e w' => e = .returned (.int .i64 1) ∧ Below w.heap.size w w' := kind_any 0 0 false 0 0 34958 ⟨#[]⟩ w hm

theorem aw_k3 (w : World) (hm : Home w) : Calls Tryd.prog 12 #[fr 1652522221582 0 false 0 0 0 ⟨#[]⟩] w fun e w' => e = .returned (.int .i64 3) ∧ Below w.heap.size w w' := kind_any 1652522221582 0 false 0 0 0 ⟨#[]⟩ w hm

theorem aw_p (A : Option Addr) (c : Nat) (AP : Option Addr) (w : World) (hA : Tab.Ents w A [⟨1, 2, 0, 0⟩, ⟨1, 4, 3, 0⟩]) (hP : Mem.Vls w AP Mem.usualL) (hm : Home w) :
    Calls Tryd.prog 16 #[tv 4 9 A 2 c, Mem.pv (fun _ => 1) (fun _ => 0) AP 4 4, fr 1099511627776 0 false 0 0 0 ⟨#[]⟩, .int .i64 1, .int .i64 2, .int .i64 7] w fun e w' => e = .returned (.int .i64 3) ∧ Below w.heap.size w w' := by
  have h := ports_any 4 9 [⟨1, 2, 0, 0⟩, ⟨1, 4, 3, 0⟩] (by decide) A c (fun _ => 1) (fun _ => 0) Mem.usualL (by decide) AP 4 1099511627776 (by decide) 0 false 0 0 0 ⟨#[]⟩ 1 2 7 w hA hP hm
  rwa [show portsI [⟨1, 2, 0, 0⟩, ⟨1, 4, 3, 0⟩] Mem.usualL 0 1099511627776 1 2 7 = 3 by decide +kernel] at h

theorem aw_l (w : World) : Calls Tryd.prog 14 #[tv 4 9 none 0 0, fr 0 6 false 0 0 0 ⟨#[]⟩, .int .i64 1, .int .i64 0, .int .i64 0] w fun e w' => ∃ B c', e = .returned (tv 4 9 B 0 c') ∧ Below w.heap.size w w' :=
  (learns_any 4 9 [] (by decide) none 0 0 6 (by decide) false 0 0 0 ⟨#[]⟩ 1 0 0 w (Tab.Ents.nil _ _)).mono fun e w' ⟨B, c', he, _, _, hb⟩ => by
    rw [show learnsL 4 [] 1 6 0 0 = [] by decide +kernel] at he
    exact ⟨B, c', he, hb⟩

set_option maxRecDepth 100000 in
set_option maxHeartbeats 8000000 in
theorem awake_any (w : World) (hm : Home w) : Calls Tryd.prog 8 #[] w fun e w' => e = .returned (.bool true) ∧ Below w.heap.size w w' := by
  have HM := Lib.hid hm
  have B := Lib.hid (Bx.bel_refl w)
  clear hm
  go_enter Tryd.func8, Tryd.ntmps8
  go_wp2_with fail
  refine (aw_new _).mono ?_; rintro e w1 ⟨rfl, hb⟩
  replace hb := Bx.bel_box hb (to 4 9 none 0 0)
  replace B := Lib.hid (Bx.then_below B.out hb)
  replace HM := Lib.hid (HM.out.below hb)
  have T1 := Lib.hid (Bx.Blk.new w1 [.int .i64 4, .int .i64 9, .slice none 0 0] 24)
  clear hb
  go_wp2_with fail
  generalize hg : w1.alloc (to 4 9 none 0 0) = W1 at *
  clear hg
  generalize w1.heap.size = n1 at *
  refine (Mem.usual_any _).mono ?_; rintro e w2 ⟨b, rfl, hV, hb⟩
  generalize (some ⟨b, 0, none⟩ : Option Addr) = AP at *
  replace hb := Bx.bel_box hb (Mem.po (fun _ => 1) (fun _ => 0) AP 4 4)
  replace B := Lib.hid (Bx.then_below B.out hb)
  replace HM := Lib.hid (HM.out.below hb)
  replace T1 := Lib.hid (T1.out.keep hb)
  have V := Lib.hid (hV.below (Bx.box_below w2 (Mem.po (fun _ => 1) (fun _ => 0) AP 4 4)))
  have P := Lib.hid (Bx.Blk.new w2 (Mem.pc (fun _ => 1) (fun _ => 0) AP 4 4) 28)
  clear hb hV
  obtain ⟨t0, t1, t2⟩ := T1.out.all3
  go_wp2_with (first | ((with_reducible refine Mem.load_at ?_ ?_ w2.heap.size ?_ (fun _ => 1) (fun _ => 0) AP 4 4 ?_ ?_); (· rfl); (· rfl); (· rfl); (· exact P.out)))
  clear t0 t1 t2
  generalize hg : w2.alloc (Mem.po (fun _ => 1) (fun _ => 0) AP 4 4) = W2 at *
  clear hg
  generalize w2.heap.size = n3 at *
  refine (aw_u none 0 _ _ (Tab.Ents.nil _ none) V.out HM.out).mono ?_; rintro e w3 ⟨B3, c3, A3, d3, rfl, hE, hb⟩
  have hk := Bx.box_below w3 (to 4 9 B3 1 c3)
  replace hb := Bx.bel_box hb (to 4 9 B3 1 c3)
  replace B := Lib.hid (Bx.then_below B.out hb)
  replace HM := Lib.hid (HM.out.below hb)
  replace T1 := Lib.hid (T1.out.keep hb)
  replace V := Lib.hid (V.out.below hb)
  replace P := Lib.hid (P.out.keep hb)
  have U4 := Lib.hid (Bx.Blk.new w3 [.int .i64 4, .int .i64 9, .slice B3 1 c3] 24)
  have EU := Lib.hid (hE.below hk)
  clear hb hk hE
  obtain ⟨t0, t1, t2⟩ := U4.out.all3
  go_wp2_with (first | ((with_reducible refine Mem.load_at ?_ ?_ n3 ?_ (fun _ => 1) (fun _ => 0) AP 4 4 ?_ ?_); (· rfl); (· rfl); (· rfl); (· exact P.out)))
  clear t0 t1 t2
  generalize hg : w3.alloc (to 4 9 B3 1 c3) = W3 at *
  clear hg
  generalize w3.heap.size = n4 at *
  refine (aw_v _ _ _ _ EU.out V.out HM.out).mono ?_; rintro e w4 ⟨B4, c4, A4, d4, rfl, hE, hx, hb⟩
  have hk := Bx.box_below w4 (to 4 9 B4 2 c4)
  replace hb := Bx.bel_box hb (to 4 9 B4 2 c4)
  replace B := Lib.hid (Bx.then_below B.out hb)
  replace HM := Lib.hid (HM.out.below hb)
  replace T1 := Lib.hid (T1.out.keep hb)
  replace V := Lib.hid (V.out.below hb)
  replace P := Lib.hid (P.out.keep hb)
  replace U4 := Lib.hid (U4.out.keep hb)
  replace EU := Lib.hid (EU.out.below hb)
  have V6 := Lib.hid (Bx.Blk.new w4 [.int .i64 4, .int .i64 9, .slice B4 2 c4] 24)
  have EV := Lib.hid (hE.below hk)
  obtain ⟨bx, ox, rfl, hx⟩ := hx
  have MX := Lib.hid (Bx.keep_cell hk hx)
  clear hx
  clear hb hk hE
  obtain ⟨t0, t1, t2⟩ := V6.out.all3
  go_wp2_with (first | ((with_reducible refine Mem.load_at ?_ ?_ n3 ?_ (fun _ => 1) (fun _ => 0) AP 4 4 ?_ ?_); (· rfl); (· rfl); (· rfl); (· exact P.out)))
  clear t0 t1 t2
  generalize hg : w4.alloc (to 4 9 B4 2 c4) = W4 at *
  clear hg
  generalize w4.heap.size = n6 at *
  refine (aw_n _ _ _ _ EV.out V.out HM.out).mono ?_; rintro e w5 ⟨B5, c5, A5, d5, rfl, hE, hb⟩
  have hk := Bx.box_below w5 (to 4 9 B5 2 c5)
  replace hb := Bx.bel_box hb (to 4 9 B5 2 c5)
  replace B := Lib.hid (Bx.then_below B.out hb)
  replace HM := Lib.hid (HM.out.below hb)
  replace T1 := Lib.hid (T1.out.keep hb)
  replace V := Lib.hid (V.out.below hb)
  replace P := Lib.hid (P.out.keep hb)
  replace U4 := Lib.hid (U4.out.keep hb)
  replace EU := Lib.hid (EU.out.below hb)
  replace V6 := Lib.hid (V6.out.keep hb)
  replace EV := Lib.hid (EV.out.below hb)
  replace MX := Lib.hid (Bx.keep_cell hb MX.out)
  have N8 := Lib.hid (Bx.Blk.new w5 [.int .i64 4, .int .i64 9, .slice B5 2 c5] 24)
  have EN := Lib.hid (hE.below hk)
  clear hb hk hE
  obtain ⟨t0, t1, t2⟩ := V6.out.all3
  go_wp2_with (first | ((with_reducible refine Mem.load_at ?_ ?_ n3 ?_ (fun _ => 1) (fun _ => 0) AP 4 4 ?_ ?_); (· rfl); (· rfl); (· rfl); (· exact P.out)))
  clear t0 t1 t2
  generalize hg : w5.alloc (to 4 9 B5 2 c5) = W5 at *
  clear hg
  generalize w5.heap.size = n8 at *
  refine (aw_o _ _ _ _ EV.out V.out HM.out).mono ?_; rintro e w6 ⟨B6, c6, A6, d6, rfl, hE, hb⟩
  have hk := Bx.box_below w6 (to 4 9 B6 2 c6)
  replace hb := Bx.bel_box hb (to 4 9 B6 2 c6)
  replace B := Lib.hid (Bx.then_below B.out hb)
  replace HM := Lib.hid (HM.out.below hb)
  replace T1 := Lib.hid (T1.out.keep hb)
  replace V := Lib.hid (V.out.below hb)
  replace P := Lib.hid (P.out.keep hb)
  replace U4 := Lib.hid (U4.out.keep hb)
  replace EU := Lib.hid (EU.out.below hb)
  replace V6 := Lib.hid (V6.out.keep hb)
  replace EV := Lib.hid (EV.out.below hb)
  replace MX := Lib.hid (Bx.keep_cell hb MX.out)
  have O10 := Lib.hid (Bx.Blk.new w6 [.int .i64 4, .int .i64 9, .slice B6 2 c6] 24)
  have EO := Lib.hid (hE.below hk)
  clear hb hk hE
  obtain ⟨-, -, u2⟩ := U4.out.all3
  obtain ⟨v0, v1, v2⟩ := V6.out.all3
  obtain ⟨t0, t1, t2⟩ := T1.out.all3
  have mx := MX.out
  go_wp2_with fail
  refine (aw_k1 _ HM.out).mono ?_; rintro e w7 ⟨rfl, hb⟩
  replace B := Lib.hid (Bx.then_below B.out hb)
  replace HM := Lib.hid (HM.out.below hb)
  replace T1 := Lib.hid (T1.out.keep hb)
  replace V := Lib.hid (V.out.below hb)
  replace P := Lib.hid (P.out.keep hb)
  replace U4 := Lib.hid (U4.out.keep hb)
  replace EU := Lib.hid (EU.out.below hb)
  replace V6 := Lib.hid (V6.out.keep hb)
  replace EV := Lib.hid (EV.out.below hb)
  replace MX := Lib.hid (Bx.keep_cell hb MX.out)
  clear hb u2 v0 v1 v2 t0 t1 t2 mx
  obtain ⟨-, -, u2⟩ := U4.out.all3
  obtain ⟨v0, v1, v2⟩ := V6.out.all3
  obtain ⟨t0, t1, t2⟩ := T1.out.all3
  have mx := MX.out
  go_wp2_with (first | ((with_reducible refine Mem.load_at ?_ ?_ n3 ?_ (fun _ => 1) (fun _ => 0) AP 4 4 ?_ ?_); (· rfl); (· rfl); (· rfl); (· exact P.out)))
  refine (aw_k3 _ HM.out).mono ?_; rintro e w8 ⟨rfl, hb⟩
  replace B := Lib.hid (Bx.then_below B.out hb)
  replace HM := Lib.hid (HM.out.below hb)
  replace T1 := Lib.hid (T1.out.keep hb)
  replace V := Lib.hid (V.out.below hb)
  replace P := Lib.hid (P.out.keep hb)
  replace U4 := Lib.hid (U4.out.keep hb)
  replace EU := Lib.hid (EU.out.below hb)
  replace V6 := Lib.hid (V6.out.keep hb)
  replace EV := Lib.hid (EV.out.below hb)
  replace MX := Lib.hid (Bx.keep_cell hb MX.out)
  clear hb u2 v0 v1 v2 t0 t1 t2 mx
  obtain ⟨-, -, u2⟩ := U4.out.all3
  obtain ⟨v0, v1, v2⟩ := V6.out.all3
  obtain ⟨t0, t1, t2⟩ := T1.out.all3
  have mx := MX.out
  go_wp2_with (first | ((with_reducible refine Mem.load_at ?_ ?_ n3 ?_ (fun _ => 1) (fun _ => 0) AP 4 4 ?_ ?_); (· rfl); (· rfl); (· rfl); (· exact P.out)))
  refine (aw_p _ _ _ _ EV.out V.out HM.out).mono ?_; rintro e w9 ⟨rfl, hb⟩
  replace B := Lib.hid (Bx.then_below B.out hb)
  replace HM := Lib.hid (HM.out.below hb)
  replace T1 := Lib.hid (T1.out.keep hb)
  replace V := Lib.hid (V.out.below hb)
  replace P := Lib.hid (P.out.keep hb)
  replace U4 := Lib.hid (U4.out.keep hb)
  replace EU := Lib.hid (EU.out.below hb)
  replace V6 := Lib.hid (V6.out.keep hb)
  replace EV := Lib.hid (EV.out.below hb)
  replace MX := Lib.hid (Bx.keep_cell hb MX.out)
  clear hb u2 v0 v1 v2 t0 t1 t2 mx
  obtain ⟨-, -, u2⟩ := U4.out.all3
  obtain ⟨v0, v1, v2⟩ := V6.out.all3
  obtain ⟨t0, t1, t2⟩ := T1.out.all3
  have mx := MX.out
  go_wp2_with (first | ((with_reducible refine Mem.load_at ?_ ?_ n3 ?_ (fun _ => 1) (fun _ => 0) AP 4 4 ?_ ?_); (· rfl); (· rfl); (· rfl); (· exact P.out)))
  refine (aw_l _).mono ?_; rintro e w10 ⟨BL, cL, rfl, hb⟩
  replace B := Lib.hid (Bx.then_below B.out hb)
  have hfd : ∀ w, (Instr.field 24 (.agg #[.int .i64 4, .int .i64 9, .slice BL 0 cL]) 2).run Tryd.prog w = .ok (.slice BL 0 cL) w := fun _ => by kernel_rfl
  go_wp2
  go_ret
  exact ⟨rfl, B.out⟩

end Fwd
end Go.Proofs.YtmojegnflcokjaaDoor

/-
  A list of what happens that came in: in memory, each step field by field.
-/
namespace Go.Proofs.YtmojegnflcokjaaDoor
open Go.ChangeShapes Go.WideShapes Go.ChangeAt Go.RowKit Go.Deep
namespace Tab

/-- The slice that begins at A reads as the steps l. -/
def Ops (w : World) (A : Option Addr) (l : List Ev) : Prop := ∀ j x, l[j]? = some x → ∃ b o, A = some ⟨b, o, none⟩ ∧ b < w.heap.size ∧ w.cell? ⟨b, o + j * 5, none⟩ = some (.int .i64 x.k) ∧ w.cell? ⟨b, o + j * 5 + 1, none⟩ = some (.int .i64 x.v) ∧ w.cell? ⟨b, o + j * 5 + 2, none⟩ = some (.int .u64 x.m) ∧ w.cell? ⟨b, o + j * 5 + 3, none⟩ = some (.int .i64 x.p) ∧ w.cell? ⟨b, o + j * 5 + 4, none⟩ = some (.int .i64 x.s)

theorem Ops.below {w w' : World} {A : Option Addr} {l : List Ev} (h : Ops w A l) (hb : Below w.heap.size w w') : Ops w' A l := fun j x hj => by
  obtain ⟨b, o, e, h1, h2, h3, h4, h5, h6⟩ := h j x hj
  exact ⟨b, o, e, Nat.lt_of_lt_of_le h1 hb.size, Bx.keep_cell hb h2, Bx.keep_cell hb h3, Bx.keep_cell hb h4, Bx.keep_cell hb h5, Bx.keep_cell hb h6⟩

theorem Ops.at {w : World} {A : Option Addr} {l : List Ev} (h : Ops w A l) {k : Nat} (hk : k < l.length) : ∃ b o, A = some ⟨b, o, none⟩ ∧ b < w.heap.size ∧ w.cell? ⟨b, o + k * 5, none⟩ = some (.int .i64 l[k].k) ∧ w.cell? ⟨b, o + k * 5 + 1, none⟩ = some (.int .i64 l[k].v) ∧ w.cell? ⟨b, o + k * 5 + 2, none⟩ = some (.int .u64 l[k].m) ∧ w.cell? ⟨b, o + k * 5 + 3, none⟩ = some (.int .i64 l[k].p) ∧ w.cell? ⟨b, o + k * 5 + 4, none⟩ = some (.int .i64 l[k].s) := h k l[k] (List.getElem?_eq_getElem hk)

theorem nat_u64 {n : Int} (h : (Lit.int .u64 n).wf = true) : ∃ m : Nat, n = m ∧ m < 18446744073709551616 := by
  have h0 : IntKind.u64.min = 0 := by decide
  have h1 : IntKind.u64.max = 18446744073709551615 := by decide
  simp [Lit.wf, h0, h1] at h
  exact ⟨n.toNat, by omega, by omega⟩

set_option maxRecDepth 40000 in
theorem open_ops {H : Type} {enc : TypeId × Value → H} {W : World} {base b0 : Nat} {spare : Nat → Bool} {held : Bool} {r : Reach} {v : Value} {d : DataW H} {p : List MemPlace}
    (hv : Value.okWide Tryd.prog W r b0 50 v) (h : DataW.Trod enc Tryd.prog W base spare held 50 v d p) :
    ∃ (A : Option Addr) (l : List Ev) (cap : Nat), v = .slice A l.length cap ∧ l.length ≤ maxLen ∧ Ops W A l ∧ ∀ x ∈ l, x.m < 18446744073709551616 := by
  obtain ⟨a0, len, cap, rfl⟩ := okWide_slice Tryd.underlying50 hv
  obtain ⟨fuel, hf⟩ := h
  have hS : Tryd.prog.underlying 55 = some (.struct (Tryd.prog.fieldsOf 55)) := by kernel_rfl
  have h5 : (Tryd.prog.fieldsOf 55).size = 5 := by kernel_rfl
  rcases Fr.open_rows Tryd.underlying50 hS (by kernel_rfl) (by kernel_rfl) hf with hcs | ⟨a, len', cap', n, hcs, hl, hm, hcell⟩
  · simp [Value.cells] at hcs
    obtain ⟨rfl, rfl, rfl⟩ := hcs
    exact ⟨none, [], 0, rfl, Nat.zero_le _, (fun j x h => by simp at h), fun x hx => by simp at hx⟩
  · simp [Value.cells] at hcs
    obtain ⟨rfl, rfl, rfl⟩ := hcs
    rw [h5] at hcell
    have fld : ∀ (j : Nat) (f : Field), (Tryd.prog.fieldsOf 55)[j]? = some f → ∀ i, i < len → ∃ c y, W.cell? (a.add (i * 5 + j)) = some c ∧ DataW.trod enc Tryd.prog W base spare held n f.type [c] = some y := fun j f hj i hi => hcell i hi j f hj
    have each : ∀ i, i < len → ∃ x : Ev, W.cell? (a.add (i * 5 + 0)) = some (.int .i64 x.k) ∧ W.cell? (a.add (i * 5 + 1)) = some (.int .i64 x.v) ∧ W.cell? (a.add (i * 5 + 2)) = some (.int .u64 x.m) ∧ W.cell? (a.add (i * 5 + 3)) = some (.int .i64 x.p) ∧ W.cell? (a.add (i * 5 + 4)) = some (.int .i64 x.s) ∧ x.m < 18446744073709551616 := by
      intro i hi
      obtain ⟨c0, y0, e0, t0⟩ := fld 0 ((Tryd.prog.fieldsOf 55)[0]'(by rw [h5]; decide)) (Array.getElem?_eq_getElem _) i hi
      obtain ⟨c1, y1, e1, t1⟩ := fld 1 ((Tryd.prog.fieldsOf 55)[1]'(by rw [h5]; decide)) (Array.getElem?_eq_getElem _) i hi
      obtain ⟨c2, y2, e2, t2⟩ := fld 2 ((Tryd.prog.fieldsOf 55)[2]'(by rw [h5]; decide)) (Array.getElem?_eq_getElem _) i hi
      obtain ⟨c3, y3, e3, t3⟩ := fld 3 ((Tryd.prog.fieldsOf 55)[3]'(by rw [h5]; decide)) (Array.getElem?_eq_getElem _) i hi
      obtain ⟨c4, y4, e4, t4⟩ := fld 4 ((Tryd.prog.fieldsOf 55)[4]'(by rw [h5]; decide)) (Array.getElem?_eq_getElem _) i hi
      obtain ⟨x0, g0, _, _⟩ := DataW.trod_int Tryd.underlying3 t0
      obtain ⟨x1, g1, _, _⟩ := DataW.trod_int Tryd.underlying3 t1
      obtain ⟨x2, g2, _, w2⟩ := DataW.trod_int Tryd.underlying30 t2
      obtain ⟨x3, g3, _, _⟩ := DataW.trod_int Tryd.underlying3 t3
      obtain ⟨x4, g4, _, _⟩ := DataW.trod_int Tryd.underlying3 t4
      simp at g0 g1 g2 g3 g4
      obtain ⟨m, rfl, hm⟩ := nat_u64 w2
      subst g0 g1 g2 g3 g4
      exact ⟨⟨x0, x1, m, x3, x4⟩, e0, e1, e2, e3, e4, hm⟩
    haveI : Inhabited Ev := ⟨⟨0, 0, 0, 0, 0⟩⟩
    obtain ⟨q, hq⟩ := choose_lt each
    have hget : ∀ j x, ((List.range len).map q)[j]? = some x → j < len ∧ x = q j := by
      intro j x hj
      rw [List.getElem?_map] at hj
      cases hr : (List.range len)[j]? with
      | none => rw [hr] at hj; cases hj
      | some k =>
        rw [hr] at hj
        obtain ⟨h1, h2⟩ := List.getElem?_eq_some_iff.1 hr
        rw [List.getElem_range] at h2
        rw [List.length_range] at h1
        subst h2
        exact ⟨h1, (Option.some.inj hj).symm⟩
    refine ⟨some a, (List.range len).map q, cap, by simp, by simp; omega, fun j x hj => ?_, fun x hx => ?_⟩
    · obtain ⟨hj1, rfl⟩ := hget j x hj
      obtain ⟨c0, c1, c2, c3, c4, _⟩ := hq j hj1
      obtain ⟨b, o, sp⟩ := a
      cases sp with
      | none =>
        rw [Addr.add_lit] at c0 c1 c2 c3 c4
        exact ⟨b, o, rfl, World.block_lt_of_cell? _ _ c0, c0, c1, c2, c3, c4⟩
      | some s =>
        exfalso
        obtain ⟨c00, _⟩ := hq 0 (by omega)
        rw [show Addr.add ⟨b, o, some s⟩ (0 * 5 + 0) = ⟨b, o, some s⟩ from rfl, Fr.no_spot] at c00
        cases c00
    · obtain ⟨j, hj, rfl⟩ := List.mem_map.1 hx
      exact (hq j (List.mem_range.1 hj)).2.2.2.2.2

end Tab
end Go.Proofs.YtmojegnflcokjaaDoor
