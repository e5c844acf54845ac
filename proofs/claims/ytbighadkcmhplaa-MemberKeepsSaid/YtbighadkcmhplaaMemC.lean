/-
  The ports of a VLAN, as package member and the document answer.
-/
import Derived.Test.YtbighadkcmhplaaMemB
import Derived.Test.YtbighadkcmhplaaMemW
namespace Go.Proofs.Ytbighadkcmhplaa
open Go.RowKit
namespace Mem
open Oct Eth

set_option maxRecDepth 20000 in
theorem of_any (o k : Nat → Int) (l : List Vl) (hl : l.length ≤ maxLen) (A : Option Addr) (c : Nat) (n : Int) (w : World) (hA : Vls w A l) :
    Calls Try.prog 15 #[pv o k A l.length c, .int .i64 n] w fun e w' => e = .returned (.int .i64 (ofV l n)) ∧ Below w.heap.size w w' := by
  have HF := Lib.hid (fun (w : World) hA => find_any o k l hl A c n w hA)
  have bel := Lib.hid (Bx.box_below w (po o k A l.length c))
  have A1 := Lib.hid (hA.below bel.out)
  have P1 := Lib.hid (Bx.Blk.new w (pc o k A l.length c) 25)
  unfold ofV
  clear hA
  generalize gotV l n = y at *
  generalize isV l n = q at *
  obtain ⟨y1, y2, y3⟩ := y
  go_enter Try.func15, Try.ntmps15
  go_wp2_with (first | ((with_reducible refine load_at ?_ ?_ w.heap.size ?_ o k A l.length c ?_ ?_); (· rfl); (· rfl); (· rfl); (· exact P1.out)))
  refine (HF.out _ A1.out).mono ?_; rintro e w1 ⟨rfl, hb1⟩
  have bel2 := Lib.hid (Bx.bel_box (Bx.then_below bel.out hb1) (vo ⟨y1, y2, y3⟩))
  obtain ⟨v0, v1, v2⟩ := (Bx.Blk.new w1 (vc ⟨y1, y2, y3⟩) 38).all3
  clear hb1 HF A1 bel P1
  go_wp2
  go_ret
  exact ⟨rfl, bel2.out⟩

set_option maxRecDepth 20000 in
theorem rof_any (o k : Nat → Int) (l : List Vl) (hl : l.length ≤ maxLen) (A : Option Addr) (c : Nat) (n : Int) (w : World) (hA : Vls w A l) :
    Calls Try.prog 16 #[pv o k A l.length c, .int .i64 n] w fun e w' => e = .returned (.int .i64 (ofV l n)) ∧ Below w.heap.size w w' := by
  have HF := Lib.hid (fun (w : World) hA => rfind_any o k l hl A c n w hA)
  have bel := Lib.hid (Bx.box_below w (po o k A l.length c))
  have A1 := Lib.hid (hA.below bel.out)
  have P1 := Lib.hid (Bx.Blk.new w (pc o k A l.length c) 25)
  unfold ofV
  clear hA
  generalize gotV l n = y at *
  generalize isV l n = q at *
  obtain ⟨y1, y2, y3⟩ := y
  go_enter Try.func16, Try.ntmps16
  go_wp2_with (first | ((with_reducible refine load_at ?_ ?_ w.heap.size ?_ o k A l.length c ?_ ?_); (· rfl); (· rfl); (· rfl); (· exact P1.out)))
  refine (HF.out _ A1.out).mono ?_; rintro e w1 ⟨rfl, hb1⟩
  have bel2 := Lib.hid (Bx.bel_box (Bx.then_below bel.out hb1) (vo ⟨y1, y2, y3⟩))
  obtain ⟨v0, v1, v2⟩ := (Bx.Blk.new w1 (vc ⟨y1, y2, y3⟩) 38).all3
  clear hb1 HF A1 bel P1
  go_wp2
  go_ret
  exact ⟨rfl, bel2.out⟩

end Mem
end Go.Proofs.Ytbighadkcmhplaa
