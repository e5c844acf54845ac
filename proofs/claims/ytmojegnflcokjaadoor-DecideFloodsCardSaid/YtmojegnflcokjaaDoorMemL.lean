/-
  The law's Long; the step over a load of a whole plan in a region that draws its order.
-/
import Derived.Test.YtmojegnflcokjaaDoorPkDict
import Derived.Deep.RegionHeld3
namespace Go.Proofs.YtmojegnflcokjaaDoor
open Go.RowKit
namespace Mem
open Oct Eth

set_option maxRecDepth 40000 in
theorem long_any (o k : Nat → Int) (A : Option Addr) (n : Nat) (hn : n ≤ maxLen) (c : Nat) (w : World) : Calls Tryd.prog 6 #[pv o k A n c] w fun e w' => e = .returned (.bool (decide (100 < n))) ∧ Below w.heap.size w w' := by
  have bel := Lib.hid (Bx.box_below w (po o k A n c))
  have p16 := (Bx.Blk.new w (pc o k A n c) 28).at 16 rfl
  have hn' : n ≤ 9223372036854775807 := hn
  by_cases h : 100 < n
  · rw [decide_eq_true h]
    have h' : decide ((100 : Int) < (n : Int)) = true := decide_eq_true (by omega)
    go_enter Tryd.func6, Tryd.ntmps6
    go_wp2
    go_ret
    exact ⟨rfl, bel.out⟩
  · rw [decide_eq_false h]
    have h' : decide ((100 : Int) < (n : Int)) = false := decide_eq_false (by omega)
    go_enter Tryd.func6, Tryd.ntmps6
    go_wp2
    go_ret
    exact ⟨rfl, bel.out⟩

theorem yields_pl {ops : Array Oper} {S : World → Prop} {op : Oper} {a : Act} (hw : Region.wanted op (yielded ops a.tmps) = true) (x : Operand) (ho : op.op = .load 28 x) (b : Nat) (hx : a.eval x = .pointer (some ⟨b, 0, none⟩)) (o k : Nat → Int) (A : Option Addr) (n c : Nat) (hS : ∀ w, S w → Bx.Blk w b (pc o k A n c)) : YieldsIf Tryd.prog ops S op (pv o k A n c) a :=
  yieldsIf_load_mid hw _ x ho b 0 hx (pc o k A n c) _ (fun w h => (hS w h).range) under_pl rfl info_pl

end Mem
end Go.Proofs.YtmojegnflcokjaaDoor
