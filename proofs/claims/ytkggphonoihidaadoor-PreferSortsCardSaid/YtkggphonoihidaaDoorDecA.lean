/-
  A number in decimal digits: what strconv.Itoa answers where its table stands as Go's text lays it; and that it changes nothing that was there.
-/
import Derived.Test.YtkggphonoihidaaDoorShelf
import Derived.Test.YtkggphonoihidaaDoorBox
import Derived.Test.YtkggphonoihidaaDoorCard
import Derived.Lib.AppendIntMem
import Derived.Lib.ItoaLen
import Derived.Lib.LaidTab
import Derived.WalkSmall
namespace Go.Proofs.YtkggphonoihidaaDoor
open Go.RowKit
namespace Dec

/-- Itoa's table of powers stands as its text lays it. -/
def Home (w : World) : Prop := Lib.TabIs Tryd.prog w "internal/strconv.uint64pow10" .u64 Lib.pow10Tab ∧ 0 < w.heap.size

theorem named : Tryd.prog.globalNamed "internal/strconv.uint64pow10" = some 0 := by kernel_rfl

theorem Home.below {w w' : World} (h : Home w) (hb : Below w.heap.size w w') : Home w' := ⟨var?_below hb named h.2 h.1, Nat.lt_of_lt_of_le h.2 hb.size⟩

theorem itoa_any (n : Int) (h0 : -9223372036854775808 ≤ n) (h1 : n ≤ 9223372036854775807) (w : World) (hH : Home w) :
    Calls Tryd.prog 22 #[.int .i64 n] w fun e w' => e = .returned (.string ⟨(Lib.itoa n).toArray⟩) ∧ Below w.heap.size w w' :=
  (Tryd.strconv_Itoa n h0 h1 w hH.1).mono fun e w' ⟨e1, k, os, e2⟩ => ⟨e1, by rw [e2]; exact Lib.below_grow _ w (Nat.le_refl _) k os⟩

theorem home_laid {W : World} {laid : List (String × DataW Unit)} {d : DataW Unit} (hL : laidMetH Tryd.prog laid W) (hpl : (laid.all fun x => x.2.handleName?.isNone) = true)
    (hm : ("internal/strconv.uint64pow10", d) ∈ laid) (hd : d = Lib.tabData .u64 Lib.pow10Tab) : Home W := by
  rw [MakeChecks.laidMetH_plain _ _ _ hpl] at hL
  obtain ⟨ps, hv, _, _⟩ := hL
  obtain ⟨g', t', cs, fuel, p, hg', ht', hvar, htr⟩ := Fr.laidVars_mem hv hm
  obtain rfl := Option.some.inj (named.symm.trans hg')
  obtain rfl := Option.some.inj ((show (Tryd.prog.globals[0]?).map (·.type) = some 66 by kernel_rfl).symm.trans ht')
  subst hd
  refine ⟨?_, ?_⟩
  · unfold Lib.TabIs
    rw [hvar, ← Lib.cells_of_tab Tryd.underlying66 Tryd.underlying28 (by kernel_rfl) (by kernel_rfl) htr]
  · simp only [World.var?, named, Option.bind_some] at hvar
    split at hvar
    · rename_i hh
      exact (Array.getElem?_eq_some_iff.1 hh).1
    · cases hvar

end Dec
end Go.Proofs.YtkggphonoihidaaDoor
