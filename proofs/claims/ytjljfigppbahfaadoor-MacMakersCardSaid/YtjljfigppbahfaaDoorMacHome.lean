/-
  In every memory of the program's shape that holds the listed tables: the reserved addresses stand as the program's text lays them, and the library's bound is some integer.
-/
import Derived.Test.YtjljfigppbahfaaDoorMacB
import Derived.Test.YtjljfigppbahfaaDoorCard
import Derived.Test.YtjljfigppbahfaaDoorRows
namespace Go.Proofs.YtjljfigppbahfaaDoor
open Go.RowKit
namespace Mac
set_option maxRecDepth 100000

theorem home_of {W : World} {laid : List (String × DataW Unit)} (hs : W.ShapedOpen Tryd.prog) (hL : laidMetH Tryd.prog laid W) (hpl : (laid.all fun x => x.2.handleName?.isNone) = true)
    (hm : ("tipstaff/mac.reserved", Rows.laid_tipstaff_mac_reserved) ∈ laid) : Home W := by
  obtain ⟨h1, h2⟩ := Fr.laid_ints (P := Tryd.prog) (g := 0) (t := 43) (e := 23) (k := .u64) (m := 16) ((List.range 16).map fun j => ((1652522221568 + j : Nat) : Int)) hL hpl hm
    (by kernel_rfl) (by kernel_rfl) Tryd.underlying43 Tryd.underlying23 (by kernel_rfl) (by rfl)
  obtain ⟨h3, h4⟩ := Fr.int_of_shape (P := Tryd.prog) (g := 1) (t := 3) (k := .i64) (zero := #[.int .i64 0]) hs (of_decide_eq_true (by kernel_rfl)) (by kernel_rfl) rfl (by kernel_rfl) (by kernel_rfl) Tryd.underlying3
  refine ⟨fun j hj => h2 j _ ?_, h3, h1, h4⟩
  simp [hj]

end Mac
end Go.Proofs.YtjljfigppbahfaaDoor
