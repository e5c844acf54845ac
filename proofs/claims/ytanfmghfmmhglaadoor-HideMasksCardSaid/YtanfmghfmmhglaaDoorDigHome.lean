/-
  In every memory of the program's shape that holds the listed tables: the constants and the turns stand as the program's text lays them.
-/
import Derived.Test.YtanfmghfmmhglaaDoorDigB
import Derived.Test.YtanfmghfmmhglaaDoorCard
import Derived.Test.YtanfmghfmmhglaaDoorRows
namespace Go.Proofs.YtanfmghfmmhglaaDoor
open Go.ChangeShapes Go.WideShapes Go.ChangeAt Go.RowKit
namespace Dig
set_option maxRecDepth 100000

/-- A listed array of arrays of integers: its cells. -/
theorem laid_rows {P : Program} {w : World} {laid : List (String × DataW Unit)} {n : String} {d : DataW Unit} {g : Nat} {t r e : TypeId} {k : IntKind} {m q : Nat} (zs : List (List Int))
    (h : laidMetH P laid w) (hpl : (laid.all fun x => x.2.handleName?.isNone) = true) (hm : (n, d) ∈ laid) (hg : P.globalNamed n = some g) (ht : (P.globals[g]?).map (·.type) = some t)
    (hu : P.underlying t = some (.array m r)) (hr : P.underlying r = some (.array q e)) (he : P.underlying e = some (.int k)) (hc : P.cellsOf e = 1) (hq : P.cellsOf r = q) (hd : d = .agg (zs.map fun l => .agg (l.map fun z => .lit (.int k z)))) :
    g < w.heap.size ∧ ∀ (i j : Nat) l z, zs[i]? = some l → l[j]? = some z → w.cell? ⟨g, i * q + j, none⟩ = some (.int k z) := by
  rw [MakeChecks.laidMetH_plain _ _ _ hpl] at h
  obtain ⟨ps, hv, _, _⟩ := h
  obtain ⟨g', t', cs, fuel, p, hg', ht', hvar, htr⟩ := Fr.laidVars_mem hv hm
  obtain rfl := Option.some.inj (hg.symm.trans hg')
  obtain rfl := Option.some.inj (ht.symm.trans ht')
  obtain ⟨xs, fu, _, ex, _, hl, hel⟩ := DataW.trod_array hu htr
  have hlt : g < w.heap.size := by
    simp only [World.var?, hg, Option.bind_some] at hvar
    split at hvar
    · rename_i hh
      exact (Array.getElem?_eq_some_iff.1 hh).1
    · cases hvar
  refine ⟨hlt, fun i j l z hl' hz => ?_⟩
  have e3 : xs.map (·.1) = zs.map fun l => (.agg (l.map fun z => .lit (.int k z)) : DataW Unit) := by
    have := (Prod.mk.inj ex).1
    rw [hd] at this
    exact (DataW.agg.inj this).symm
  have hlen : xs.length = zs.length := by simpa using congrArg List.length e3
  have hi : i < zs.length := (List.getElem?_eq_some_iff.1 hl').1
  have hE := hel i (by omega)
  rw [hq, List.getElem?_eq_getElem (by omega)] at hE
  obtain ⟨ys, fu2, _, ey, _, hl2, hel2⟩ := DataW.trod_array hr hE
  have e4 : (xs.map (·.1))[i]? = (zs.map fun l => (.agg (l.map fun z => .lit (.int k z)) : DataW Unit))[i]? := by rw [e3]
  rw [List.getElem?_map, List.getElem?_map, List.getElem?_eq_getElem (by omega : i < xs.length), hl', ey] at e4
  have e5 : ys.map (·.1) = l.map fun z => (.lit (.int k z) : DataW Unit) := by simpa using e4
  have hlen2 : ys.length = l.length := by simpa using congrArg List.length e5
  have hj : j < l.length := (List.getElem?_eq_some_iff.1 hz).1
  have hE2 := hel2 j (by omega)
  rw [hc, Nat.mul_one, List.getElem?_eq_getElem (by omega)] at hE2
  obtain ⟨y, e1, e2, _⟩ := DataW.trod_int he hE2
  have e6 : (ys.map (·.1))[j]? = (l.map fun z => (.lit (.int k z) : DataW Unit))[j]? := by rw [e5]
  rw [List.getElem?_map, List.getElem?_map, List.getElem?_eq_getElem (by omega : j < ys.length), e2, hz] at e6
  have hy : y = z := by simpa using e6
  subst hy
  rw [World.var?_cell hg hvar (i * q + j)]
  have h0 : (((((cs.toList.drop (i * q)).take q).drop j).take 1))[0]? = some (.int k y) := by rw [e1]; rfl
  have hjq : j < q := by omega
  simpa [List.getElem?_take, List.getElem?_drop, hjq] using h0

theorem home_of {W : World} {laid : List (String × DataW Unit)} (_hs : W.ShapedOpen Tryd.prog) (hL : laidMetH Tryd.prog laid W) (hpl : (laid.all fun x => x.2.handleName?.isNone) = true)
    (hmm : ("tipstaff/digest.constants", Rows.laid_tipstaff_digest_constants) ∈ laid ∧ ("tipstaff/digest.turns", Rows.laid_tipstaff_digest_turns) ∈ laid) : Home W := by
  obtain ⟨hm, hm2⟩ := hmm
  obtain ⟨h1, h2⟩ := Fr.laid_ints (P := Tryd.prog) (g := 1) (t := 77) (e := 34) (k := .u32) (m := 64) (kL.map fun (n : Nat) => (n : Int)) hL hpl hm
    (by kernel_rfl) (by kernel_rfl) Tryd.underlying77 Tryd.underlying34 (by kernel_rfl) (by rfl)
  obtain ⟨h3, h4⟩ := laid_rows (P := Tryd.prog) (g := 0) (t := 76) (r := 75) (e := 3) (k := .i64) (m := 4) (q := 4) [[7, 12, 17, 22], [5, 9, 14, 20], [4, 11, 16, 23], [6, 10, 15, 21]] hL hpl hm2
    (by kernel_rfl) (by kernel_rfl) Tryd.underlying76 Tryd.underlying75 Tryd.underlying3 (by kernel_rfl) (by kernel_rfl) (by rfl)
  refine ⟨fun j hj => h2 j _ ?_, fun j hj => ?_, h1, h3⟩
  · have hl : j < kL.length := hj
    rw [List.getElem?_map, kAt, List.getD_eq_getElem?_getD, List.getElem?_eq_getElem hl]
    rfl
  · have hall : ∀ j : Fin 16, ∃ l, ([[7, 12, 17, 22], [5, 9, 14, 20], [4, 11, 16, 23], [6, 10, 15, 21]] : List (List Int))[j.1 / 4]? = some l ∧ l[j.1 % 4]? = some ((tL.getD j.1 0 : Nat) : Int) := by
      intro j
      have : ∀ j : Fin 16, (([[7, 12, 17, 22], [5, 9, 14, 20], [4, 11, 16, 23], [6, 10, 15, 21]] : List (List Int))[j.1 / 4]?.getD [])[j.1 % 4]? = some ((tL.getD j.1 0 : Nat) : Int) ∧ (([[7, 12, 17, 22], [5, 9, 14, 20], [4, 11, 16, 23], [6, 10, 15, 21]] : List (List Int))[j.1 / 4]?).isSome = true := by decide
      obtain ⟨ha, hb⟩ := this j
      obtain ⟨l, hl⟩ := Option.isSome_iff_exists.1 hb
      exact ⟨l, hl, by rw [hl] at ha; exact ha⟩
    obtain ⟨l, ha, hb⟩ := hall ⟨j, hj⟩
    have := h4 (j / 4) (j % 4) l _ ha hb
    rwa [show j / 4 * 4 + j % 4 = j by omega] at this

end Dig
end Go.Proofs.YtanfmghfmmhglaaDoor
