/-
  A map from numbers to VLANs that a call made (over any program): what it holds, what is looked up in it, what stands in it behind a store at a number that it lacks.
-/
import Derived.Test.YtbighadkcmhplaaMemNum
import Derived.Test.YtbighadkcmhplaaBox
import Derived.Maps.Own
import Derived.Maps.OwnOps
namespace Go.Proofs.Ytbighadkcmhplaa
open Go.RowKit
namespace Mem

/-- The value of a VLAN. -/
abbrev vlv (x : Vl) : Value := .agg #[.int .i64 x.v, .int .i64 x.t, .int .i64 x.u]

/-- Block b is a map that holds these VLANs by their numbers, in the order of their making. -/
def Dict (w : World) (b : Nat) (D : List Vl) : Prop := ∃ es clock, w.heap[b]? = some (.map es clock) ∧ es.toList.map (fun e => (e.key, e.val)) = D.map fun x => (Value.int .i64 x.v, vlv x)

theorem Dict.new (w : World) : Dict (w.alloc (.map #[] 0)) w.heap.size [] := ⟨#[], 0, (MapKept.heap_alloc w _).1, rfl⟩

theorem Dict.lt {w : World} {b : Nat} {D : List Vl} (h : Dict w b D) : b < w.heap.size := by
  obtain ⟨es, c, hb, _⟩ := h
  exact (Array.getElem?_eq_some_iff.1 hb).1

theorem Dict.keep {w w' : World} {b : Nat} {D : List Vl} (h : Dict w b D) (hb : Below w.heap.size w w') : Dict w' b D := by
  have hlt := h.lt
  obtain ⟨es, c, h1, h2⟩ := h
  exact ⟨es, c, (hb.block b hlt).trans h1, h2⟩

theorem Dict.drew {w : World} {b : Nat} {D : List Vl} (h : Dict w b D) : Dict w.drew b D := h

theorem now_of (n : Int) : ∀ (es : List MapEntry) (D : List Vl) (i : Nat), es.map (fun e => (e.key, e.val)) = D.map (fun x => (Value.int .i64 x.v, vlv x)) →
    ∃ r, Instr.findNow (.int .i64) (.int .i64 n) es i = some r ∧ r.map (·.2) = (findV D n).map vlv
  | [], [], _, _ => ⟨none, rfl, rfl⟩
  | [], _ :: _, _, h => by simp at h
  | _ :: _, [], _, h => by simp at h
  | e :: es, x :: D, i, h => by
    simp only [List.map_cons, List.cons.injEq, Prod.mk.injEq] at h
    obtain ⟨⟨hk, hv⟩, ht⟩ := h
    obtain ⟨r, h1, h2⟩ := now_of n es D (i + 1) ht
    have hs : Instr.sameNow (.int .i64) (.int .i64 n) e.key = some (n == x.v) := by rw [hk]; unfold Instr.sameNow; simp
    unfold Instr.findNow
    rw [hs]
    by_cases hn : n = x.v
    · have e1 : (n == x.v) = true := by simpa using hn
      have e2 : findV (x :: D) n = some x := by unfold findV; rw [List.find?_cons]; simp [hn]
      rw [e1, e2]
      exact ⟨some (i, e.val), rfl, congrArg some hv⟩
    · have e1 : (n == x.v) = false := by simpa using hn
      have e2 : findV (x :: D) n = findV D n := by
        have e3 : (x.v == n) = false := by simpa using fun h : x.v = n => hn h.symm
        unfold findV
        rw [List.find?_cons, e3]
      rw [e1, e2]
      exact ⟨r, h1, h2⟩

theorem dict_look {P : Program} {w : World} {b : Nat} {D : List Vl} (h : Dict w b D) {t k e : TypeId} (ht : P.underlying t = some (.map k e)) (hk : P.underlying k = some (.int .i64)) (hz : (zeroValue e).run P w = .ok (vlv none3) w) (n : Int) :
    (Instr.lookup t (.map (some b)) (.int .i64 n) true).run P w = .ok (.tuple #[vlv (gotV D n), .bool (isV D n)]) w := by
  obtain ⟨es, c, hb, he⟩ := h
  obtain ⟨r, h1, h2⟩ := now_of n es.toList D 0 he
  have hc : ∀ em, (Instr.checkKey em 10000 k (.int .i64 n)).run P w = .ok () w := fun em => MapKept.run_checkKey (d := .int .i64) (k := .int .i64 n) hk (show MapKept.IsKey (.int .i64) (.int .i64 n) from rfl) em 9999
  have hf := MapKept.run_findKey (w := w) hk h1
  unfold gotV isV
  cases r with
  | none =>
    have e0 : findV D n = none := by
      cases hq : findV D n with
      | none => rfl
      | some x => rw [hq] at h2; cases h2
    rw [e0]
    simp [Instr.lookup, run_underlying ht, MapKept.run_getObj_map hb, hc, hf, hz, Result.andThen]
  | some z =>
    obtain ⟨j, v⟩ := z
    cases hq : findV D n with
    | none => rw [hq] at h2; cases h2
    | some x =>
      rw [hq] at h2
      obtain rfl : v = vlv x := by simpa using h2
      simp [Instr.lookup, run_underlying ht, MapKept.run_getObj_map hb, hc, hf, Result.andThen]

theorem below_block {B : Nat} {a w : World} {b : Nat} (h : Below B a w) (hB : B ≤ b) (o : Obj) : Below B a { w with heap := w.heap.setIfInBounds b o } :=
  ⟨h.os, h.tape, h.output, by simpa using h.size, fun k hk => by
    show (w.heap.setIfInBounds b o)[k]? = _
    rw [Array.getElem?_setIfInBounds_ne (by omega)]
    exact h.block k hk⟩

theorem dict_put {P : Program} {w : World} {b : Nat} {D : List Vl} (h : Dict w b D) {t k e : TypeId} (ht : P.underlying t = some (.map k e)) (hk : P.underlying k = some (.int .i64)) (x : Vl) (hn : isV D x.v = false) :
    ∃ w', (Instr.mapUpdate t (.map (some b)) (.int .i64 x.v) (vlv x)).run P w = .ok () w' ∧ Dict w' b (addV D x) ∧ ∀ (a : World) (B : Nat), B ≤ b → Below B a w → Below B a w' := by
  obtain ⟨es, c, hb, he⟩ := h
  obtain ⟨r, h1, h2⟩ := now_of x.v es.toList D 0 he
  have hc : ∀ em, (Instr.checkKey em 10000 k (.int .i64 x.v)).run P w = .ok () w := fun em => MapKept.run_checkKey (d := .int .i64) (k := .int .i64 x.v) hk (show MapKept.IsKey (.int .i64) (.int .i64 x.v) from rfl) em 9999
  have e0 : findV D x.v = none := by
    unfold isV at hn
    cases hq : findV D x.v with
    | none => rfl
    | some y => rw [hq] at hn; cases hn
  have hr : r = none := by
    rw [e0] at h2
    cases r with
    | none => rfl
    | some z => cases h2
  subst hr
  have hf := MapKept.run_findKey (w := w) hk h1
  refine ⟨{ w with heap := w.heap.setIfInBounds b (.map (es.push { key := .int .i64 x.v, val := vlv x, born := c }) (c + 1)) }, ?_, ?_, fun a B hB hb => below_block hb hB _⟩
  · simp [Instr.mapUpdate, run_underlying ht, MapKept.run_getObj_map hb, hc, hf, MapKept.run_setObj_map _ hb, Result.andThen]
  · refine ⟨_, _, (MapKept.heap_set hb).1, ?_⟩
    unfold addV
    rw [hn]
    simp [he]

end Mem
end Go.Proofs.Ytbighadkcmhplaa
