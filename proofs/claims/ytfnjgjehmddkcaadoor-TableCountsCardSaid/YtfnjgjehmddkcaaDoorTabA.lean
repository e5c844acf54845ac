/-
  Entries in memory; what the method values of package table say of any entry.
-/
import Derived.Test.YtfnjgjehmddkcaaDoorBox
import Derived.Test.YtfnjgjehmddkcaaDoorOct
import Derived.Test.YtfnjgjehmddkcaaDoorMacA
import Derived.Test.YtfnjgjehmddkcaaDoorPorA
import Derived.Test.YtfnjgjehmddkcaaDoorTabNum
import Derived.Deep.RegionHeld3
import Derived.Maps.AppendAt
namespace Go.Proofs.YtfnjgjehmddkcaaDoor
open Go.RowKit
namespace Tab
open Oct

/-- An entry as a value, and its four cells. -/
abbrev ev (e : En) : Value := .agg #[.int .i64 e.v, .int .u64 e.m, .int .i64 e.p, .int .i64 e.a]
def enc (e : En) : List Value := [.int .i64 e.v, .int .u64 e.m, .int .i64 e.p, .int .i64 e.a]
abbrev eo (e : En) : Obj := .cells #[.int .i64 e.v, .int .u64 e.m, .int .i64 e.p, .int .i64 e.a] 29
abbrev tv (most long : Int) (A : Option Addr) (n c : Nat) : Value := .agg #[.int .i64 most, .int .i64 long, .slice A n c]
abbrev to (most long : Int) (A : Option Addr) (n c : Nat) : Obj := .cells #[.int .i64 most, .int .i64 long, .slice A n c] 24

/-- The slice that begins at A reads as the entries l. -/
def Ents (w : World) (A : Option Addr) (l : List En) : Prop := ∀ j x, l[j]? = some x → ∃ b o, A = some ⟨b, o, none⟩ ∧ b < w.heap.size ∧ w.cell? ⟨b, o + j * 4, none⟩ = some (.int .i64 x.v) ∧ w.cell? ⟨b, o + j * 4 + 1, none⟩ = some (.int .u64 x.m) ∧ w.cell? ⟨b, o + j * 4 + 2, none⟩ = some (.int .i64 x.p) ∧ w.cell? ⟨b, o + j * 4 + 3, none⟩ = some (.int .i64 x.a)

theorem Ents.below {w w' : World} {A : Option Addr} {l : List En} (h : Ents w A l) (hb : Below w.heap.size w w') : Ents w' A l := fun j x hj => by
  obtain ⟨b, o, e, h1, h2, h3, h4, h5⟩ := h j x hj
  exact ⟨b, o, e, Nat.lt_of_lt_of_le h1 hb.size, Bx.keep_cell hb h2, Bx.keep_cell hb h3, Bx.keep_cell hb h4, Bx.keep_cell hb h5⟩

theorem Ents.nil (w : World) (A : Option Addr) : Ents w A [] := fun j x h => by simp at h

theorem Ents.at {w : World} {A : Option Addr} {l : List En} (h : Ents w A l) {k : Nat} (hk : k < l.length) : ∃ b o, A = some ⟨b, o, none⟩ ∧ b < w.heap.size ∧ w.cell? ⟨b, o + k * 4, none⟩ = some (.int .i64 l[k].v) ∧ w.cell? ⟨b, o + k * 4 + 1, none⟩ = some (.int .u64 l[k].m) ∧ w.cell? ⟨b, o + k * 4 + 2, none⟩ = some (.int .i64 l[k].p) ∧ w.cell? ⟨b, o + k * 4 + 3, none⟩ = some (.int .i64 l[k].a) := h k l[k] (List.getElem?_eq_getElem hk)

theorem enc_flat : ∀ (l : List En) (j : Nat) (x : En), l[j]? = some x → (l.flatMap enc)[j * 4]? = some (.int .i64 x.v) ∧ (l.flatMap enc)[j * 4 + 1]? = some (.int .u64 x.m) ∧ (l.flatMap enc)[j * 4 + 2]? = some (.int .i64 x.p) ∧ (l.flatMap enc)[j * 4 + 3]? = some (.int .i64 x.a)
  | [], j, x, h => by simp at h
  | a :: l, 0, x, h => by
    simp at h
    subst h
    exact ⟨rfl, rfl, rfl, rfl⟩
  | a :: l, j + 1, x, h => by
    have := enc_flat l j x (by simpa using h)
    rw [List.flatMap_cons, show (j + 1) * 4 = j * 4 + 4 by omega]
    exact this

theorem enc_length (l : List En) : (l.flatMap enc).length = l.length * 4 := by
  induction l with
  | nil => rfl
  | cons a l ih => rw [List.flatMap_cons, List.length_append, ih, List.length_cons]; show 4 + _ = _; omega

theorem enc_one (l : List En) : ∀ u ∈ l.flatMap enc, u.oneCell' = true := by
  intro u hu
  obtain ⟨a, _, ha⟩ := List.mem_flatMap.1 hu
  simp [enc] at ha
  rcases ha with rfl | rfl | rfl | rfl <;> rfl

/-- A row of the call's own, as a slice of entries. -/
theorem Ents.of_own {w : World} {base : Nat} {e : TypeId} {v : Value} {l : List En} (h : w.ownsRow base e 4 v l.length (l.flatMap enc)) :
    ∃ A cap, v = .slice A l.length cap ∧ Ents w A l := by
  rcases h.2 with ⟨rfl, h0⟩ | ⟨g, cap, cur, rfl, hb, hg, _⟩
  · have : l = [] := List.eq_nil_of_length_eq_zero h0
    subst this
    exact ⟨none, 0, rfl, Ents.nil _ _⟩
  · refine ⟨_, _, rfl, fun j x hj => ?_⟩
    obtain ⟨e0, e1, e2, e3⟩ := enc_flat l j x hj
    have c := h.cells (g := g) rfl
    refine ⟨g, 0, rfl, (Array.getElem?_eq_some_iff.1 hg).1, ?_, ?_, ?_, ?_⟩
    · have := c _ _ e0
      rwa [Addr.add_lit] at this
    · have := c _ _ e1
      rwa [Addr.add_lit] at this
    · have := c _ _ e2
      rwa [Addr.add_lit] at this
    · have := c _ _ e3
      rwa [Addr.add_lit] at this

theorem ret_bool {a b : Bool} (h : a = b) : Ending.returned (.bool a) = .returned (.bool b) := by rw [h]

set_option maxRecDepth 20000 in
theorem of_any (v : Int) (m : Nat) (e : En) (w : World) :
    Calls Tryd.prog 42 #[.agg #[.int .i64 v, .int .u64 m], ev e] w fun r w' => r = .returned (.bool (isK v m e)) ∧ Below w.heap.size w w' := by
  obtain ⟨v', m', p, a⟩ := e
  have bel := Lib.hid (Bx.bel_box (Bx.box_below w (.cells #[.int .i64 v, .int .u64 m] 67)) (.cells #[.int .i64 v', .int .u64 m', .int .i64 p, .int .i64 a] 29))
  unfold isK
  simp only
  by_cases h1 : v = v' <;> by_cases h2 : m = m'
  all_goals
    try subst h1
    try subst h2
    have h3 : ∀ z : Nat, ¬ m = z → ¬ ((m : Int) = z) := fun z h => by omega
    try have h4 := h3 _ h2
    clear h3
    go_enter Tryd.func42, Tryd.ntmps42
    go_wp2
    go_ret
    exact ⟨ret_bool (by simp [*]), bel.out⟩

set_option maxRecDepth 20000 in
theorem other_any (v : Int) (m : Nat) (e : En) (w : World) :
    Calls Tryd.prog 38 #[.agg #[.int .i64 v, .int .u64 m], ev e] w fun r w' => r = .returned (.bool (!isK v m e)) ∧ Below w.heap.size w w' := by
  have H := Lib.hid (of_any v m e)
  obtain ⟨v', m', p, a⟩ := e
  have bel := Lib.hid (Bx.bel_box (Bx.box_below w (.cells #[.int .i64 v, .int .u64 m] 67)) (.cells #[.int .i64 v', .int .u64 m', .int .i64 p, .int .i64 a] 29))
  generalize isK v m ⟨v', m', p, a⟩ = r at *
  go_enter Tryd.func38, Tryd.ntmps38
  go_wp2_with fail
  refine (H.out _).mono ?_; rintro e w1 ⟨rfl, hb1⟩
  have B2 := Lib.hid (Bx.then_below bel.out hb1)
  go_wp2
  go_ret
  exact ⟨rfl, B2.out⟩

theorem wrap_next {a long : Int} (h0 : -9223372036854775808 ≤ a) (h1 : a < long) (hL : long ≤ 9223372036854775807) : wrap64 (a + 1) = a + 1 := by unfold wrap64; omega

set_option maxRecDepth 20000 in
theorem outl_any (long : Int) (hL : long ≤ 9223372036854775807) (e : En) (he : -9223372036854775808 ≤ e.a) (w : World) :
    Calls Tryd.prog 43 #[.int .i64 long, ev e] w fun r w' => r = .returned (.bool (outl long e)) ∧ Below w.heap.size w w' := by
  obtain ⟨v', m', p, a⟩ := e
  have bel := Lib.hid (Bx.box_below w (.cells #[.int .i64 v', .int .u64 m', .int .i64 p, .int .i64 a] 29))
  unfold outl
  simp only at he ⊢
  by_cases h1 : a < long
  · have h2 := wrap_next he h1 hL
    by_cases h3 : a + 1 < long
    all_goals
      go_enter Tryd.func43, Tryd.ntmps43
      go_wp2
      go_ret
      exact ⟨ret_bool (by rw [Bool.eq_iff_iff]; simp <;> omega), bel.out⟩
  · go_enter Tryd.func43, Tryd.ntmps43
    go_wp2
    go_ret
    exact ⟨ret_bool (by rw [Bool.eq_iff_iff]; simp <;> omega), bel.out⟩

set_option maxRecDepth 20000 in
theorem plack_any (x : Int) (e : En) (w : World) :
    Calls Tryd.prog 44 #[.int .i64 x, ev e] w fun r w' => r = .returned (.bool (flushE (Por.low x) e)) ∧ Below w.heap.size w w' := by
  obtain ⟨v', m', p, a⟩ := e
  have H := Lib.hid (Por.has_any x p)
  have bel := Lib.hid (Bx.box_below w (.cells #[.int .i64 v', .int .u64 m', .int .i64 p, .int .i64 a] 29))
  unfold flushE
  simp only
  generalize Por.hasZ (Por.low x) p = r at *
  go_enter Tryd.func44, Tryd.ntmps44
  go_wp2_with fail
  refine (H.out _).mono ?_; rintro e w1 ⟨rfl, rfl⟩
  go_wp2
  go_ret
  exact ⟨rfl, bel.out⟩

set_option maxRecDepth 20000 in
theorem lack_any (q v : Int) (e : En) (w : World) :
    Calls Tryd.prog 45 #[.agg #[.int .i64 q, .int .i64 v], ev e] w fun r w' => r = .returned (.bool (lackE q v e)) ∧ Below w.heap.size w w' := by
  obtain ⟨v', m', p, a⟩ := e
  have bel := Lib.hid (Bx.bel_box (Bx.box_below w (.cells #[.int .i64 q, .int .i64 v] 74)) (.cells #[.int .i64 v', .int .u64 m', .int .i64 p, .int .i64 a] 29))
  unfold lackE
  simp only
  by_cases h1 : p = q <;> by_cases h2 : v = 0 <;> by_cases h3 : v' = v
  all_goals
    try subst h1
    try subst h3
    try subst h2
    go_enter Tryd.func45, Tryd.ntmps45
    go_wp2
    go_ret
    exact ⟨ret_bool (by simp [*]), bel.out⟩

end Tab
end Go.Proofs.YtfnjgjehmddkcaaDoor
