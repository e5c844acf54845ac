/-
  VLANs and plans as values and in memory; what the small functions of package member say of any frame, number and VLAN.
-/
import Derived.Test.YtbighadkcmhplaaBox
import Derived.Test.YtbighadkcmhplaaWhole
import Derived.Test.YtbighadkcmhplaaEthA
import Derived.Test.YtbighadkcmhplaaPorA
import Derived.Test.YtbighadkcmhplaaMemNum
import Derived.Deep.RegionHeld3
namespace Go.Proofs.Ytbighadkcmhplaa
open Go.RowKit
namespace Mem
open Oct Eth

/-- A VLAN as a value, its three cells. -/
abbrev vl (x : Vl) : Value := .agg #[.int .i64 x.v, .int .i64 x.t, .int .i64 x.u]
abbrev vc (x : Vl) : List Value := [.int .i64 x.v, .int .i64 x.t, .int .i64 x.u]
abbrev vo (x : Vl) : Obj := .cells #[.int .i64 x.v, .int .i64 x.t, .int .i64 x.u] 38

/-- A plan's cells, as a value, as an object. -/
abbrev pc (o k : Nat → Int) (A : Option Addr) (n c : Nat) : List Value := [.int .i64 (o 0), .int .i64 (o 1), .int .i64 (o 2), .int .i64 (o 3), .int .i64 (o 4), .int .i64 (o 5), .int .i64 (o 6), .int .i64 (o 7),
  .int .i64 (k 0), .int .i64 (k 1), .int .i64 (k 2), .int .i64 (k 3), .int .i64 (k 4), .int .i64 (k 5), .int .i64 (k 6), .int .i64 (k 7), .slice A n c]
abbrev pv (o k : Nat → Int) (A : Option Addr) (n c : Nat) : Value := .agg #[.int .i64 (o 0), .int .i64 (o 1), .int .i64 (o 2), .int .i64 (o 3), .int .i64 (o 4), .int .i64 (o 5), .int .i64 (o 6), .int .i64 (o 7),
  .int .i64 (k 0), .int .i64 (k 1), .int .i64 (k 2), .int .i64 (k 3), .int .i64 (k 4), .int .i64 (k 5), .int .i64 (k 6), .int .i64 (k 7), .slice A n c]
abbrev po (o k : Nat → Int) (A : Option Addr) (n c : Nat) : Obj := .cells #[.int .i64 (o 0), .int .i64 (o 1), .int .i64 (o 2), .int .i64 (o 3), .int .i64 (o 4), .int .i64 (o 5), .int .i64 (o 6), .int .i64 (o 7),
  .int .i64 (k 0), .int .i64 (k 1), .int .i64 (k 2), .int .i64 (k 3), .int .i64 (k 4), .int .i64 (k 5), .int .i64 (k 6), .int .i64 (k 7), .slice A n c] 25

/-- What is at a place of the two rows. -/
theorem pc_own (o k : Nat → Int) (A : Option Addr) (n c : Nat) {j : Nat} (h : j < 8) : (pc o k A n c)[j]? = some (.int .i64 (o j)) := by
  have : j = 0 ∨ j = 1 ∨ j = 2 ∨ j = 3 ∨ j = 4 ∨ j = 5 ∨ j = 6 ∨ j = 7 := by omega
  rcases this with rfl | rfl | rfl | rfl | rfl | rfl | rfl | rfl <;> rfl
theorem pc_take (o k : Nat → Int) (A : Option Addr) (n c : Nat) {j : Nat} (h : j < 8) : (pc o k A n c)[8 + j]? = some (.int .i64 (k j)) := by
  have : j = 0 ∨ j = 1 ∨ j = 2 ∨ j = 3 ∨ j = 4 ∨ j = 5 ∨ j = 6 ∨ j = 7 := by omega
  rcases this with rfl | rfl | rfl | rfl | rfl | rfl | rfl | rfl <;> rfl

/-- The slice that begins at A reads as the VLANs l. -/
def Vls (w : World) (A : Option Addr) (l : List Vl) : Prop := ∀ j x, l[j]? = some x → ∃ b o, A = some ⟨b, o, none⟩ ∧ b < w.heap.size ∧ w.cell? ⟨b, o + j * 3, none⟩ = some (.int .i64 x.v) ∧ w.cell? ⟨b, o + j * 3 + 1, none⟩ = some (.int .i64 x.t) ∧ w.cell? ⟨b, o + j * 3 + 2, none⟩ = some (.int .i64 x.u)

theorem Vls.below {w w' : World} {A : Option Addr} {l : List Vl} (h : Vls w A l) (hb : Below w.heap.size w w') : Vls w' A l := fun j x hj => by
  obtain ⟨b, o, e, h1, h2, h3, h4⟩ := h j x hj
  exact ⟨b, o, e, Nat.lt_of_lt_of_le h1 hb.size, Bx.keep_cell hb h2, Bx.keep_cell hb h3, Bx.keep_cell hb h4⟩

theorem Vls.drew {w : World} {A : Option Addr} {l : List Vl} (h : Vls w A l) : Vls w.drew A l := h

theorem Vls.nil (w : World) (A : Option Addr) : Vls w A [] := fun j x h => by simp at h

theorem Vls.at {w : World} {A : Option Addr} {l : List Vl} (h : Vls w A l) {k : Nat} (hk : k < l.length) : ∃ b o, A = some ⟨b, o, none⟩ ∧ b < w.heap.size ∧ w.cell? ⟨b, o + k * 3, none⟩ = some (.int .i64 l[k].v) ∧ w.cell? ⟨b, o + k * 3 + 1, none⟩ = some (.int .i64 l[k].t) ∧ w.cell? ⟨b, o + k * 3 + 2, none⟩ = some (.int .i64 l[k].u) := h k l[k] (List.getElem?_eq_getElem hk)

theorem vlan_vid (g : Bool) (u own : Int) : vlanN g u own = vidF own g u := rfl

set_option maxRecDepth 40000 in
theorem hasOwn_any (d s : Int) (g : Bool) (p v t : Int) (b : ByteArray) (w : World) :
    Calls Try.prog 22 #[fr d s g p v t b] w fun e w' => e = .returned (.bool (ownF g v)) ∧ Below w.heap.size w w' := by
  have bel := Lib.hid (Bx.box_below w (.cells #[.int .u64 d, .int .u64 s, .bool g, .int .i64 p, .int .i64 v, .int .i64 t, .string b] 29))
  cases g
  · go_enter Try.func22, Try.ntmps22
    go_wp2
    go_ret
    exact ⟨rfl, bel.out⟩
  · by_cases h : 0 < v
    · rw [show ownF true v = true by unfold ownF; simp [h]]
      go_enter Try.func22, Try.ntmps22
      go_wp2
      go_ret
      exact ⟨rfl, bel.out⟩
    · rw [show ownF true v = false by unfold ownF; simp; omega]
      go_enter Try.func22, Try.ntmps22
      go_wp2
      go_ret
      exact ⟨rfl, bel.out⟩

set_option maxRecDepth 40000 in
theorem admits_any (t : Int) (x : Bool) (w : World) :
    Calls Try.prog 21 #[.int .i64 t, .bool x] w fun e w' => e = .returned (.bool (admF t x)) ∧ w = w' := by
  by_cases h1 : t = 1
  · subst h1
    go_enter Try.func21, Try.ntmps21
    go_wp2
    go_ret
    exact ⟨rfl, rfl⟩
  · by_cases h2 : t = 2
    · subst h2
      go_enter Try.func21, Try.ntmps21
      go_wp2
      go_ret
      exact ⟨rfl, rfl⟩
    · have e : admF t x = true := by unfold admF; rw [if_neg h1, if_neg h2]
      rw [e]
      go_enter Try.func21, Try.ntmps21
      go_wp2
      go_ret
      exact ⟨rfl, rfl⟩

set_option maxRecDepth 40000 in
theorem rightVid_any (n : Int) (w : World) :
    Calls Try.prog 30 #[.int .i64 n] w fun e w' => e = .returned (.bool (rVid n)) ∧ w = w' := by
  unfold rVid
  by_cases h0 : 1 ≤ n
  · by_cases h1 : n ≤ 4094
    · rw [decide_eq_true ⟨h0, h1⟩]
      go_enter Try.func30, Try.ntmps30
      go_wp2
      go_ret
      exact ⟨rfl, rfl⟩
    · rw [decide_eq_false (fun h => h1 h.2)]
      go_enter Try.func30, Try.ntmps30
      go_wp2
      go_ret
      exact ⟨rfl, rfl⟩
  · rw [decide_eq_false (fun h => h0 h.1)]
    go_enter Try.func30, Try.ntmps30
    go_wp2
    go_ret
    exact ⟨rfl, rfl⟩

set_option maxRecDepth 40000 in
theorem rightSet_any (n : Int) (w : World) :
    Calls Try.prog 33 #[.int .i64 n] w fun e w' => e = .returned (.bool (rSet n)) ∧ w = w' := by
  unfold rSet
  by_cases h0 : 0 ≤ n
  · by_cases h1 : n ≤ 255
    · rw [decide_eq_true ⟨h0, h1⟩]
      go_enter Try.func33, Try.ntmps33
      go_wp2
      go_ret
      exact ⟨rfl, rfl⟩
    · rw [decide_eq_false (fun h => h1 h.2)]
      go_enter Try.func33, Try.ntmps33
      go_wp2
      go_ret
      exact ⟨rfl, rfl⟩
  · rw [decide_eq_false (fun h => h0 h.1)]
    go_enter Try.func33, Try.ntmps33
    go_wp2
    go_ret
    exact ⟨rfl, rfl⟩

set_option maxRecDepth 40000 in
theorem rightTake_any (n : Int) (w : World) :
    Calls Try.prog 31 #[.int .i64 n] w fun e w' => e = .returned (.bool (rTake n)) ∧ w = w' := by
  unfold rTake
  by_cases h0 : n = 0
  · subst h0
    go_enter Try.func31, Try.ntmps31
    go_wp2
    go_ret
    exact ⟨rfl, rfl⟩
  · by_cases h1 : n = 1
    · subst h1
      go_enter Try.func31, Try.ntmps31
      go_wp2
      go_ret
      exact ⟨rfl, rfl⟩
    · by_cases h2 : n = 2
      · subst h2
        go_enter Try.func31, Try.ntmps31
        go_wp2
        go_ret
        exact ⟨rfl, rfl⟩
      · rw [decide_eq_false (by omega)]
        have e0 : (n == 0) = false := by simpa using h0
        have e1 : (n == 1) = false := by simpa using h1
        have e2 : (n == 2) = false := by simpa using h2
        go_enter Try.func31, Try.ntmps31
        go_wp2
        go_ret
        exact ⟨rfl, rfl⟩

set_option maxRecDepth 40000 in
theorem rightVlan_any (x : Vl) (w : World) :
    Calls Try.prog 29 #[vl x] w fun e w' => e = .returned (.bool (rVl x)) ∧ Below w.heap.size w w' := by
  obtain ⟨v, t, u⟩ := x
  have bel := Lib.hid (Bx.box_below w (vo ⟨v, t, u⟩))
  have H1 := Lib.hid (rightVid_any v)
  have H2 := Lib.hid (rightSet_any t)
  have H3 := Lib.hid (rightSet_any u)
  unfold rVl
  simp only at bel ⊢
  generalize rVid v = r1 at *
  generalize rSet t = r2 at *
  generalize rSet u = r3 at *
  have HB := Lib.hid (rfl : (bits BinOp.and IntKind.i64 t u == 0) = (bits BinOp.and IntKind.i64 t u == 0))
  cases r1
  · go_enter Try.func29, Try.ntmps29
    go_wp2_with fail
    refine (H1.out _).mono ?_; rintro e w1 ⟨rfl, rfl⟩
    go_wp2
    go_ret
    exact ⟨rfl, bel.out⟩
  cases r2
  · go_enter Try.func29, Try.ntmps29
    go_wp2_with fail
    refine (H1.out _).mono ?_; rintro e w1 ⟨rfl, rfl⟩
    go_wp2_with fail
    refine (H2.out _).mono ?_; rintro e w1 ⟨rfl, rfl⟩
    go_wp2
    go_ret
    exact ⟨rfl, bel.out⟩
  cases r3
  · go_enter Try.func29, Try.ntmps29
    go_wp2_with fail
    refine (H1.out _).mono ?_; rintro e w1 ⟨rfl, rfl⟩
    go_wp2_with fail
    refine (H2.out _).mono ?_; rintro e w1 ⟨rfl, rfl⟩
    go_wp2_with fail
    refine (H3.out _).mono ?_; rintro e w1 ⟨rfl, rfl⟩
    go_wp2
    go_ret
    exact ⟨rfl, bel.out⟩
  · go_enter Try.func29, Try.ntmps29
    go_wp2_with fail
    refine (H1.out _).mono ?_; rintro e w1 ⟨rfl, rfl⟩
    go_wp2_with fail
    refine (H2.out _).mono ?_; rintro e w1 ⟨rfl, rfl⟩
    go_wp2_with fail
    refine (H3.out _).mono ?_; rintro e w1 ⟨rfl, rfl⟩
    go_wp2
    go_ret
    exact ⟨rfl, bel.out⟩

end Mem
end Go.Proofs.Ytbighadkcmhplaa
