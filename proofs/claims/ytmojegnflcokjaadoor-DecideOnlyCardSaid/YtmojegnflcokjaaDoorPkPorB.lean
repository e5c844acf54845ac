/-
  Packed in one text: PorB, MemL, FwdG, Frame, Open, OpenRows, OpenArr, MemOpen, EthOpen, FwdK, TabC, TabD.
-/
import Derived.Test.YtmojegnflcokjaaDoorPorA
import Derived.Test.YtmojegnflcokjaaDoorBox
import Derived.Test.YtmojegnflcokjaaDoorPkMemB
import Derived.Deep.LoopGhost
import Derived.Laws.Runes
import Derived.Deep.RegionHeld3
import Derived.Maps.AppendAt
import GoSem.Claim
import GoSem.ClaimJoined
import GoSem.ClaimMapViews
import Derived.JoinedTies
import Derived.KernelRfl
import Derived.WalkKit
import Derived.ProofKit
import Derived.OpenShut
import Derived.ShutString
import Derived.ChangeOld
import Derived.Below
import Derived.Deep.Fields
import Derived.ChangeSame
import Derived.Deep.Slices
import Derived.Test.YtmojegnflcokjaaDoorPkTabNum
import Derived.WideShapes
/-
  What ports.port, Text, List and Next answer, and the document beside them, for every set.
-/
namespace Go.Proofs.YtmojegnflcokjaaDoor
open Go.RowKit
namespace Por

theorem digs_at : ∀ k : Fin 8, ((⟨#[48, 49, 50, 51, 52, 53, 54, 55]⟩ : ByteArray)[k.val]'k.isLt).toNat = 48 + k.val := by decide +kernel

theorem next_dig {P : Program} (w : World) (k : Nat) (hk : k < 8) (ty : TypeId) :
    (Instr.next (.pointer (some ⟨w.heap.size, 0, none⟩)) true ty).run P (w.iter ⟨#[48, 49, 50, 51, 52, 53, 54, 55]⟩ k) =
      .ok (.tuple #[.bool true, .int .i64 k, .int .i32 (48 + (k : Int))]) (w.iter ⟨#[48, 49, 50, 51, 52, 53, 54, 55]⟩ (k + 1)) := by
  have h := digs_at ⟨k, hk⟩
  simp only at h
  rw [run_next_ascii w ⟨#[48, 49, 50, 51, 52, 53, 54, 55]⟩ k ty hk (by omega), h]
  rfl

theorem next_done {P : Program} (w : World) (ty : TypeId) :
    (Instr.next (.pointer (some ⟨w.heap.size, 0, none⟩)) true ty).run P (w.iter ⟨#[48, 49, 50, 51, 52, 53, 54, 55]⟩ 8) = .ok (.tuple #[.bool false]) (w.iter ⟨#[48, 49, 50, 51, 52, 53, 54, 55]⟩ 8) :=
  run_next_end w _ 8 ty (by show ¬ 8 < 8; omega)

theorem iter_below (w : World) (s : ByteArray) (k : Nat) : Below w.heap.size w (w.iter s k) := Bx.box_below w _

theorem enc_dig : ∀ k : Fin 8, (Utf8.encode (48 + (k.val : Int))).data = #[dig k.val] := by decide +kernel

theorem enc_at (k : Nat) (h : k < 8) : Utf8.encode (48 + (k : Int)) = ⟨#[dig k]⟩ := ByteArray.ext (enc_dig ⟨k, h⟩)

theorem app_one (l : List UInt8) (b : UInt8) : (⟨l.toArray⟩ : ByteArray) ++ (⟨#[b]⟩ : ByteArray) = ⟨(l ++ [b]).toArray⟩ := by
  apply ByteArray.ext
  simp

theorem has_at (x : Int) (k : Nat) (h : k < 8) (b : Bool) (hb : hasN (low x) k = b) (w : World) :
    Calls Tryd.prog 22 #[.int .i64 x, .int .i64 k] w fun e w' => e = .returned (.bool b) ∧ w = w' := by
  have := has_any x k w
  rw [hasZ_nat _ _ h, hb] at this
  exact this

theorem rhas_at (x : Int) (k : Nat) (h : k < 8) (b : Bool) (hb : hasN (low x) k = b) (w : World) :
    Calls Tryd.prog 42 #[.int .i64 x, .int .i64 k] w fun e w' => e = .returned (.bool b) ∧ w = w' := by
  have := rhas_any x k w
  rw [hasZ_nat _ _ h, hb] at this
  exact this

theorem text_none (m : Nat) (hm : m = 0) : textB m = ⟨#[45]⟩ := by subst hm; rfl

theorem text_some (m : Nat) (hm : m ≠ 0) : textB m = ⟨(digL m 8).toArray⟩ := by unfold textB textL; rw [if_neg hm]

theorem info_int : (Tryd.prog.info? 3).map (fun i => (i.zero, i.size, i.bytes)) = some (some (.int .i64 0), 1, 8) := by kernel_rfl

/-- Ints as cells. -/
def iv (l : List Int) : List Value := l.map (Value.int .i64)

theorem iv_len (l : List Int) : (iv l).length = l.length := by simp [iv]

theorem own_form {w : World} {base n : Nat} {e : TypeId} {v : Value} {xs : List Value} (h : w.ownsRow base e 1 v n xs) : ∃ B c, v = .slice B n c := by
  rcases h.2 with ⟨rfl, rfl⟩ | ⟨g, cap, cur, rfl, _⟩
  · exact ⟨none, 0, rfl⟩
  · exact ⟨_, _, rfl⟩

set_option maxRecDepth 100000 in
set_option maxHeartbeats 1000000 in
theorem list_any (x : Int) (w : World) :
    Calls Tryd.prog 67 #[.int .i64 x] w (Bx.Gives (listI (low x) 8) w) := by
  obtain ⟨i0, hi, hz0, hz1, hz2⟩ := info_parts info_int
  go_enter Tryd.func67, Tryd.ntmps67
  go_wp2
  go_loopw [3, 5] (fun v i wr => ∃ (k : Nat) (B : Option Addr) (c : Nat) (o : List Int), k ≤ 8 ∧ i = .int .i64 k ∧ v = .slice B o.length c ∧ o.length ≤ k ∧ Aside (o = listI (low x) k) ∧
    Aside (wr.ownsRow w.heap.size 3 1 (.slice B o.length c) o.length (iv o)) ∧ Below w.heap.size w wr) (fun _ i _ => 8 - (intOf i).toNat)
  case atStart => exact ⟨0, none, 0, [], Nat.zero_le _, rfl, rfl, Nat.zero_le _, rfl, World.ownsRow_nil _ _ _ _, Below.refl _ _⟩
  case round =>
    obtain ⟨k, B, c, o, hk, rfl, rfl, ho, HO, HW, hb⟩ := hrel
    by_cases hlt : k < 8
    · cases hm : hasN (low x) k with
      | true =>
        have hH := Lib.hid (has_at x k hlt true hm)
        have HN := Lib.hid (show o ++ [(k : Int)] = listI (low x) (k + 1) by rw [listI_yes _ _ hm, ← HO.out])
        clear hm
        go_wp2_with fail
        refine (hH.out _).mono ?_; rintro e w' ⟨rfl, rfl⟩
        go_wp2_with (at_builtin; refine wpList_append_own _ rfl _ _ 76 rfl w.heap.size 3 i0 (.int .i64 0) 1 8 Tryd.underlying76 hi hz0 hz1 hz2 rfl (by decide) _ _ _ rfl (HW.out.alloc _) ⟨wr.heap.size, 0, none⟩ 1 1 [.int .i64 k] rfl rfl ?c1 ?c2 ?c3 ?c4 ?c5 ?_)
        case c1 => exact cell_one_new _ _ _
        case c2 => intro u hu; simp at hu; subst hu; rfl
        case c3 => unfold maxLen; omega
        case c4 => omega
        case c5 => have := hb.size; simp; omega
        intro v' w2 hown' hgrow _
        have hrow := (HW.out).lt
        have bel := (Bx.bel_box hb (Obj.cells #[.int .i64 k] 3)).grown hgrow (by have := hb.size; simp; omega) (fun q hq => (hrow q hq).1)
        obtain ⟨B', c', rfl⟩ := own_form hown'
        have HW2 := Lib.hid hown'
        clear hown' hgrow hrow
        go_wp2
        go_roundw
        case rel =>
          refine ⟨k + 1, B', c', o ++ [(k : Int)], by omega, by go_num, by simp, by simp; omega, HN.out, ?_, bel⟩
          have := HW2.out
          simpa [iv, Aside] using this
        case measure => simp [intOf]; omega
      | false =>
        have hH := Lib.hid (has_at x k hlt false hm)
        have HN := Lib.hid (show o = listI (low x) (k + 1) by rw [listI_no _ _ hm, ← HO.out])
        clear hm
        go_wp2_with fail
        refine (hH.out _).mono ?_; rintro e w' ⟨rfl, rfl⟩
        go_wp2
        go_roundw
        case rel => exact ⟨k + 1, B, c, o, by omega, by go_num, rfl, by omega, HN.out, HW.out, hb⟩
        case measure => simp [intOf]; omega
    · obtain rfl : k = 8 := by omega
      obtain ⟨A, cap, hv, hI⟩ := Bx.Ints.of_own HW.out
      have HF := Lib.hid (show Bx.Gives (listI (low x) 8) w (.returned (.slice B o.length c)) wr by
        rw [← HO.out]
        exact ⟨A, cap, by rw [hv], hI, hb⟩)
      clear hv hI
      go_wp2
      go_ret
      exact HF.out

set_option maxRecDepth 100000 in
set_option maxHeartbeats 1000000 in
theorem rlist_any (x : Int) (w : World) :
    Calls Tryd.prog 37 #[.int .i64 x] w (Bx.Gives (listI (low x) 8) w) := by
  obtain ⟨i0, hi, hz0, hz1, hz2⟩ := info_parts info_int
  go_enter Tryd.func37, Tryd.ntmps37
  go_wp2
  go_loopw [3, 5] (fun v i wr => ∃ (k : Nat) (B : Option Addr) (c : Nat) (o : List Int), k ≤ 8 ∧ i = .int .i64 k ∧ v = .slice B o.length c ∧ o.length ≤ k ∧ Aside (o = listI (low x) k) ∧
    Aside (wr.ownsRow w.heap.size 3 1 (.slice B o.length c) o.length (iv o)) ∧ Below w.heap.size w wr) (fun _ i _ => 8 - (intOf i).toNat)
  case atStart => exact ⟨0, none, 0, [], Nat.zero_le _, rfl, rfl, Nat.zero_le _, rfl, World.ownsRow_nil _ _ _ _, Below.refl _ _⟩
  case round =>
    obtain ⟨k, B, c, o, hk, rfl, rfl, ho, HO, HW, hb⟩ := hrel
    by_cases hlt : k < 8
    · cases hm : hasN (low x) k with
      | true =>
        have hH := Lib.hid (rhas_at x k hlt true hm)
        have HN := Lib.hid (show o ++ [(k : Int)] = listI (low x) (k + 1) by rw [listI_yes _ _ hm, ← HO.out])
        clear hm
        go_wp2_with fail
        refine (hH.out _).mono ?_; rintro e w' ⟨rfl, rfl⟩
        go_wp2_with (at_builtin; refine wpList_append_own _ rfl _ _ 76 rfl w.heap.size 3 i0 (.int .i64 0) 1 8 Tryd.underlying76 hi hz0 hz1 hz2 rfl (by decide) _ _ _ rfl (HW.out.alloc _) ⟨wr.heap.size, 0, none⟩ 1 1 [.int .i64 k] rfl rfl ?c1 ?c2 ?c3 ?c4 ?c5 ?_)
        case c1 => exact cell_one_new _ _ _
        case c2 => intro u hu; simp at hu; subst hu; rfl
        case c3 => unfold maxLen; omega
        case c4 => omega
        case c5 => have := hb.size; simp; omega
        intro v' w2 hown' hgrow _
        have hrow := (HW.out).lt
        have bel := (Bx.bel_box hb (Obj.cells #[.int .i64 k] 3)).grown hgrow (by have := hb.size; simp; omega) (fun q hq => (hrow q hq).1)
        obtain ⟨B', c', rfl⟩ := own_form hown'
        have HW2 := Lib.hid hown'
        clear hown' hgrow hrow
        go_wp2
        go_roundw
        case rel =>
          refine ⟨k + 1, B', c', o ++ [(k : Int)], by omega, by go_num, by simp, by simp; omega, HN.out, ?_, bel⟩
          have := HW2.out
          simpa [iv, Aside] using this
        case measure => simp [intOf]; omega
      | false =>
        have hH := Lib.hid (rhas_at x k hlt false hm)
        have HN := Lib.hid (show o = listI (low x) (k + 1) by rw [listI_no _ _ hm, ← HO.out])
        clear hm
        go_wp2_with fail
        refine (hH.out _).mono ?_; rintro e w' ⟨rfl, rfl⟩
        go_wp2
        go_roundw
        case rel => exact ⟨k + 1, B, c, o, by omega, by go_num, rfl, by omega, HN.out, HW.out, hb⟩
        case measure => simp [intOf]; omega
    · obtain rfl : k = 8 := by omega
      obtain ⟨A, cap, hv, hI⟩ := Bx.Ints.of_own HW.out
      have HF := Lib.hid (show Bx.Gives (listI (low x) 8) w (.returned (.slice B o.length c)) wr by
        rw [← HO.out]
        exact ⟨A, cap, by rw [hv], hI, hb⟩)
      clear hv hI
      go_wp2
      go_ret
      exact HF.out

end Por
end Go.Proofs.YtmojegnflcokjaaDoor

/-
  The law's Long; the step over a load of a whole plan in a region that draws its order.
-/
namespace Go.Proofs.YtmojegnflcokjaaDoor
open Go.RowKit
namespace Mem
open Oct Eth

set_option maxRecDepth 40000 in
theorem long_any (o k : Nat → Int) (A : Option Addr) (n : Nat) (hn : n ≤ maxLen) (c : Nat) (w : World) : Calls Tryd.prog 6 #[pv o k A n c] w fun e w' => e = .returned (.bool (decide (100 < n))) ∧ Below w.heap.size w w' := by
  have bel := Lib.hid (Bx.box_below w (po o k A n c))
  have p16 := (Bx.Blk.new w (pc o k A n c) 28).at 16 rfl
  have hn' : n ≤ 9223372036854775807 := hn
  by_cases h : 100 < n
  · rw [decide_eq_true h]
    have h' : decide ((100 : Int) < (n : Int)) = true := decide_eq_true (by omega)
    go_enter Tryd.func6, Tryd.ntmps6
    go_wp2
    go_ret
    exact ⟨rfl, bel.out⟩
  · rw [decide_eq_false h]
    have h' : decide ((100 : Int) < (n : Int)) = false := decide_eq_false (by omega)
    go_enter Tryd.func6, Tryd.ntmps6
    go_wp2
    go_ret
    exact ⟨rfl, bel.out⟩

theorem yields_pl {ops : Array Oper} {S : World → Prop} {op : Oper} {a : Act} (hw : Region.wanted op (yielded ops a.tmps) = true) (x : Operand) (ho : op.op = .load 28 x) (b : Nat) (hx : a.eval x = .pointer (some ⟨b, 0, none⟩)) (o k : Nat → Int) (A : Option Addr) (n c : Nat) (hS : ∀ w, S w → Bx.Blk w b (pc o k A n c)) : YieldsIf Tryd.prog ops S op (pv o k A n c) a :=
  yieldsIf_load_mid hw _ x ho b 0 hx (pc o k A n c) _ (fun w h => (hS w h).range) under_pl rfl info_pl

end Mem
end Go.Proofs.YtmojegnflcokjaaDoor

/-
  What goes out, in memory; the closure that makes the frame for a port; decide.handedOut.
-/
namespace Go.Proofs.YtmojegnflcokjaaDoor
open Go.RowKit
namespace Fwd
open Oct Eth

/-- A frame's fields as a value; what goes out as cells, as a value, as an object. -/
abbrev fmv (x : Fm) : Value := fr x.d x.s x.g x.p x.v x.t x.b
def oc (x : Ou) : List Value := [.int .i64 x.q, .int .u64 x.f.d, .int .u64 x.f.s, .bool x.f.g, .int .i64 x.f.p, .int .i64 x.f.v, .int .i64 x.f.t, .string x.f.b]
abbrev ovl (x : Ou) : Value := .agg #[.int .i64 x.q, .int .u64 x.f.d, .int .u64 x.f.s, .bool x.f.g, .int .i64 x.f.p, .int .i64 x.f.v, .int .i64 x.f.t, .string x.f.b]
abbrev oo (x : Ou) : Obj := .cells #[.int .i64 x.q, .int .u64 x.f.d, .int .u64 x.f.s, .bool x.f.g, .int .i64 x.f.p, .int .i64 x.f.v, .int .i64 x.f.t, .string x.f.b] 45

theorem snd_is (L : List Mem.Vl) (n q d s p t : Int) (b : ByteArray) : Mem.sndF L n q d s p t b = fmv (sentF L n q d s p t b) := by
  unfold Mem.sndF sentF
  split
  · rfl
  · split <;> rfl

theorem info_out : (Tryd.prog.info? 45).map (fun i => (i.zero, i.size, i.bytes)) = some (some (.agg #[.int .i64 0, .int .u64 0, .int .u64 0, .bool false, .int .i64 0, .int .i64 0, .int .i64 0, .string ⟨#[]⟩]), 8, 72) := by kernel_rfl

theorem oc_one (l : List Ou) : ∀ u ∈ l.flatMap oc, u.oneCell' = true := by
  intro u hu
  obtain ⟨a, _, ha⟩ := List.mem_flatMap.1 hu
  simp [oc] at ha
  rcases ha with rfl | rfl | rfl | rfl | rfl | rfl | rfl | rfl <;> rfl

theorem flat_at {α : Type} (f : α → List Value) (z : Nat) (hz : ∀ x, (f x).length = z) : ∀ (l : List α) (j : Nat) (x : α), l[j]? = some x → ∀ (i : Nat) (u : Value), (f x)[i]? = some u → (l.flatMap f)[j * z + i]? = some u
  | [], j, x, h, i, u, hu => by simp at h
  | y :: l, 0, x, h, i, u, hu => by
    have e : y = x := by simpa using h
    subst e
    have hi : i < (f y).length := (List.getElem?_eq_some_iff.1 hu).1
    rw [List.flatMap_cons, Nat.zero_mul, Nat.zero_add, List.getElem?_append_left hi]
    exact hu
  | y :: l, j + 1, x, h, i, u, hu => by
    have h' : l[j]? = some x := by simpa using h
    have ih := flat_at f z hz l j x h' i u hu
    have e : (j + 1) * z = j * z + z := Nat.succ_mul j z
    rw [List.flatMap_cons, List.getElem?_append_right (by rw [hz y]; omega), hz y, show (j + 1) * z + i - z = j * z + i by omega]
    exact ih

/-- The slice that begins at A reads as what goes out. -/
def Outs (w : World) (A : Option Addr) (l : List Ou) : Prop := ∀ j x, l[j]? = some x → ∃ b o, A = some ⟨b, o, none⟩ ∧ b < w.heap.size ∧ ∀ i u, (oc x)[i]? = some u → w.cell? ⟨b, o + j * 8 + i, none⟩ = some u

theorem Outs.below {w w' : World} {A : Option Addr} {l : List Ou} (h : Outs w A l) (hb : Below w.heap.size w w') : Outs w' A l := fun j x hj => by
  obtain ⟨b, o, e, h1, h2⟩ := h j x hj
  exact ⟨b, o, e, Nat.lt_of_lt_of_le h1 hb.size, fun i u hu => Bx.keep_cell hb (h2 i u hu)⟩

theorem Outs.nil (w : World) (A : Option Addr) : Outs w A [] := fun j x h => by simp at h

theorem Outs.set {w : World} {A : Option Addr} {l : List Ou} {b o : Nat} {x : Value} (h : Outs w A l) (hb : ∀ b' o', A = some ⟨b', o', none⟩ → b' ≠ b) : Outs (w.setCell ⟨b, o, none⟩ x) A l := fun j y hj => by
  obtain ⟨b', o', e, h1, h2⟩ := h j y hj
  exact ⟨b', o', e, by simpa using h1, fun i u hu => Bx.cell_off (hb b' o' e) (h2 i u hu)⟩

theorem Outs.at {w : World} {A : Option Addr} {l : List Ou} (h : Outs w A l) {k : Nat} (hk : k < l.length) : ∃ b o, A = some ⟨b, o, none⟩ ∧ b < w.heap.size ∧ w.cell? ⟨b, o + k * 8, none⟩ = some (.int .i64 l[k].q) ∧ w.cell? ⟨b, o + k * 8 + 1, none⟩ = some (.int .u64 l[k].f.d) ∧ w.cell? ⟨b, o + k * 8 + 2, none⟩ = some (.int .u64 l[k].f.s) ∧
    w.cell? ⟨b, o + k * 8 + 3, none⟩ = some (.bool l[k].f.g) ∧ w.cell? ⟨b, o + k * 8 + 4, none⟩ = some (.int .i64 l[k].f.p) ∧ w.cell? ⟨b, o + k * 8 + 5, none⟩ = some (.int .i64 l[k].f.v) ∧ w.cell? ⟨b, o + k * 8 + 6, none⟩ = some (.int .i64 l[k].f.t) ∧ w.cell? ⟨b, o + k * 8 + 7, none⟩ = some (.string l[k].f.b) := by
  obtain ⟨b, o, e, h1, h2⟩ := h k l[k] (List.getElem?_eq_getElem hk)
  exact ⟨b, o, e, h1, h2 0 _ rfl, h2 1 _ rfl, h2 2 _ rfl, h2 3 _ rfl, h2 4 _ rfl, h2 5 _ rfl, h2 6 _ rfl, h2 7 _ rfl⟩

theorem own_below {z : Nat} {w w' : World} {base : Nat} {e : TypeId} {v : Value} {n : Nat} {xs : List Value} (h : w.ownsRow base e z v n xs) (hb : Below w.heap.size w w') : w'.ownsRow base e z v n xs := by
  refine ⟨h.1, ?_⟩
  rcases h.2 with hn | ⟨g, cap, cur, h1, h2, h3, h4⟩
  · exact .inl hn
  · refine .inr ⟨g, cap, cur, h1, h2, ?_, h4⟩
    rw [hb.block g (Array.getElem?_eq_some_iff.1 h3).1]
    exact h3

theorem own_mono {z : Nat} {w : World} {base b' : Nat} {e : TypeId} {v : Value} {n : Nat} {xs : List Value} (h : w.ownsRow base e z v n xs) (hb : b' ≤ base) : w.ownsRow b' e z v n xs := by
  refine ⟨h.1, ?_⟩
  rcases h.2 with hn | ⟨g, cap, cur, h1, h2, h3⟩
  · exact .inl hn
  · exact .inr ⟨g, cap, cur, h1, Nat.le_trans hb h2, h3⟩

theorem own_set {z : Nat} {w : World} {base b o : Nat} {e : TypeId} {v x : Value} {n : Nat} {xs : List Value} (h : w.ownsRow base e z v n xs) (hb : b < base) : (w.setCell ⟨b, o, none⟩ x).ownsRow base e z v n xs := by
  refine ⟨h.1, ?_⟩
  rcases h.2 with hn | ⟨g, cap, cur, h1, h2, h3, h4⟩
  · exact .inl hn
  · refine .inr ⟨g, cap, cur, h1, h2, ?_, h4⟩
    rw [← h3]
    exact Below.heap_setCell w ⟨b, o, none⟩ x g (by show g ≠ b; omega)

theorem Outs.of_own {w : World} {base : Nat} {e : TypeId} {v : Value} {l : List Ou} (h : w.ownsRow base e 8 v l.length (l.flatMap oc)) : ∃ A cap, v = .slice A l.length cap ∧ Outs w A l := by
  rcases h.2 with ⟨rfl, h0⟩ | ⟨g, cap, cur, rfl, hb, hg, _⟩
  · have : l = [] := List.eq_nil_of_length_eq_zero h0
    subst this
    exact ⟨none, 0, rfl, Outs.nil _ _⟩
  · refine ⟨_, _, rfl, fun j x hj => ⟨g, 0, rfl, (Array.getElem?_eq_some_iff.1 hg).1, fun i u hu => ?_⟩⟩
    have := h.cells (g := g) rfl _ _ (flat_at oc 8 (fun _ => rfl) l j x hj i u hu)
    rw [Addr.add_lit] at this
    rw [Nat.zero_add] at this ⊢
    exact this

theorem Outs.of_own3 {w : World} {base n c : Nat} {e : TypeId} {B : Option Addr} {l : List Ou} (h : w.ownsRow base e 8 (.slice B n c) l.length (l.flatMap oc)) : Outs w B l := by
  obtain ⟨A, cap, e1, e2⟩ := Outs.of_own h
  injection e1 with e1 _ _
  subst e1
  exact e2

theorem own_form {w : World} {base : Nat} {e : TypeId} {v : Value} {l : List Ou} (h : w.ownsRow base e 8 v l.length (l.flatMap oc)) : ∃ B c, v = .slice B l.length c ∧ w.ownsRow base e 8 (.slice B l.length c) l.length (l.flatMap oc) := by
  obtain ⟨B, c, rfl, _⟩ := Outs.of_own h
  exact ⟨B, c, rfl, h⟩

theorem own_next {w : World} {base : Nat} {e : TypeId} {v : Value} {l : List Ou} {x : Ou} (h : w.ownsRow base e 8 v (l.length + 1) (l.flatMap oc ++ oc x)) : ∃ B c, v = .slice B (l ++ [x]).length c ∧ w.ownsRow base e 8 (.slice B (l ++ [x]).length c) (l ++ [x]).length ((l ++ [x]).flatMap oc) := by
  refine own_form (l := l ++ [x]) ?_
  simpa using h

theorem eight_new (w : World) (x : Ou) (t : TypeId) (n : Nat) (h : n = w.heap.size := by rfl) : ∀ j u, (oc x)[j]? = some u → (w.alloc (.cells (oc x).toArray t)).cell? (Addr.add ⟨n, 0, none⟩ j) = some u := fun j u hu => by
  subst h
  rw [Addr.add_lit]
  simpa using (Bx.Blk.new w (oc x) t) j u hu

set_option maxRecDepth 40000 in
set_option maxHeartbeats 4000000 in
/-- The closure that makes the frame for a port. -/
theorem sent_fn (o k : Nat → Int) (A : Option Addr) (n c : Nat) (b7 b14 b8 : Nat) (q v d s : Int) (g : Bool) (p vv t : Int) (X : ByteArray) (x : Fm) (T : Bool) (w : World) (h7 : Bx.Blk w b7 (Mem.pc o k A n c)) (h14 : w.cell? ⟨b14, 0, none⟩ = some (.int .i64 v)) (h8 : Bx.Blk w b8 (Mem.fc d s g p vv t X))
    (HS : Hid (∀ w', Below w.heap.size w w' → Calls Tryd.prog 34 #[Mem.pv o k A n c, .int .i64 q, .int .i64 v, fr d s g p vv t X] w' fun e w'' => e = .returned (.tuple #[fmv x, .bool T]) ∧ Below w'.heap.size w' w'')) :
    Calls Tryd.prog 33 #[.int .i64 q, .pointer (some ⟨b7, 0, none⟩), .pointer (some ⟨b14, 0, none⟩), .pointer (some ⟨b8, 0, none⟩)] w fun e w' => e = .returned (fmv x) ∧ Below w.heap.size w w' := by
  obtain ⟨d2, s2, g2, p2, v2, t2, X2⟩ := x
  have bel := Lib.hid (Bx.box_below w (Mem.fo 0 0 false 0 0 0 ⟨#[]⟩))
  have P1 := Lib.hid (h7.more (Mem.fo 0 0 false 0 0 0 ⟨#[]⟩))
  have F1 := Lib.hid (h8.more (Mem.fo 0 0 false 0 0 0 ⟨#[]⟩))
  have c14 := Bx.keep_cell bel.out h14
  have R := Lib.hid (Bx.Fre.new w (Mem.fc 0 0 false 0 0 0 ⟨#[]⟩) 32)
  obtain ⟨f0, f1, f2, f3, f4, f5, f6⟩ := F1.out.all7
  clear h7 h8 h14
  go_enter Tryd.func33, Tryd.ntmps33
  go_wp2_with (first | ((with_reducible refine Mem.load_at ?_ ?_ b7 ?_ o k A n c ?_ ?_); (· rfl); (· rfl); (· rfl); (· exact P1.out)))
  refine (HS.out _ bel.out).mono ?_; rintro e w1 ⟨rfl, hb⟩
  replace bel := Lib.hid (Bx.bel_box (Bx.then_below bel.out hb) (Mem.fo d2 s2 g2 p2 v2 t2 X2))
  replace R := Lib.hid ((R.out.keep hb).more (Mem.fo d2 s2 g2 p2 v2 t2 X2))
  obtain ⟨g0, g1, g2', g3, g4, g5, g6⟩ := (Bx.Blk.new w1 (Mem.fc d2 s2 g2 p2 v2 t2 X2) 32).all7
  clear f0 f1 f2 f3 f4 f5 f6 c14 F1 P1 hb
  obtain ⟨⟨r0, r1, r2, r3, r4, r5, r6⟩, z0, z1, z2, z3, z4, z5, z6⟩ := R.out.all7
  have R2 := Lib.hid ((R.out.1.put7 (x0 := .int .u64 d2) (x1 := .int .u64 s2) (x2 := .bool g2) (x3 := .int .i64 p2) (x4 := .int .i64 v2) (x5 := .int .i64 t2) (x6 := .string X2)).all7)
  have bel3 := Lib.hid (Bx.bel_set7 (x0 := .int .u64 d2) (x1 := .int .u64 s2) (x2 := .bool g2) (x3 := .int .i64 p2) (x4 := .int .i64 v2) (x5 := .int .i64 t2) (x6 := .string X2) (Nat.le_refl _) bel.out)
  clear R bel
  go_wp2
  refine bodyPost_ret (v := fr d2 s2 g2 p2 v2 t2 X2) ?_ rfl ?_
  · obtain ⟨d0, d1, d2, d3, d4, d5, d6⟩ := R2.out
    simp [results, Tryd.results33, d0, d1, d2, d3, d4, d5, d6, go_sem]
  · exact ⟨rfl, bel3.out⟩

/-- What is handed back: a new slice that reads as l. -/
def GivesO (l : List Ou) (w : World) (e : Ending) (w' : World) : Prop := ∃ A c, e = .returned (.slice A l.length c) ∧ (∀ b o, A = some ⟨b, o, none⟩ → w.heap.size ≤ b) ∧ Outs w' A l ∧ Below w.heap.size w w'

set_option maxRecDepth 100000 in
set_option maxHeartbeats 4000000 in
theorem handed_any (x : Int) (b7 b14 b8 : Nat) (F : Int → Fm) (w : World)
    (HF : Hid (∀ (q : Int) (w' : World), Below w.heap.size w w' → Calls Tryd.prog 33 #[.int .i64 q, .pointer (some ⟨b7, 0, none⟩), .pointer (some ⟨b14, 0, none⟩), .pointer (some ⟨b8, 0, none⟩)] w' fun e w'' => e = .returned (fmv (F q)) ∧ Below w'.heap.size w' w'')) :
    Calls Tryd.prog 35 #[.int .i64 x, .func (.func 33) #[] #[.pointer (some ⟨b7, 0, none⟩), .pointer (some ⟨b14, 0, none⟩), .pointer (some ⟨b8, 0, none⟩)]] w (GivesO ((Por.listI (Por.low x) 8).map fun q => ⟨q, F q⟩) w) := by
  obtain ⟨i0, hi, hz0, hz1, hz2⟩ := info_parts info_out
  have hL := Lib.hid (Por.list_any x)
  have h8 := Por.listI_len (Por.low x) 8
  have eg : ∀ args w, (callFunc 33 args).run Tryd.prog w = .ok (.enter 33 args) w := enters_of Tryd.func33 (by kernel_rfl) rfl
  generalize Por.listI (Por.low x) 8 = l at *
  have HT := Lib.hid (fun k (h : k < l.length) => show ((l.take (k + 1)).map fun q => (⟨q, F q⟩ : Ou)) = ((l.take k).map fun q => (⟨q, F q⟩ : Ou)) ++ [⟨l[k], F l[k]⟩] by rw [List.take_succ_eq_append_getElem h, List.map_append]; rfl)
  obtain ⟨R, HR⟩ : ∃ R : List Ou, Hid (R = l.map fun q => (⟨q, F q⟩ : Ou)) := ⟨_, rfl⟩
  rw [← HR.out]
  have HZ := Lib.hid (show ((l.take l.length).map fun q => (⟨q, F q⟩ : Ou)) = R by rw [List.take_length, HR.out])
  go_enter Tryd.func35, Tryd.ntmps35
  go_wp2_with fail
  refine (hL.out _).mono ?_; rintro e w1 ⟨A, cap, rfl, hI, hb1⟩
  have HI := Lib.hid hI
  have B1 := Lib.hid hb1
  clear hI hb1 hL
  go_wp2
  go_loopw [5, 7, 11] (fun v _ ix wr => ∃ (k : Nat) (B : Option Addr) (cc : Nat) (o : List Ou), k ≤ l.length ∧ ix = .int .i64 k ∧ v = .slice B o.length cc ∧ o.length ≤ k ∧ Aside (((l.take k).map fun q => (⟨q, F q⟩ : Ou)) = o) ∧
    Aside (wr.ownsRow w1.heap.size 45 8 (.slice B o.length cc) o.length (o.flatMap oc)) ∧ Aside (Below w1.heap.size w1 wr)) (fun _ _ ix _ => l.length - (intOf ix).toNat)
  case atStart => exact ⟨0, none, 0, [], Nat.zero_le _, rfl, rfl, Nat.le_refl _, rfl, World.ownsRow_nil _ _ _ _, Below.refl _ _⟩
  case round =>
    obtain ⟨k, B, cc, o, hk, rfl, rfl, ho, HO, HW, HB⟩ := hrel
    by_cases hlt : k < l.length
    · obtain ⟨ad, rfl, _, c0⟩ := (HI.out.below HB.out).at hlt
      have HN := Lib.hid (HT.out k hlt)
      rw [HO.out] at HN
      have HC := Lib.hid (HF.out l[k] _ (Bx.then_below B1.out HB.out))
      generalize l[k] = q at *
      obtain ⟨y, hy⟩ : ∃ y, y = F q := ⟨_, rfl⟩
      rw [← hy] at HC HN
      clear hy
      obtain ⟨d2, s2, g2, p2, v2, t2, X2⟩ := y
      go_wp2_with fail
      refine HC.out.mono ?_; rintro e w2 ⟨rfl, hb2⟩
      have B2 := Lib.hid (Bx.then_below HB.out hb2)
      have HW2 := Lib.hid (own_below HW.out hb2)
      clear hb2 HC c0
      have hw2 := B2.out.size
      go_wp2_with (at_builtin; refine wpList_append_own_at _ rfl _ _ 40 rfl w1.heap.size 45 i0 (.agg #[.int .i64 0, .int .u64 0, .int .u64 0, .bool false, .int .i64 0, .int .i64 0, .int .i64 0, .string ⟨#[]⟩]) 8 72 Tryd.underlying40 hi hz0 hz1 hz2 rfl (by decide) _ _ _ rfl (HW2.out.alloc _) ⟨_, 0, none⟩ 1 1 (oc ⟨q, ⟨d2, s2, g2, p2, v2, t2, X2⟩⟩) rfl rfl ?c1 ?c2 ?c3 ?c4 ?c5 ?_)
      case c1 => first | exact eight_new _ _ _ _ | exact fun j u hu => hu
      case c2 => intro u hu; exact oc_one [⟨q, ⟨d2, s2, g2, p2, v2, t2, X2⟩⟩] u (by simpa using hu)
      case c3 => unfold maxLen; omega
      case c4 => omega
      case c5 => first | omega | (simp; omega)
      intro v' w5 hown' hgrow _ _
      have hrow := (HW2.out).lt
      have bel5 := (Bx.bel_box B2.out (oo ⟨q, ⟨d2, s2, g2, p2, v2, t2, X2⟩⟩)).grown hgrow (by simp; omega) (fun q hq => (hrow q hq).1)
      obtain ⟨B', c', rfl, hW'⟩ := own_next hown'
      have HW3 := Lib.hid hW'
      have HBL := Lib.hid bel5
      clear hown' hgrow hrow hW' bel5
      go_wp2
      go_roundw
      case rel => exact ⟨k + 1, B', c', o ++ [(⟨q, ⟨d2, s2, g2, p2, v2, t2, X2⟩⟩ : Ou)], by omega, by go_num, rfl, by simp; omega, HN.out, HW3.out, HBL.out⟩
      case measure => simp [intOf]; omega
    · obtain rfl : k = l.length := by omega
      have HE := Lib.hid (show o = R by rw [← HO.out]; exact HZ.out)
      have B2 := Lib.hid (Bx.then_below B1.out HB.out)
      have HG := Lib.hid (show GivesO R w (.returned (.slice B o.length cc)) wr from ⟨B, cc, by rw [HE.out], fun b o' hb => by have := (HW.out.lt b (by rw [hb]; rfl)).1; have := B1.out.size; omega, by rw [← HE.out]; exact Outs.of_own3 HW.out, B2.out⟩)
      go_wp2
      go_ret
      exact HG.out

end Fwd
end Go.Proofs.YtmojegnflcokjaaDoor

/-
  From the walk of a law (a function of plain data that answers one bool) to its row: if the call returns true and changes nothing that was there, the row's claim holds. Over any program.
-/
namespace Go.Proofs.YtmojegnflcokjaaDoor
open Go.ChangeShapes Go.WideShapes Go.ChangeAt Go.RowKit
open Go.ChangeMaps (open_string shut_string)
namespace Fr

set_option maxRecDepth 40000 in
theorem trodAll_length {H : Type} {enc : TypeId × Value → H} {P : Program} {w : World} {base : Nat} {spare : Nat → Bool} {held : Bool} : ∀ (ts : List TypeId) {vs : List Value} {ds : List (DataW H)} {p : List MemPlace},
    DataW.TrodAll enc P w base spare held ts vs ds p → ds.length = ts.length
  | [], _, _, _, h => by obtain ⟨_, rfl, _⟩ := trodAll_nil h; rfl
  | t :: ts, _, _, _, h => by
    obtain ⟨v, vs', d, ds', p, q, _, rfl, _, _, hq⟩ := trodAll_cons h
    simp [trodAll_length ts hq]

set_option maxRecDepth 40000 in
/-- Arguments read behind a call that changes nothing below as they read before it. -/
theorem trodAll_below {H : Type} {enc : TypeId × Value → H} {P : Program} (hl : laidOutB P = true) {W W' : World} (hb : Below W.heap.size W W') : ∀ (ts : List TypeId), (∀ t ∈ ts, P.readableRec t = true ∧ t < P.types.size) → ∀ {vs : List Value} {ds : List (DataW H)} {p : List MemPlace},
    DataW.TrodAll enc P W 0 (fun _ => true) true ts vs ds p → DataW.TrodAll enc P W' 0 (fun b => decide (b < W.heap.size)) true ts vs ds p
  | [], _, _, _, _, h => by obtain ⟨rfl, rfl, rfl⟩ := trodAll_nil h; exact trodAll_mk0
  | t :: ts, hr, _, _, _, h => by
    obtain ⟨v, vs', d, ds', p, q, rfl, rfl, rfl, hp, hq⟩ := trodAll_cons h
    have hlt : ∀ x ∈ p, x.block < W.heap.size := by obtain ⟨m, hm⟩ := hp; exact DataW.trod_lt m _ _ _ hm
    exact trodAll_cons_mk (Below.trod hl (hr t (by simp)).1 (hr t (by simp)).2 hp hb hlt) (trodAll_below hl hb ts (fun x hx => hr x (by simp [hx])) hq)

set_option maxRecDepth 40000 in
/-- THE ROW's STEP of a law. -/
theorem law_lift {C : Checked} {os : Os} {f : FuncId} {fn : Func} {s : ChangeSpec} {H : Type} {enc : TypeId × Value → H} {tb : TypeId}
    (own : ownKnob C.prog.godebug = none) (started : os.Started) (noInit : C.prog.inits.idxOf? f = none) (hfn : C.prog.funcs[f]? = some fn)
    (witness : ∃ (w : World) (tape : Tape) (i : Input), w.os = os ∧ (w.forCall tape i).Shaped C.prog ∧ i.vars = [] ∧ Input.okWide C.prog (w.forCall tape i) .any w.heap.size f i ∧
      s.pre6 enc C.prog fn [] false (w.forCall tape i).memory i.args ∧ ({} : Assume).holds C.prog (lone (Frame.enter C.prog f i.args .normal) [] (w.forCall tape i)))
    (laid : laidOutB C.prog = true) (hrd : ∀ t ∈ fn.params.toList, C.prog.readableRec t = true ∧ t < C.prog.types.size) (hres : fn.resultTypes = #[tb]) (hbool : C.prog.underlying tb = some .bool) (hvars : s.vars = [])
    (hspec : ∀ ds : List (DataW H), ds.length = fn.params.size → s.fn H (ds ++ []) = { results := [.lit (.bool true)], args := ds })
    (walk : ∀ (W : World) (base : Nat) (args : Array Value) (ds : List (DataW H)) (p : List MemPlace), (∀ (j : Nat) t v, fn.params[j]? = some t → args[j]? = some v → Value.okWide C.prog W .any base t v) →
      DataW.TrodAll enc C.prog W 0 (fun _ => true) true fn.params.toList args.toList ds p → Calls C.prog f args W fun e W' => e = .returned (.bool true) ∧ Below W.heap.size W W') :
    ReturnsInHanded {} C os f .any (s.pre6 enc C.prog fn [] false) (s.post enc C.prog fn false true false false) := by
  refine returnsInHanded_of_change own started noInit hfn witness ?_
  intro W base args ds gs before hval hW _ _
  have hW' := hW
  obtain ⟨p, q, hA, hV, rfl, hfz, hnd⟩ := hW
  have hV' := hV
  rw [hvars] at hV'
  obtain ⟨rfl, rfl⟩ := trodVars_none hV'
  refine (walk W base args ds p hval hA).mono fun e W' ⟨he, bel⟩ => ?_
  subst he
  have e1 := hspec ds (by have := trodAll_length _ hA; simpa using this)
  refine ⟨_, rfl, ds, [], _, [], p, [], hW', ?_, ?_, ?_, bel.frame _, fun h => by cases h⟩
  · rw [e1, hres]
    exact trodAll_mk1 (shut_bool hbool _)
  · rw [e1]
    exact trodAll_below laid bel _ hrd hA
  · rw [e1, hvars]
    rfl

set_option maxRecDepth 40000 in
/-- An array of two integers that came in. -/
theorem open_two {H : Type} {enc : TypeId × Value → H} {P : Program} {W : World} {base b0 : Nat} {spare : Nat → Bool} {held : Bool} {r : Reach} {t e : TypeId} {k : IntKind} {v : Value} {d : DataW H} {p : List MemPlace}
    (ht : P.underlying t = some (.array 2 e)) (he : P.underlying e = some (.int k)) (hc : P.cellsOf t = 2) (hce : P.cellsOf e = 1) (hv : Value.okWide P W r b0 t v) (h : DataW.Trod enc P W base spare held t v d p) :
    ∃ a b, v = .agg #[.int k a, .int k b] ∧ (Lit.int k a).wf = true ∧ (Lit.int k b).wf = true := by
  simp only [Value.okWide, ht] at hv
  obtain ⟨cs, rfl, h2, _⟩ := hv
  obtain ⟨fuel, hf⟩ := h
  obtain ⟨xs, m, _, _, _, hxl, hx⟩ := DataW.trod_array ht hf
  rw [hc] at h2
  obtain ⟨c0, c1, rfl⟩ : ∃ c0 c1, cs = #[c0, c1] := by
    rcases cs with ⟨l⟩
    match l, h2 with
    | [a, b], _ => exact ⟨a, b, rfl⟩
  obtain ⟨x0, x1, rfl⟩ : ∃ x0 x1, xs = [x0, x1] := by
    match xs, hxl with
    | [a, b], _ => exact ⟨a, b, rfl⟩
  have g0 := hx 0 (by omega)
  have g1 := hx 1 (by omega)
  simp [hce, Value.cells] at g0 g1
  obtain ⟨a, ha, _, wa⟩ := DataW.trod_int he g0
  obtain ⟨b, hb, _, wb⟩ := DataW.trod_int he g1
  simp at ha hb
  exact ⟨a, b, by rw [ha, hb], wa, wb⟩

set_option maxRecDepth 40000 in
/-- An array of two texts that came in. -/
theorem open_two_strings {H : Type} {enc : TypeId × Value → H} {P : Program} {W : World} {base b0 : Nat} {spare : Nat → Bool} {held : Bool} {r : Reach} {t e : TypeId} {v : Value} {d : DataW H} {p : List MemPlace}
    (ht : P.underlying t = some (.array 2 e)) (he : P.underlying e = some .string) (hc : P.cellsOf t = 2) (hce : P.cellsOf e = 1) (hv : Value.okWide P W r b0 t v) (h : DataW.Trod enc P W base spare held t v d p) :
    ∃ a b : ByteArray, v = .agg #[.string a, .string b] ∧ a.size ≤ maxLen ∧ b.size ≤ maxLen := by
  simp only [Value.okWide, ht] at hv
  obtain ⟨cs, rfl, h2, _⟩ := hv
  obtain ⟨fuel, hf⟩ := h
  obtain ⟨xs, m, _, _, _, hxl, hx⟩ := DataW.trod_array ht hf
  rw [hc] at h2
  obtain ⟨c0, c1, rfl⟩ : ∃ c0 c1, cs = #[c0, c1] := by
    rcases cs with ⟨l⟩
    match l, h2 with
    | [a, b], _ => exact ⟨a, b, rfl⟩
  obtain ⟨x0, x1, rfl⟩ : ∃ x0 x1, xs = [x0, x1] := by
    match xs, hxl with
    | [a, b], _ => exact ⟨a, b, rfl⟩
  have g0 := hx 0 (by omega)
  have g1 := hx 1 (by omega)
  simp [hce, Value.cells] at g0 g1
  obtain ⟨a, ha, _, wa⟩ := DataW.trod_string he g0
  obtain ⟨b, hb, _, wb⟩ := DataW.trod_string he g1
  simp at ha hb
  exact ⟨a, b, by rw [ha, hb], wa, wb⟩

end Fr
end Go.Proofs.YtmojegnflcokjaaDoor

/-
  A struct of fields of one cell each that came in by value (over any program): its cells, and what each reads as.
-/
namespace Go.Proofs.YtmojegnflcokjaaDoor
open Go.ChangeShapes Go.WideShapes Go.ChangeAt Go.RowKit Go.Deep
namespace Fr

set_option maxRecDepth 40000 in
theorem open_fields {H : Type} {enc : TypeId × Value → H} {P : Program} {W : World} {base b0 : Nat} {spare : Nat → Bool} {held : Bool} {r : Reach} {t : TypeId} {fs : Array Field} {v : Value} {d : DataW H} {p : List MemPlace}
    (hs : P.underlying t = some (.struct fs)) (hone : oneCellFields P fs = true) (hC : P.cellsOf t = fs.size) (hv : Value.okWide P W r b0 t v) (h : DataW.Trod enc P W base spare held t v d p) :
    ∃ (l : List Value) (n : Nat), v = .agg l.toArray ∧ l.length = fs.size ∧ ∀ (j : Nat) (f : Field), fs[j]? = some f → ∃ c y, l[j]? = some c ∧ DataW.trod enc P W base spare held n f.type [c] = some y := by
  simp only [Value.okWide, hs] at hv
  obtain ⟨cs, rfl, h2, _⟩ := hv
  obtain ⟨l⟩ := cs
  obtain ⟨fuel, hf⟩ := h
  obtain ⟨xs, n, _, _, _, hlen, hg⟩ := DataW.trod_struct hs hf
  have hl : l.length = fs.size := by have := h2.trans hC; simpa using this
  refine ⟨l, n, rfl, hl, fun j f hj => ?_⟩
  have hjl : j < fs.size := (Array.getElem?_eq_some_iff.1 hj).1
  obtain ⟨ho, hk⟩ := hone_of hone j f hj
  have h1 := hg j f hj
  rw [ho, hk] at h1
  have e : (l.drop j).take 1 = [l[j]'(by omega)] := by
    rw [List.drop_eq_getElem_cons (by omega)]
    rfl
  have h1' : DataW.trod enc P W base spare held n f.type ((l.drop j).take 1) = xs[j]? := by simpa [Value.cells] using h1
  rw [e] at h1'
  exact ⟨l[j]'(by omega), xs[j]'(by omega), List.getElem?_eq_getElem (by omega), h1'.trans (List.getElem?_eq_getElem (by omega))⟩

/-- Seven cells. -/
theorem seven {l : List Value} (h : l.length = 7) : ∃ a b c d e f g, l = [a, b, c, d, e, f, g] := by
  match l, h with
  | [a, b, c, d, e, f, g], _ => exact ⟨a, b, c, d, e, f, g, rfl⟩

end Fr
end Go.Proofs.YtmojegnflcokjaaDoor

/-
  A slice of structs of one-cell fields that came in (over any program): each element's cells, and what each reads as.
-/
namespace Go.Proofs.YtmojegnflcokjaaDoor
open Go.ChangeShapes Go.WideShapes Go.ChangeAt Go.RowKit Go.Deep
namespace Fr

set_option maxRecDepth 40000 in
/-- Each element of a slice of structs: its cells, field by field. -/
theorem open_rows {H : Type} {enc : TypeId × Value → H} {P : Program} {W : World} {base : Nat} {spare : Nat → Bool} {held : Bool} {t e : TypeId} {fs : Array Field} {fuel : Nat} {cs : List Value} {x : DataW H × List MemPlace}
    (ht : P.underlying t = some (.slice e)) (he : P.underlying e = some (.struct fs)) (hone : oneCellFields P fs = true) (hC : P.cellsOf e = fs.size) (h : DataW.trod enc P W base spare held fuel t cs = some x) :
    cs = [.slice none 0 0] ∨ ∃ (a : Addr) (len cap n : Nat), cs = [.slice (some a) len cap] ∧ len ≤ cap ∧ cap ≤ maxLen ∧
      ∀ i, i < len → ∀ (j : Nat) (f : Field), fs[j]? = some f → ∃ c y, W.cell? (a.add (i * fs.size + j)) = some c ∧ DataW.trod enc P W base spare held n f.type [c] = some y := by
  rcases open_slice ht h with ⟨h0, _⟩ | ⟨a, len, cap, m, n, D, Pl, rfl, hb, hl, hm, hmm, _, hx⟩
  · exact .inl h0
  right
  have hlm : len ≤ m := by rw [hmm]; split <;> omega
  refine ⟨a, len, cap, n - 1, rfl, hl, hm, fun i hi j f hj => ?_⟩
  obtain ⟨cs', h1, h2⟩ := hx i (by omega)
  rw [hC] at h1
  obtain ⟨_, hlen, hcell⟩ := World.cells?_some h1
  obtain ⟨xs, k, hk, _, _, hxl, hg⟩ := DataW.trod_struct he h2
  have hjl : j < fs.size := (Array.getElem?_eq_some_iff.1 hj).1
  obtain ⟨ho, hk1⟩ := hone_of hone j f hj
  have g := hg j f hj
  rw [ho, hk1] at g
  have e1 : (cs'.drop j).take 1 = [cs'[j]'(by omega)] := by
    rw [List.drop_eq_getElem_cons (by omega)]
    rfl
  rw [e1] at g
  have e2 := hcell j hjl
  rw [add_add] at e2
  refine ⟨cs'[j]'(by omega), xs[j]'(by omega), by rw [e2]; exact List.getElem?_eq_getElem (by omega), ?_⟩
  have : k = n - 1 := by omega
  rw [← this, g]
  exact List.getElem?_eq_getElem (by omega)

/-- No cell lies behind an address of another spot. -/
theorem no_spot {W : World} {b o : Nat} {s : Nat} : W.cell? ⟨b, o, some s⟩ = none := by
  unfold World.cell?
  split <;> rfl

end Fr
end Go.Proofs.YtmojegnflcokjaaDoor

/-
  An array of integers that came in by value (over any program): its cells.
-/
namespace Go.Proofs.YtmojegnflcokjaaDoor
open Go.ChangeShapes Go.WideShapes Go.ChangeAt Go.RowKit Go.Deep
namespace Fr

set_option maxRecDepth 40000 in
theorem open_arr {H : Type} {enc : TypeId × Value → H} {P : Program} {W : World} {base b0 : Nat} {spare : Nat → Bool} {held : Bool} {r : Reach} {t e : TypeId} {k : IntKind} {n : Nat} {v : Value} {d : DataW H} {p : List MemPlace}
    (ht : P.underlying t = some (.array n e)) (he : P.underlying e = some (.int k)) (hc : P.cellsOf t = n) (hce : P.cellsOf e = 1) (hv : Value.okWide P W r b0 t v) (h : DataW.Trod enc P W base spare held t v d p) :
    ∃ zs : List Int, v = .agg (zs.map (Value.int k)).toArray ∧ zs.length = n ∧ ∀ z ∈ zs, (Lit.int k z).wf = true := by
  simp only [Value.okWide, ht] at hv
  obtain ⟨cs, rfl, h2, _⟩ := hv
  obtain ⟨l⟩ := cs
  obtain ⟨fuel, hf⟩ := h
  obtain ⟨xs, m, _, _, _, hxl, hx⟩ := DataW.trod_array ht hf
  have hl : l.length = n := by have := h2.trans hc; simpa using this
  have hall : ∀ (j : Nat) (hj : j < l.length), ∃ z, l[j] = .int k z ∧ (Lit.int k z).wf = true := by
    intro j hj
    have g := hx j (by omega)
    have e1 : (l.drop j).take 1 = [l[j]] := by rw [List.drop_eq_getElem_cons hj]; rfl
    rw [hce, List.getElem?_eq_getElem (by omega)] at g
    have g' : DataW.trod enc P W base spare held m e ((l.drop j).take 1) = some (xs[j]'(by omega)) := by simpa [Value.cells] using g
    rw [e1] at g'
    obtain ⟨a, ha, _, wa⟩ := DataW.trod_int he g'
    exact ⟨a, by simpa using ha, wa⟩
  refine ⟨l.map intOf, ?_, by simpa using hl, ?_⟩
  · congr 2
    apply List.ext_getElem
    · simp
    · intro j h1 h3
      obtain ⟨z, hz, _⟩ := hall j h1
      simp [hz, intOf]
  · intro z hz
    obtain ⟨j, hj, rfl⟩ := List.getElem_of_mem hz
    obtain ⟨y, hy, wy⟩ := hall j (by simpa using hj)
    simpa [hy, intOf] using wy

theorem three {α : Type} {l : List α} (h : l.length = 3) : ∃ a b c, l = [a, b, c] := by
  match l, h with
  | [a, b, c], _ => exact ⟨a, b, c, rfl⟩

theorem four {α : Type} {l : List α} (h : l.length = 4) : ∃ a b c d, l = [a, b, c, d] := by
  match l, h with
  | [a, b, c, d], _ => exact ⟨a, b, c, d, rfl⟩

theorem nat_u32 {z : Int} (h : (Lit.int .u32 z).wf = true) : ∃ n : Nat, z = n ∧ n < 4294967296 := by
  have h' : 0 ≤ z ∧ z ≤ 4294967295 := by simpa [Lit.wf, IntKind.min, IntKind.max, IntKind.signed, IntKind.bits] using h
  exact ⟨z.toNat, by omega, by omega⟩

end Fr
end Go.Proofs.YtmojegnflcokjaaDoor

/-
  A plan that came in by value: its two rows of numbers, and its VLANs in memory.
-/
namespace Go.Proofs.YtmojegnflcokjaaDoor
open Go.ChangeShapes Go.WideShapes Go.ChangeAt Go.RowKit Go.Deep
namespace Mem

set_option maxRecDepth 40000 in
/-- Each cell of an array of integers that came in. -/
theorem chunk_ints {H : Type} {enc : TypeId × Value → H} {P : Program} {W : World} {base : Nat} {spare : Nat → Bool} {held : Bool} {t e : TypeId} {k : IntKind} {n fuel : Nat} {cs : List Value} {x : DataW H × List MemPlace}
    (ht : P.underlying t = some (.array n e)) (he : P.underlying e = some (.int k)) (hce : P.cellsOf e = 1) (h : DataW.trod enc P W base spare held fuel t cs = some x) :
    ∃ z : Nat → Int, ∀ j, j < n → cs[j]? = some (.int k (z j)) := by
  obtain ⟨xs, m, _, _, _, hxl, hx⟩ := DataW.trod_array ht h
  have each : ∀ j, j < n → ∃ z, cs[j]? = some (.int k z) := by
    intro j hj
    have g := hx j hj
    rw [hce, List.getElem?_eq_getElem (by omega), Nat.mul_one] at g
    obtain ⟨a, ha, _, _⟩ := DataW.trod_int he g
    refine ⟨a, ?_⟩
    have := congrArg (fun l : List Value => l[0]?) ha
    simpa [List.getElem?_take, List.getElem?_drop] using this
  exact choose_lt each

set_option maxRecDepth 20000 in
theorem open_vls {H : Type} {enc : TypeId × Value → H} {W : World} {base : Nat} {spare : Nat → Bool} {held : Bool} {fuel : Nat} {v : Value} {x : DataW H × List MemPlace}
    (hf : DataW.trod enc Tryd.prog W base spare held fuel 26 [v] = some x) :
    ∃ (A : Option Addr) (l : List Vl) (cap : Nat), v = .slice A l.length cap ∧ l.length ≤ maxLen ∧ Vls W A l := by
  have hS : Tryd.prog.underlying 80 = some (.struct (Tryd.prog.fieldsOf 80)) := by kernel_rfl
  have h3 : (Tryd.prog.fieldsOf 80).size = 3 := by kernel_rfl
  rcases Fr.open_rows Tryd.underlying26 hS (by kernel_rfl) (by kernel_rfl) hf with hcs | ⟨a, len, cap, n, hcs, hl, hm, hcell⟩
  · injection hcs with hcs _
    exact ⟨none, [], 0, hcs, Nat.zero_le _, fun j x h => by simp at h⟩
  · injection hcs with hcs _
    subst hcs
    rw [h3] at hcell
    have fld : ∀ (j : Nat) (f : Field), (Tryd.prog.fieldsOf 80)[j]? = some f → ∀ i, i < len → ∃ c y, W.cell? (a.add (i * 3 + j)) = some c ∧ DataW.trod enc Tryd.prog W base spare held n f.type [c] = some y := fun j f hj i hi => hcell i hi j f hj
    have each : ∀ i, i < len → ∃ x : Vl, W.cell? (a.add (i * 3 + 0)) = some (.int .i64 x.v) ∧ W.cell? (a.add (i * 3 + 1)) = some (.int .i64 x.t) ∧ W.cell? (a.add (i * 3 + 2)) = some (.int .i64 x.u) := by
      intro i hi
      obtain ⟨c0, y0, e0, t0⟩ := fld 0 ((Tryd.prog.fieldsOf 80)[0]'(by rw [h3]; decide)) (Array.getElem?_eq_getElem _) i hi
      obtain ⟨c1, y1, e1, t1⟩ := fld 1 ((Tryd.prog.fieldsOf 80)[1]'(by rw [h3]; decide)) (Array.getElem?_eq_getElem _) i hi
      obtain ⟨c2, y2, e2, t2⟩ := fld 2 ((Tryd.prog.fieldsOf 80)[2]'(by rw [h3]; decide)) (Array.getElem?_eq_getElem _) i hi
      obtain ⟨x0, g0, _, w0⟩ := DataW.trod_int Tryd.underlying3 t0
      obtain ⟨x1, g1, _, w1⟩ := DataW.trod_int Tryd.underlying3 t1
      obtain ⟨x2, g2, _, w2⟩ := DataW.trod_int Tryd.underlying3 t2
      simp at g0 g1 g2
      subst g0 g1 g2
      exact ⟨⟨x0, x1, x2⟩, e0, e1, e2⟩
    haveI : Inhabited Vl := ⟨⟨0, 0, 0⟩⟩
    obtain ⟨q, hq⟩ := choose_lt each
    have hget : ∀ j x, ((List.range len).map q)[j]? = some x → j < len ∧ x = q j := by
      intro j x hj
      rw [List.getElem?_map] at hj
      cases hr : (List.range len)[j]? with
      | none => rw [hr] at hj; cases hj
      | some k =>
        rw [hr] at hj
        obtain ⟨h1, h2⟩ := List.getElem?_eq_some_iff.1 hr
        rw [List.getElem_range] at h2
        rw [List.length_range] at h1
        subst h2
        exact ⟨h1, (Option.some.inj hj).symm⟩
    refine ⟨some a, (List.range len).map q, cap, by simp, by simp; omega, fun j x hj => ?_⟩
    obtain ⟨hj1, rfl⟩ := hget j x hj
    obtain ⟨c0, c1, c2⟩ := hq j hj1
    obtain ⟨b, o, sp⟩ := a
    cases sp with
    | none =>
      rw [Addr.add_lit] at c0 c1 c2
      exact ⟨b, o, rfl, World.block_lt_of_cell? _ _ c0, c0, c1, c2⟩
    | some s =>
      exfalso
      obtain ⟨c00, _⟩ := hq 0 (by omega)
      rw [show Addr.add ⟨b, o, some s⟩ (0 * 3 + 0) = ⟨b, o, some s⟩ from rfl, Fr.no_spot] at c00
      cases c00

set_option maxRecDepth 20000 in
theorem open_plan {H : Type} {enc : TypeId × Value → H} {W : World} {base b0 : Nat} {spare : Nat → Bool} {held : Bool} {r : Reach} {v : Value} {d : DataW H} {p : List MemPlace}
    (hv : Value.okWide Tryd.prog W r b0 28 v) (h : DataW.Trod enc Tryd.prog W base spare held 28 v d p) :
    ∃ (o k : Nat → Int) (A : Option Addr) (l : List Vl) (c : Nat), v = pv o k A l.length c ∧ l.length ≤ maxLen ∧ Vls W A l := by
  have c8 : Tryd.prog.cellsOf 25 = 8 := by kernel_rfl
  have c1 : Tryd.prog.cellsOf 26 = 1 := by kernel_rfl
  have c17 : Tryd.prog.cellsOf 28 = 17 := by kernel_rfl
  have hS := Tryd.underlying28
  simp only [Value.okWide, hS] at hv
  obtain ⟨cs, rfl, h2, _⟩ := hv
  obtain ⟨l⟩ := cs
  obtain ⟨fuel, hf⟩ := h
  obtain ⟨xs, n, _, _, _, hlen, hg⟩ := DataW.trod_struct hS hf
  have hl : l.length = 17 := by have := h2.trans c17; simpa using this
  have hlen3 : xs.length = 3 := hlen
  match l, hl with
  | [a0, a1, a2, a3, a4, a5, a6, a7, a8, a9, a10, a11, a12, a13, a14, a15, a16], _ =>
    have g0 : DataW.trod enc Tryd.prog W base spare held n 25 [a0, a1, a2, a3, a4, a5, a6, a7] = xs[0]? := by have := hg 0 _ rfl; simpa [Value.cells, c8] using this
    have g1 : DataW.trod enc Tryd.prog W base spare held n 25 [a8, a9, a10, a11, a12, a13, a14, a15] = xs[1]? := by have := hg 1 _ rfl; simpa [Value.cells, c8] using this
    have g2 : DataW.trod enc Tryd.prog W base spare held n 26 [a16] = xs[2]? := by have := hg 2 _ rfl; simpa [Value.cells, c1] using this
    rw [List.getElem?_eq_getElem (by omega)] at g0 g1 g2
    obtain ⟨o, ho⟩ := chunk_ints Tryd.underlying25 Tryd.underlying3 (by kernel_rfl) g0
    obtain ⟨k, hk⟩ := chunk_ints Tryd.underlying25 Tryd.underlying3 (by kernel_rfl) g1
    obtain ⟨A, m, c, rfl, hm, hA⟩ := open_vls g2
    refine ⟨o, k, A, m, c, ?_, hm, hA⟩
    have o0 := ho 0 (by decide); have o1 := ho 1 (by decide); have o2 := ho 2 (by decide); have o3 := ho 3 (by decide)
    have o4 := ho 4 (by decide); have o5 := ho 5 (by decide); have o6 := ho 6 (by decide); have o7 := ho 7 (by decide)
    have k0 := hk 0 (by decide); have k1 := hk 1 (by decide); have k2 := hk 2 (by decide); have k3 := hk 3 (by decide)
    have k4 := hk 4 (by decide); have k5 := hk 5 (by decide); have k6 := hk 6 (by decide); have k7 := hk 7 (by decide)
    simp at o0 o1 o2 o3 o4 o5 o6 o7 k0 k1 k2 k3 k4 k5 k6 k7
    subst o0 o1 o2 o3 o4 o5 o6 o7 k0 k1 k2 k3 k4 k5 k6 k7
    rfl

end Mem
end Go.Proofs.YtmojegnflcokjaaDoor

/-
  A frame that came in by value: its fields.
-/
namespace Go.Proofs.YtmojegnflcokjaaDoor
open Go.ChangeShapes Go.WideShapes Go.ChangeAt Go.RowKit Go.Deep
namespace Eth

theorem wf_u64 {n : Int} (h : (Lit.int .u64 n).wf = true) : ∃ m : Nat, n = m ∧ m < 18446744073709551616 := by
  have h' : 0 ≤ n ∧ n ≤ 18446744073709551615 := by simpa [Lit.wf, IntKind.min, IntKind.max, IntKind.signed, IntKind.bits] using h
  exact ⟨n.toNat, by omega, by omega⟩

set_option maxRecDepth 20000 in
theorem open_frame {H : Type} {enc : TypeId × Value → H} {W : World} {base b0 : Nat} {spare : Nat → Bool} {held : Bool} {r : Reach} {v : Value} {d : DataW H} {p : List MemPlace}
    (hv : Value.okWide Tryd.prog W r b0 32 v) (h : DataW.Trod enc Tryd.prog W base spare held 32 v d p) :
    ∃ (x y : Nat) (g : Bool) (q u k : Int) (b : ByteArray), v = fr x y g q u k b ∧ x < 18446744073709551616 ∧ y < 18446744073709551616 ∧ b.size ≤ maxLen := by
  obtain ⟨l, n, rfl, hl, hf⟩ := Fr.open_fields Tryd.underlying32 (by kernel_rfl) (by kernel_rfl) hv h
  obtain ⟨c0, c1, c2, c3, c4, c5, c6, rfl⟩ := Fr.seven hl
  obtain ⟨_, y0, e0, t0⟩ := hf 0 _ rfl
  obtain ⟨_, y1, e1, t1⟩ := hf 1 _ rfl
  obtain ⟨_, y2, e2, t2⟩ := hf 2 _ rfl
  obtain ⟨_, y3, e3, t3⟩ := hf 3 _ rfl
  obtain ⟨_, y4, e4, t4⟩ := hf 4 _ rfl
  obtain ⟨_, y5, e5, t5⟩ := hf 5 _ rfl
  obtain ⟨_, y6, e6, t6⟩ := hf 6 _ rfl
  simp at e0 e1 e2 e3 e4 e5 e6
  subst e0 e1 e2 e3 e4 e5 e6
  obtain ⟨a0, h0, _, w0⟩ := DataW.trod_int Tryd.underlying30 t0
  obtain ⟨a1, h1, _, w1⟩ := DataW.trod_int Tryd.underlying30 t1
  obtain ⟨a2, h2, _⟩ := DataW.trod_bool Tryd.underlying4 t2
  obtain ⟨a3, h3, _, w3⟩ := DataW.trod_int Tryd.underlying3 t3
  obtain ⟨a4, h4, _, w4⟩ := DataW.trod_int Tryd.underlying3 t4
  obtain ⟨a5, h5, _, w5⟩ := DataW.trod_int Tryd.underlying3 t5
  obtain ⟨a6, h6, _, w6⟩ := DataW.trod_string Tryd.underlying9 t6
  simp at h0 h1 h2 h3 h4 h5 h6
  subst h0 h1 h2 h3 h4 h5 h6
  obtain ⟨m0, rfl, g0⟩ := wf_u64 w0
  obtain ⟨m1, rfl, g1⟩ := wf_u64 w1
  exact ⟨m0, m1, a2, a3, a4, a5, a6, rfl, g0, g1, w6⟩

end Eth
end Go.Proofs.YtmojegnflcokjaaDoor

/-
  A plan and a frame in one value, and in memory: the parts loaded at once, and stored; how such a value comes in as an argument.
-/
namespace Go.Proofs.YtmojegnflcokjaaDoor
open Go.RowKit
namespace Fwd
open Oct Eth

/-- A plan and a frame: cells, value, object. -/
abbrev xc (o k : Nat → Int) (AP : Option Addr) (n c : Nat) (d s : Int) (g : Bool) (p v t : Int) (X : ByteArray) : List Value := [.int .i64 (o 0), .int .i64 (o 1), .int .i64 (o 2), .int .i64 (o 3), .int .i64 (o 4), .int .i64 (o 5), .int .i64 (o 6), .int .i64 (o 7), .int .i64 (k 0), .int .i64 (k 1), .int .i64 (k 2), .int .i64 (k 3), .int .i64 (k 4), .int .i64 (k 5), .int .i64 (k 6), .int .i64 (k 7), .slice AP n c, .int .u64 d, .int .u64 s, .bool g, .int .i64 p, .int .i64 v, .int .i64 t, .string X]
abbrev xv (o k : Nat → Int) (AP : Option Addr) (n c : Nat) (d s : Int) (g : Bool) (p v t : Int) (X : ByteArray) : Value := .agg #[.int .i64 (o 0), .int .i64 (o 1), .int .i64 (o 2), .int .i64 (o 3), .int .i64 (o 4), .int .i64 (o 5), .int .i64 (o 6), .int .i64 (o 7), .int .i64 (k 0), .int .i64 (k 1), .int .i64 (k 2), .int .i64 (k 3), .int .i64 (k 4), .int .i64 (k 5), .int .i64 (k 6), .int .i64 (k 7), .slice AP n c, .int .u64 d, .int .u64 s, .bool g, .int .i64 p, .int .i64 v, .int .i64 t, .string X]
abbrev xo (o k : Nat → Int) (AP : Option Addr) (n c : Nat) (d s : Int) (g : Bool) (p v t : Int) (X : ByteArray) : Obj := .cells #[.int .i64 (o 0), .int .i64 (o 1), .int .i64 (o 2), .int .i64 (o 3), .int .i64 (o 4), .int .i64 (o 5), .int .i64 (o 6), .int .i64 (o 7), .int .i64 (k 0), .int .i64 (k 1), .int .i64 (k 2), .int .i64 (k 3), .int .i64 (k 4), .int .i64 (k 5), .int .i64 (k 6), .int .i64 (k 7), .slice AP n c, .int .u64 d, .int .u64 s, .bool g, .int .i64 p, .int .i64 v, .int .i64 t, .string X] 34

theorem xc_parts (o k : Nat → Int) (AP : Option Addr) (n c : Nat) (d s : Int) (g : Bool) (p v t : Int) (X : ByteArray) : xc o k AP n c d s g p v t X = Mem.pc o k AP n c ++ Mem.fc d s g p v t X := rfl

theorem case_plan {W : World} {m : Nat} {o k : Nat → Int} {AP : Option Addr} {n c : Nat} {d s : Int} {g : Bool} {p v t : Int} {X : ByteArray} (h : Bx.Blk W m (xc o k AP n c d s g p v t X)) : W.rangeAt m 0 (Mem.pc o k AP n c) := fun j u hu => by
  have hj : j < (Mem.pc o k AP n c).length := (List.getElem?_eq_some_iff.1 hu).1
  rw [Nat.zero_add]
  exact h j u (by rw [xc_parts, List.getElem?_append_left hj]; exact hu)

theorem case_frame {W : World} {m : Nat} {o k : Nat → Int} {AP : Option Addr} {n c : Nat} {d s : Int} {g : Bool} {p v t : Int} {X : ByteArray} (h : Bx.Blk W m (xc o k AP n c d s g p v t X)) : W.rangeAt m 17 (Mem.fc d s g p v t X) := fun j u hu => by
  have e : (xc o k AP n c d s g p v t X)[17 + j]? = some u := by
    rw [xc_parts, List.getElem?_append_right (by show 17 ≤ 17 + j; omega)]
    show (Mem.fc d s g p v t X)[17 + j - 17]? = some u
    rw [Nat.add_sub_cancel_left]
    exact hu
  exact h (17 + j) u e

theorem info_fm : (Tryd.prog.info? 32).map (·.size) = some 7 := by kernel_rfl
theorem under_fm : Tryd.prog.underlying 32 = some (.struct (Tryd.prog.fieldsOf 32)) := by kernel_rfl
theorem fc_one (d s : Int) (g : Bool) (p v t : Int) (X : ByteArray) : ∀ u ∈ Mem.fc d s g p v t X, u.oneCell' = true := by simp [Value.oneCell']

section
variable {ops : Array Oper} {S : World → Prop} {op : Oper} {a : Act}

theorem yields_plan (hw : Region.wanted op (yielded ops a.tmps) = true) (x : Operand) (ho : op.op = .load 28 x) (m : Nat) (hx : a.eval x = .pointer (some ⟨m, 0, none⟩)) (o k : Nat → Int) (AP : Option Addr) (n c : Nat) (d s : Int) (g : Bool) (p v t : Int) (X : ByteArray) (hS : ∀ w, S w → Bx.Blk w m (xc o k AP n c d s g p v t X)) : YieldsIf Tryd.prog ops S op (Mem.pv o k AP n c) a :=
  yieldsIf_load_mid hw _ x ho m 0 hx (Mem.pc o k AP n c) _ (fun w h => case_plan (hS w h)) Mem.under_pl rfl Mem.info_pl

theorem yields_frame (hw : Region.wanted op (yielded ops a.tmps) = true) (x : Operand) (ho : op.op = .load 32 x) (m : Nat) (hx : a.eval x = .pointer (some ⟨m, 17, none⟩)) (o k : Nat → Int) (AP : Option Addr) (n c : Nat) (d s : Int) (g : Bool) (p v t : Int) (X : ByteArray) (hS : ∀ w, S w → Bx.Blk w m (xc o k AP n c d s g p v t X)) : YieldsIf Tryd.prog ops S op (fr d s g p v t X) a :=
  yieldsIf_load_mid hw _ x ho m 17 hx (Mem.fc d s g p v t X) _ (fun w h => case_frame (hS w h)) under_fm rfl info_fm

theorem wp_store_plan {W : World} {K : Act → World → Prop} {Q : Exit → Act → World → Prop} (x y : Operand) (ho : op.op = .store 28 x y) (m : Nat) (zs : List Value) (hz : zs.length = 17) (o k : Nat → Int) (AP : Option Addr) (n c : Nat) (hx : a.eval x = .pointer (some ⟨m, 0, none⟩)) (hy : a.eval y = Mem.pv o k AP n c) (hO : Bx.Own W m zs)
    (h : K (a.put op.dst undef) (W.setCells m 0 (Mem.pc o k AP n c))) : op.wp Tryd.prog a W K Q :=
  wp_store_mid _ x y ho m 0 (Mem.pc o k AP n c).toArray hx hy (by have := hO.2; rw [hz] at this; exact this) Mem.info_pl (all_oneCell_toArray (Mem.pc_one o k AP n c)) h

theorem wp_store_frame {W : World} {K : Act → World → Prop} {Q : Exit → Act → World → Prop} (x y : Operand) (ho : op.op = .store 32 x y) (m : Nat) (zs : List Value) (hz : zs.length = 7) (d s : Int) (g : Bool) (p v t : Int) (X : ByteArray) (hx : a.eval x = .pointer (some ⟨m, 0, none⟩)) (hy : a.eval y = fr d s g p v t X) (hO : Bx.Own W m zs)
    (h : K (a.put op.dst undef) (W.setCells m 0 (Mem.fc d s g p v t X))) : op.wp Tryd.prog a W K Q :=
  wp_store_mid _ x y ho m 0 (Mem.fc d s g p v t X).toArray hx hy (by have := hO.2; rw [hz] at this; exact this) info_fm (all_oneCell_toArray (fc_one d s g p v t X)) h

theorem ready_frame {W : World} {md : Region.Mode} {Q : Exit → Act → World → Prop} {fuel : Nat} {listed : Array Bool} {i : Nat} {oi : Oper} {x y : Operand} (hi : ops[i]? = some oi) (hw : Region.wanted oi (yielded ops a.tmps) = true) (ho : oi.op = .store 32 x y) (m : Nat) (zs : List Value) (hz : zs.length = 7) (d s : Int) (g : Bool) (p v t : Int) (X : ByteArray)
    (hx : a.eval x = .pointer (some ⟨m, 0, none⟩)) (hy : a.eval y = fr d s g p v t X) (hO : Bx.Own W m zs) (hS : S (W.setCells m 0 (Mem.fc d s g p v t X)))
    (h : wpAnyH Tryd.prog md ops Q S fuel (listed.setIfInBounds i true) (a.put oi.dst undef) (W.setCells m 0 (Mem.fc d s g p v t X))) : AllReadyH Tryd.prog md ops Q S fuel listed a W [i] :=
  AllReadyH.cons hi (fun K' hK => by
    rw [if_pos hw]
    exact wp_store_frame x y ho m zs hz d s g p v t X hx hy hO (hK.out _ _ hS (fun _ => h))) AllReadyH.nil
end

theorem frozen_cells (m : Nat) (a : Addr) : ∀ (l : List Value) (i : Nat) (W : World), (W.setCells m i l).frozen? a = W.frozen? a
  | [], _, _ => rfl
  | x :: l, i, W => by
    rw [World.setCells, frozen_cells m a l (i + 1)]
    simp

theorem frozen_at (W : World) (cs : Array Value) (t : TypeId) {m : Nat} (h : m = W.heap.size) (j : Nat) : (W.alloc (.cells cs t)).frozen? ⟨m, j, none⟩ = false := by
  subst h
  exact World.frozen?_alloc_new W cs t j

theorem frozen_old (W : World) (o : Obj) {m : Nat} (h : m < W.heap.size) (j : Nat) : (W.alloc o).frozen? ⟨m, j, none⟩ = W.frozen? ⟨m, j, none⟩ :=
  (Bx.box_below W o).frozen (p := ⟨m, j, none⟩) h

theorem Own.fre {W : World} {m : Nat} {l : List Value} (h : Bx.Own W m l) (hl : m < W.heap.size) (hf : ∀ j, W.frozen? ⟨m, j, none⟩ = false) : Bx.Fre W m l := ⟨h.1, hl, hf⟩

end Fwd
end Go.Proofs.YtmojegnflcokjaaDoor

/-
  table.kept: the entries that a method value keeps, in a row of the call's own; Flush and Forget.
-/
namespace Go.Proofs.YtmojegnflcokjaaDoor
open Go.RowKit
namespace Tab
open Oct

theorem own_form {w : World} {base : Nat} {e : TypeId} {v : Value} {l : List En} (h : w.ownsRow base e 4 v l.length (l.flatMap enc)) : ∃ B c, v = .slice B l.length c ∧ w.ownsRow base e 4 (.slice B l.length c) l.length (l.flatMap enc) := by
  obtain ⟨B, c, rfl, _⟩ := Ents.of_own h
  exact ⟨B, c, rfl, h⟩

theorem own_next {w : World} {base : Nat} {e : TypeId} {v : Value} {l : List En} {x : En} (h : w.ownsRow base e 4 v (l.length + 1) (l.flatMap enc ++ enc x)) : ∃ B c, v = .slice B (l ++ [x]).length c ∧ w.ownsRow base e 4 (.slice B (l ++ [x]).length c) (l ++ [x]).length ((l ++ [x]).flatMap enc) := by
  refine own_form (l := l ++ [x]) ?_
  simpa using h

theorem own_mono {w : World} {base b' : Nat} {e : TypeId} {v : Value} {n : Nat} {xs : List Value} (h : w.ownsRow base e 4 v n xs) (hb : b' ≤ base) : w.ownsRow b' e 4 v n xs := by
  refine ⟨h.1, ?_⟩
  rcases h.2 with hn | ⟨g, cap, cur, h1, h2, h3⟩
  · exact .inl hn
  · exact .inr ⟨g, cap, cur, h1, Nat.le_trans hb h2, h3⟩

theorem own_below {w w' : World} {base : Nat} {e : TypeId} {v : Value} {n : Nat} {xs : List Value} (h : w.ownsRow base e 4 v n xs) (hb : Below w.heap.size w w') : w'.ownsRow base e 4 v n xs := by
  refine ⟨h.1, ?_⟩
  rcases h.2 with hn | ⟨g, cap, cur, h1, h2, h3, h4⟩
  · exact .inl hn
  · refine .inr ⟨g, cap, cur, h1, h2, ?_, h4⟩
    rw [hb.block g (Array.getElem?_eq_some_iff.1 h3).1]
    exact h3

/-- A store into a block of before. -/
theorem own_set {w : World} {base b o : Nat} {e : TypeId} {v x : Value} {n : Nat} {xs : List Value} (h : w.ownsRow base e 4 v n xs) (hb : b < base) : (w.setCell ⟨b, o, none⟩ x).ownsRow base e 4 v n xs := by
  refine ⟨h.1, ?_⟩
  rcases h.2 with hn | ⟨g, cap, cur, h1, h2, h3, h4⟩
  · exact .inl hn
  · refine .inr ⟨g, cap, cur, h1, h2, ?_, h4⟩
    rw [← h3]
    exact Below.heap_setCell w ⟨b, o, none⟩ x g (by show g ≠ b; omega)

theorem four_new (w : World) (e : En) (t : TypeId) (n : Nat) (h : n = w.heap.size := by rfl) : ∀ j u, (enc e)[j]? = some u → (w.alloc (.cells (enc e).toArray t)).cell? (Addr.add ⟨n, 0, none⟩ j) = some u := fun j u hu => by
  subst h
  rw [Addr.add_lit]
  simpa using (Bx.Blk.new w (enc e) t) j u hu

/-- A table handed back, its entries in a row of the call's own, and a number beside it. -/
def KeptG (most long : Int) (l : List En) (n : Int) (w : World) (e : Ending) (w' : World) : Prop :=
  ∃ B c, e = .returned (.tuple #[tv most long B l.length c, .int .i64 n]) ∧ w'.ownsRow w.heap.size 62 4 (.slice B l.length c) l.length (l.flatMap enc) ∧ Below w.heap.size w w'

theorem filter_take (l : List En) (keep : En → Bool) (k : Nat) (h : k < l.length) : (l.take (k + 1)).filter keep = (l.take k).filter keep ++ if keep l[k] then [l[k]] else [] := by
  rw [List.take_succ_eq_append_getElem h, List.filter_append]
  congr 1
  rw [List.filter_cons]
  split <;> rfl

set_option maxRecDepth 20000 in
set_option maxHeartbeats 4000000 in
theorem kept_any (most long : Int) (l : List En) (hl : l.length ≤ 100000) (A : Option Addr) (c g : Nat) (r : Value) (keep : En → Bool)
    (hg : ∀ e ∈ l, ∀ w, Calls Tryd.prog g #[r, ev e] w fun x w' => x = .returned (.bool (keep e)) ∧ Below w.heap.size w w')
    (eg : ∀ args w, (callFunc g args).run Tryd.prog w = .ok (.enter g args) w) (w : World) (hA : Ents w A l) :
    Calls Tryd.prog 74 #[tv most long A l.length c, .func (.func g) #[r] #[]] w (KeptG most long (l.filter keep) ((l.length : Int) - (l.filter keep).length) w) := by
  obtain ⟨i0, hi, hz0, hz1, hz2⟩ := info_parts info_en
  have bel := Lib.hid (Bx.bel_box (Bx.box_below w (to most long A l.length c)) (to 0 0 none 0 0))
  have A1 := Lib.hid (hA.below bel.out)
  have K := Lib.hid ((Fre.new w [.int .i64 most, .int .i64 long, .slice A l.length c] 24).keep (Bx.box_below _ (to 0 0 none 0 0)))
  have R : Hid (Fre ((w.alloc (to most long A l.length c)).alloc (to 0 0 none 0 0)) (w.heap.size + 1) [.int .i64 0, .int .i64 0, .slice none 0 0]) := Lib.hid (by
    have := Fre.new (w.alloc (to most long A l.length c)) [.int .i64 0, .int .i64 0, .slice none 0 0] 24
    rwa [show (w.alloc (to most long A l.length c)).heap.size = w.heap.size + 1 by simp] at this)
  have HG := Lib.hid hg
  clear hA hg
  obtain ⟨⟨k0, k1, k2⟩, _⟩ := K.out.all3
  have hfl := List.length_filter_le keep l
  have HF := Lib.hid (filter_take l keep)
  have HT := Lib.hid (show (l.take l.length).filter keep = l.filter keep by rw [List.take_length])
  have hsz := Lib.hid (show ((w.alloc (to most long A l.length c)).alloc (to 0 0 none 0 0)).heap.size = w.heap.size + 2 by simp)
  go_enter Tryd.func74, Tryd.ntmps74
  go_wp2
  generalize (w.alloc (to most long A l.length c)).alloc (to 0 0 none 0 0) = W0 at *
  go_loopw [6, 8, 13] (fun v _ ix wr => ∃ (k : Nat) (B : Option Addr) (cc : Nat) (o : List En), k ≤ l.length ∧ ix = .int .i64 k ∧ v = .slice B o.length cc ∧ o.length ≤ k ∧ Aside ((l.take k).filter keep = o) ∧
    Aside (wr.ownsRow W0.heap.size 62 4 (.slice B o.length cc) o.length (o.flatMap enc)) ∧ Aside (Below W0.heap.size W0 wr)) (fun _ _ ix _ => l.length - (intOf ix).toNat)
  case atStart => exact ⟨0, none, 0, [], Nat.zero_le _, rfl, rfl, Nat.le_refl _, rfl, World.ownsRow_nil _ _ _ _, Below.refl _ _⟩
  case round =>
    obtain ⟨k, B, cc, o, hk, rfl, rfl, ho, HO, HW, HB⟩ := hrel
    by_cases hlt : k < l.length
    · obtain ⟨b, q, rfl, _, c0, c1, c2, c3⟩ := (A1.out.below HB.out).at hlt
      have HG' := Lib.hid (HG.out l[k] (List.getElem_mem hlt))
      have HN := Lib.hid (HF.out k hlt)
      rw [HO.out] at HN
      cases hx : keep l[k] with
      | true =>
        rw [hx] at HG' HN
        clear hx
        generalize l[k] = x at *
        have BX := Lib.hid (Bx.bel_box HB.out (eo x))
        have HW1 := Lib.hid (HW.out.alloc (eo x))
        have HE := Lib.hid (Bx.Blk.new wr (enc x) 62)
        have HN2 : Hid ((l.take (k + 1)).filter keep = o ++ [x]) := HN
        obtain ⟨x1, x2, x3, x4⟩ := x
        simp only at c0 c1 c2 c3
        go_wp2_with fail
        refine (HG'.out _).mono ?_; rintro e w1 ⟨rfl, hb1⟩
        have B2 := Lib.hid (Bx.then_below BX.out hb1)
        have HW2 := Lib.hid (own_below HW1.out hb1)
        obtain ⟨d0, d1, d2, d3⟩ := (HE.out.keep hb1).all4
        clear hb1 HE HW1 BX c0 c1 c2 c3
        have hw1 := B2.out.size
        go_wp2_with (at_builtin; refine wpList_append_own _ rfl _ _ 22 rfl W0.heap.size 62 i0 (.agg #[.int .i64 0, .int .u64 0, .int .i64 0, .int .i64 0]) 4 32 Tryd.underlying22 hi hz0 hz1 hz2 rfl (by decide) _ _ _ rfl (HW2.out.alloc _) ⟨_, 0, none⟩ 1 1 (enc ⟨x1, x2, x3, x4⟩) rfl rfl ?c1 ?c2 ?c3 ?c4 ?c5 ?_)
        case c1 => exact four_new _ _ _ _
        case c2 => intro u hu; exact enc_one [⟨x1, x2, x3, x4⟩] u (by simpa using hu)
        case c3 => unfold maxLen; omega
        case c4 => omega
        case c5 => simp; omega
        intro v' w5 hown' hgrow _
        have hrow := (HW.out).lt
        have bel5 := (Bx.bel_box B2.out (eo ⟨x1, x2, x3, x4⟩)).grown hgrow (by simp; omega) (fun q hq => (hrow q hq).1)
        obtain ⟨B', c', rfl, hW'⟩ := own_next hown'
        have HW3 := Lib.hid hW'
        have HBL := Lib.hid bel5
        clear hown' hgrow hrow hW' bel5
        go_wp2
        go_roundw
        case rel => exact ⟨k + 1, B', c', o ++ [(⟨x1, x2, x3, x4⟩ : En)], by omega, by go_num, rfl, by simp; omega, HN2.out, HW3.out, HBL.out⟩
        case measure => simp [intOf]; omega
      | false =>
        rw [hx] at HG' HN
        clear hx
        generalize l[k] = x at *
        have BX := Lib.hid (Bx.bel_box HB.out (eo x))
        have HW1 := Lib.hid (HW.out.alloc (eo x))
        have HN2 : Hid ((l.take (k + 1)).filter keep = o) := Lib.hid (by rw [HN.out]; simp)
        obtain ⟨x1, x2, x3, x4⟩ := x
        simp only at c0 c1 c2 c3
        go_wp2_with fail
        refine (HG'.out _).mono ?_; rintro e w1 ⟨rfl, hb1⟩
        have B2 := Lib.hid (Bx.then_below BX.out hb1)
        have HW2 := Lib.hid (own_below HW1.out hb1)
        clear hb1
        go_wp2
        go_roundw
        case rel => exact ⟨k + 1, B, cc, o, by omega, by go_num, rfl, by omega, HN2.out, HW2.out, B2.out⟩
        case measure => simp [intOf]; omega
    · obtain rfl : k = l.length := by omega
      rw [HT.out] at HO
      obtain rfl := HO.out
      obtain ⟨⟨c0, c1, c2⟩, f0, f1, f2⟩ := (K.out.keep HB.out).all3
      have R1 := Lib.hid (R.out.keep HB.out)
      obtain ⟨⟨r0, r1, r2⟩, s0, s1, s2⟩ := R1.out.all3
      clear k0 k1 k2 ho
      generalize l.filter keep = o at *
      have hwr : IntKind.i64.wrap ((l.length : Int) - (o.length : Int)) = (l.length : Int) - (o.length : Int) := by rw [IntKind.wrap_i64]; omega
      have hle : w.heap.size ≤ w.heap.size + 1 := Nat.le_succ _
      have n5 : w.heap.size + 1 ≠ w.heap.size := by omega
      have hb0 : w.heap.size < W0.heap.size := by rw [hsz.out]; omega
      have hb1 : w.heap.size + 1 < W0.heap.size := by rw [hsz.out]; omega
      have HB0 := Lib.hid ((Bx.then_below bel.out HB.out))
      have HB4 := Lib.hid ((((HB0.out.setCell (p := ⟨w.heap.size, 2, none⟩) (Nat.le_refl _) (.slice B o.length cc)).setCell (p := ⟨w.heap.size + 1, 0, none⟩) hle (.int .i64 most)).setCell (p := ⟨w.heap.size + 1, 1, none⟩) hle (.int .i64 long)).setCell (p := ⟨w.heap.size + 1, 2, none⟩) hle (.slice B o.length cc))
      have R5 := Lib.hid (((R1.out.1.other (o := 2) (x := .slice B o.length cc) n5).put3 (x0 := .int .i64 most) (x1 := .int .i64 long) (x2 := .slice B o.length cc)).all3)
      have HW5 := Lib.hid (own_mono (own_set (o := 2) (x := .slice B o.length cc) (own_set (o := 1) (x := .int .i64 long) (own_set (o := 0) (x := .int .i64 most) (own_set (o := 2) (x := .slice B o.length cc) HW.out hb0) hb1) hb1) hb1) (Nat.le_of_lt hb0))
      clear HB0 R1 HW HB K R bel A1 HG HF HT HO hb0 hb1 hsz
      go_wp2_with fail
      refine bodyPost_ret (v := .tuple #[tv most long B o.length cc, .int .i64 ((l.length : Int) - o.length)]) ?_ rfl ?_
      · obtain ⟨d0, d1, d2⟩ := R5.out
        simp [results, Tryd.results74, d0, d1, d2, go_sem]
      · exact ⟨B, cc, rfl, HW5.out, HB4.out⟩

end Tab
end Go.Proofs.YtmojegnflcokjaaDoor

/-
  Flush and Forget: the entries that stay, in a row of the call's own; New.
-/
namespace Go.Proofs.YtmojegnflcokjaaDoor
open Go.RowKit
namespace Tab
open Oct

set_option maxRecDepth 20000 in
set_option maxHeartbeats 4000000 in
theorem flush_any (most long : Int) (l : List En) (hl : l.length ≤ 100000) (A : Option Addr) (c : Nat) (x : Int) (w : World) (hA : Ents w A l) :
    Calls Tryd.prog 53 #[tv most long A l.length c, .int .i64 x] w (KeptG most long (l.filter (flushE (Por.low x))) ((l.length : Int) - (l.filter (flushE (Por.low x))).length) w) := by
  have HK := Lib.hid (fun w hA => kept_any most long l hl A c 81 (.int .i64 x) (flushE (Por.low x)) (fun e _ w => plack_any x e w) (enters_of Tryd.func81 (by kernel_rfl) rfl) w hA)
  generalize l.filter (flushE (Por.low x)) = o at *
  have bel := Lib.hid (Bx.bel_box (Bx.box_below w (to most long A l.length c)) (to 0 0 none 0 0))
  have A1 := Lib.hid (hA.below bel.out)
  have R : Hid (Fre ((w.alloc (to most long A l.length c)).alloc (to 0 0 none 0 0)) (w.heap.size + 1) [.int .i64 0, .int .i64 0, .slice none 0 0]) := Lib.hid (by
    have := Fre.new (w.alloc (to most long A l.length c)) [.int .i64 0, .int .i64 0, .slice none 0 0] 24
    rwa [show (w.alloc (to most long A l.length c)).heap.size = w.heap.size + 1 by simp] at this)
  have hsz := Lib.hid (show ((w.alloc (to most long A l.length c)).alloc (to 0 0 none 0 0)).heap.size = w.heap.size + 2 by simp)
  have hle : w.heap.size ≤ w.heap.size + 1 := Nat.le_succ _
  clear hA
  go_enter Tryd.func53, Tryd.ntmps53
  go_wp2_with fail
  refine (HK.out _ A1.out).mono ?_; rintro e w1 ⟨B, cc, rfl, hown, hb1⟩
  have bel2 := Lib.hid (Bx.then_below bel.out hb1)
  have R1 := Lib.hid (R.out.keep hb1)
  have HW := Lib.hid hown
  obtain ⟨⟨r0, r1, r2⟩, s0, s1, s2⟩ := R1.out.all3
  rw [hsz.out] at HW
  have HB4 := Lib.hid (((bel2.out.setCell (p := ⟨w.heap.size + 1, 0, none⟩) hle (.int .i64 most)).setCell (p := ⟨w.heap.size + 1, 1, none⟩) hle (.int .i64 long)).setCell (p := ⟨w.heap.size + 1, 2, none⟩) hle (.slice B o.length cc))
  have R5 := Lib.hid (((R1.out.1).put3 (x0 := .int .i64 most) (x1 := .int .i64 long) (x2 := .slice B o.length cc)).all3)
  have HW5 := Lib.hid (own_mono (own_set (o := 2) (x := .slice B o.length cc) (own_set (o := 1) (x := .int .i64 long) (own_set (o := 0) (x := .int .i64 most) HW.out (Nat.lt_succ_self _)) (Nat.lt_succ_self _)) (Nat.lt_succ_self _)) (Nat.le_add_right w.heap.size 2))
  clear hown hb1 HK bel A1 R hsz bel2 R1 HW
  go_wp2_with fail
  refine bodyPost_ret (v := .tuple #[tv most long B o.length cc, .int .i64 ((l.length : Int) - o.length)]) ?_ rfl ?_
  · obtain ⟨d0, d1, d2⟩ := R5.out
    simp [results, Tryd.results53, d0, d1, d2, go_sem]
  · exact ⟨B, cc, rfl, HW5.out, HB4.out⟩

set_option maxRecDepth 20000 in
set_option maxHeartbeats 4000000 in
theorem forget_any (most long : Int) (l : List En) (hl : l.length ≤ 100000) (A : Option Addr) (c : Nat) (p v : Int) (w : World) (hA : Ents w A l) :
    Calls Tryd.prog 54 #[tv most long A l.length c, .int .i64 p, .int .i64 v] w (KeptG most long (l.filter (lackE p v)) ((l.length : Int) - (l.filter (lackE p v)).length) w) := by
  have HK := Lib.hid (fun w hA => kept_any most long l hl A c 82 (.agg #[.int .i64 p, .int .i64 v]) (lackE p v) (fun e _ w => lack_any p v e w) (enters_of Tryd.func82 (by kernel_rfl) rfl) w hA)
  generalize l.filter (lackE p v) = o at *
  have bel := Lib.hid (Bx.bel_box (Bx.box_below w (to most long A l.length c)) (to 0 0 none 0 0))
  have A1 := Lib.hid (hA.below bel.out)
  have R : Hid (Fre ((w.alloc (to most long A l.length c)).alloc (to 0 0 none 0 0)) (w.heap.size + 1) [.int .i64 0, .int .i64 0, .slice none 0 0]) := Lib.hid (by
    have := Fre.new (w.alloc (to most long A l.length c)) [.int .i64 0, .int .i64 0, .slice none 0 0] 24
    rwa [show (w.alloc (to most long A l.length c)).heap.size = w.heap.size + 1 by simp] at this)
  have hsz := Lib.hid (show ((w.alloc (to most long A l.length c)).alloc (to 0 0 none 0 0)).heap.size = w.heap.size + 2 by simp)
  have hle : w.heap.size ≤ w.heap.size + 1 := Nat.le_succ _
  clear hA
  go_enter Tryd.func54, Tryd.ntmps54
  go_wp2_with fail
  refine (HK.out _ A1.out).mono ?_; rintro e w1 ⟨B, cc, rfl, hown, hb1⟩
  have bel2 := Lib.hid (Bx.then_below bel.out hb1)
  have R1 := Lib.hid (R.out.keep hb1)
  have HW := Lib.hid hown
  obtain ⟨⟨r0, r1, r2⟩, s0, s1, s2⟩ := R1.out.all3
  rw [hsz.out] at HW
  have HB4 := Lib.hid (((bel2.out.setCell (p := ⟨w.heap.size + 1, 0, none⟩) hle (.int .i64 most)).setCell (p := ⟨w.heap.size + 1, 1, none⟩) hle (.int .i64 long)).setCell (p := ⟨w.heap.size + 1, 2, none⟩) hle (.slice B o.length cc))
  have R5 := Lib.hid (((R1.out.1).put3 (x0 := .int .i64 most) (x1 := .int .i64 long) (x2 := .slice B o.length cc)).all3)
  have HW5 := Lib.hid (own_mono (own_set (o := 2) (x := .slice B o.length cc) (own_set (o := 1) (x := .int .i64 long) (own_set (o := 0) (x := .int .i64 most) HW.out (Nat.lt_succ_self _)) (Nat.lt_succ_self _)) (Nat.lt_succ_self _)) (Nat.le_add_right w.heap.size 2))
  clear hown hb1 HK bel A1 R hsz bel2 R1 HW
  go_wp2_with fail
  refine bodyPost_ret (v := .tuple #[tv most long B o.length cc, .int .i64 ((l.length : Int) - o.length)]) ?_ rfl ?_
  · obtain ⟨d0, d1, d2⟩ := R5.out
    simp [results, Tryd.results54, d0, d1, d2, go_sem]
  · exact ⟨B, cc, rfl, HW5.out, HB4.out⟩

/-- What New answers: an error, and how many entries the table may have, how old they grow. -/
def newE (most long : Int) : Int := if 0 ≤ most ∧ most ≤ 256 ∧ 1 ≤ long ∧ long ≤ 1048576 then 0 else 1
def newM (most long : Int) : Int := if newE most long = 0 then most else 0
def newL (most long : Int) : Int := if newE most long = 0 then long else 0

set_option maxRecDepth 20000 in
set_option maxHeartbeats 4000000 in
theorem new_any (most long : Int) (w : World) :
    Calls Tryd.prog 19 #[.int .i64 most, .int .i64 long] w fun e w' => e = .returned (.tuple #[tv (newM most long) (newL most long) none 0 0, .int .i64 (newE most long)]) ∧ Below w.heap.size w w' := by
  by_cases h : 0 ≤ most ∧ most ≤ 256 ∧ 1 ≤ long ∧ long ≤ 1048576
  · have e0 : newE most long = 0 := if_pos h
    have e1 : newM most long = most := if_pos e0
    have e2 : newL most long = long := if_pos e0
    rw [e0, e1, e2]
    obtain ⟨h1, h2, h3, h4⟩ := h
    clear e0 e1 e2
    have R5 := Lib.hid (Bx.Blk.new w [.int .i64 most, .int .i64 long, .slice none 0 0] 24).all3
    have HB4 := Lib.hid (Bx.box_below w (to most long none 0 0))
    go_enter Tryd.func19, Tryd.ntmps19
    go_wp2_with fail
    refine bodyPost_ret (v := .tuple #[tv most long none 0 0, .int .i64 0]) ?_ rfl ?_
    · obtain ⟨d0, d1, d2⟩ := R5.out
      simp [results, Tryd.results19, d0, d1, d2, go_sem]
    · exact ⟨rfl, HB4.out⟩
  · have e0 : newE most long = 1 := if_neg h
    have e1 : newM most long = 0 := if_neg (by rw [e0]; decide)
    have e2 : newL most long = 0 := if_neg (by rw [e0]; decide)
    rw [e0, e1, e2]
    clear e0 e1 e2
    have R5 := Lib.hid (Bx.Blk.new w [.int .i64 0, .int .i64 0, .slice none 0 0] 24).all3
    have HB4 := Lib.hid (Bx.box_below w (to 0 0 none 0 0))
    rcases (show most < 0 ∨ (¬ most < 0 ∧ 256 < most) ∨ (¬ most < 0 ∧ ¬ 256 < most ∧ long < 1) ∨ (¬ most < 0 ∧ ¬ 256 < most ∧ ¬ long < 1 ∧ 1048576 < long) by omega) with g1 | ⟨g1, g2⟩ | ⟨g1, g2, g3⟩ | ⟨g1, g2, g3, g4⟩
    all_goals
      clear h
      go_enter Tryd.func19, Tryd.ntmps19
      go_wp2_with fail
      refine bodyPost_ret (v := .tuple #[tv 0 0 none 0 0, .int .i64 1]) ?_ rfl ?_
      · obtain ⟨d0, d1, d2⟩ := R5.out
        simp [results, Tryd.results19, d0, d1, d2, go_sem]
      · exact ⟨rfl, HB4.out⟩

end Tab
end Go.Proofs.YtmojegnflcokjaaDoor
