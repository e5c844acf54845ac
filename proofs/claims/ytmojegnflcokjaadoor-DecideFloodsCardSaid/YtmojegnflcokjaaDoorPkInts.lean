/-
  Packed in one text: Ints, PorB, FwdG.
-/
import Derived.WalkKit
import Derived.Below
import Derived.Laws.World
import Derived.Lib.Hide
import Derived.Maps.AppendAt
import Derived.Test.YtmojegnflcokjaaDoorPorA
import Derived.Test.YtmojegnflcokjaaDoorBox
import Derived.Deep.LoopGhost
import Derived.Laws.Runes
import Derived.Test.YtmojegnflcokjaaDoorPkDict
import Derived.Test.YtmojegnflcokjaaDoorMemL
/-
  Slices of integers (over any program): a slice, nil or not, that reads as a list; what a call that makes memory leaves of it; a slice that a call made.
-/
namespace Go.Proofs.YtmojegnflcokjaaDoor
open Go.RowKit
namespace Bx

/-- The slice that begins at A reads as l. -/
def Ints (w : World) (A : Option Addr) (l : List Int) : Prop := ∀ j x, l[j]? = some x → ∃ ad, A = some ad ∧ ad.block < w.heap.size ∧ w.cell? (ad.add j) = some (.int .i64 x)

theorem add_block (a : Addr) (i : Nat) : (a.add i).block = a.block := by unfold Addr.add; split <;> rfl

theorem Ints.below {w w' : World} {A : Option Addr} {l : List Int} (h : Ints w A l) (hb : Below w.heap.size w w') : Ints w' A l := fun j x hj => by
  obtain ⟨ad, e, h1, h2⟩ := h j x hj
  exact ⟨ad, e, Nat.lt_of_lt_of_le h1 hb.size, by rw [hb.cell (p := ad.add j) (by rw [add_block]; exact h1)]; exact h2⟩

theorem Ints.more {w : World} {A : Option Addr} {l : List Int} (h : Ints w A l) (o : Obj) : Ints (w.alloc o) A l := h.below ((Below.refl _ _).alloc (Nat.le_refl _) _)

theorem Ints.drew {w : World} {A : Option Addr} {l : List Int} (h : Ints w A l) : Ints w.drew A l := h

theorem Ints.nil (w : World) (A : Option Addr) : Ints w A [] := fun j x h => by simp at h

theorem Ints.at {w : World} {A : Option Addr} {l : List Int} (h : Ints w A l) {k : Nat} (hk : k < l.length) : ∃ ad, A = some ad ∧ ad.block < w.heap.size ∧ w.cell? (ad.add k) = some (.int .i64 l[k]) := h k l[k] (List.getElem?_eq_getElem hk)

/-- A row of the call's own, as a slice. -/
theorem Ints.of_own {w : World} {base : Nat} {e : TypeId} {v : Value} {l : List Int} (h : w.ownsRow base e 1 v l.length (l.map (Value.int .i64))) :
    ∃ A cap, v = .slice A l.length cap ∧ Ints w A l := by
  rcases h.2 with ⟨rfl, h0⟩ | ⟨g, cap, cur, rfl, hb, hg, _⟩
  · have : l = [] := List.eq_nil_of_length_eq_zero h0
    subst this
    exact ⟨none, 0, rfl, Ints.nil _ _⟩
  · refine ⟨_, _, rfl, fun j x hj => ⟨⟨g, 0, none⟩, rfl, (Array.getElem?_eq_some_iff.1 hg).1, ?_⟩⟩
    exact h.cells (g := g) rfl j _ (by rw [List.getElem?_map, hj]; rfl)

/-- What hands back a new slice that reads as l. -/
def Gives (l : List Int) (w : World) (e : Ending) (w' : World) : Prop := ∃ A cap, e = .returned (.slice A l.length cap) ∧ Ints w' A l ∧ Below w.heap.size w w'

end Bx
end Go.Proofs.YtmojegnflcokjaaDoor

/-
  What ports.port, Text, List and Next answer, and the document beside them, for every set.
-/
namespace Go.Proofs.YtmojegnflcokjaaDoor
open Go.RowKit
namespace Por

theorem digs_at : ∀ k : Fin 8, ((⟨#[48, 49, 50, 51, 52, 53, 54, 55]⟩ : ByteArray)[k.val]'k.isLt).toNat = 48 + k.val := by decide +kernel

theorem next_dig {P : Program} (w : World) (k : Nat) (hk : k < 8) (ty : TypeId) :
    (Instr.next (.pointer (some ⟨w.heap.size, 0, none⟩)) true ty).run P (w.iter ⟨#[48, 49, 50, 51, 52, 53, 54, 55]⟩ k) =
      .ok (.tuple #[.bool true, .int .i64 k, .int .i32 (48 + (k : Int))]) (w.iter ⟨#[48, 49, 50, 51, 52, 53, 54, 55]⟩ (k + 1)) := by
  have h := digs_at ⟨k, hk⟩
  simp only at h
  rw [run_next_ascii w ⟨#[48, 49, 50, 51, 52, 53, 54, 55]⟩ k ty hk (by omega), h]
  rfl

theorem next_done {P : Program} (w : World) (ty : TypeId) :
    (Instr.next (.pointer (some ⟨w.heap.size, 0, none⟩)) true ty).run P (w.iter ⟨#[48, 49, 50, 51, 52, 53, 54, 55]⟩ 8) = .ok (.tuple #[.bool false]) (w.iter ⟨#[48, 49, 50, 51, 52, 53, 54, 55]⟩ 8) :=
  run_next_end w _ 8 ty (by show ¬ 8 < 8; omega)

theorem iter_below (w : World) (s : ByteArray) (k : Nat) : Below w.heap.size w (w.iter s k) := Bx.box_below w _

theorem enc_dig : ∀ k : Fin 8, (Utf8.encode (48 + (k.val : Int))).data = #[dig k.val] := by decide +kernel

theorem enc_at (k : Nat) (h : k < 8) : Utf8.encode (48 + (k : Int)) = ⟨#[dig k]⟩ := ByteArray.ext (enc_dig ⟨k, h⟩)

theorem app_one (l : List UInt8) (b : UInt8) : (⟨l.toArray⟩ : ByteArray) ++ (⟨#[b]⟩ : ByteArray) = ⟨(l ++ [b]).toArray⟩ := by
  apply ByteArray.ext
  simp

theorem has_at (x : Int) (k : Nat) (h : k < 8) (b : Bool) (hb : hasN (low x) k = b) (w : World) :
    Calls Tryd.prog 22 #[.int .i64 x, .int .i64 k] w fun e w' => e = .returned (.bool b) ∧ w = w' := by
  have := has_any x k w
  rw [hasZ_nat _ _ h, hb] at this
  exact this

theorem rhas_at (x : Int) (k : Nat) (h : k < 8) (b : Bool) (hb : hasN (low x) k = b) (w : World) :
    Calls Tryd.prog 42 #[.int .i64 x, .int .i64 k] w fun e w' => e = .returned (.bool b) ∧ w = w' := by
  have := rhas_any x k w
  rw [hasZ_nat _ _ h, hb] at this
  exact this

theorem text_none (m : Nat) (hm : m = 0) : textB m = ⟨#[45]⟩ := by subst hm; rfl

theorem text_some (m : Nat) (hm : m ≠ 0) : textB m = ⟨(digL m 8).toArray⟩ := by unfold textB textL; rw [if_neg hm]

theorem info_int : (Tryd.prog.info? 3).map (fun i => (i.zero, i.size, i.bytes)) = some (some (.int .i64 0), 1, 8) := by kernel_rfl

/-- Ints as cells. -/
def iv (l : List Int) : List Value := l.map (Value.int .i64)

theorem iv_len (l : List Int) : (iv l).length = l.length := by simp [iv]

theorem own_form {w : World} {base n : Nat} {e : TypeId} {v : Value} {xs : List Value} (h : w.ownsRow base e 1 v n xs) : ∃ B c, v = .slice B n c := by
  rcases h.2 with ⟨rfl, rfl⟩ | ⟨g, cap, cur, rfl, _⟩
  · exact ⟨none, 0, rfl⟩
  · exact ⟨_, _, rfl⟩

set_option maxRecDepth 100000 in
set_option maxHeartbeats 1000000 in
theorem list_any (x : Int) (w : World) :
    Calls Tryd.prog 67 #[.int .i64 x] w (Bx.Gives (listI (low x) 8) w) := by
  obtain ⟨i0, hi, hz0, hz1, hz2⟩ := info_parts info_int
  go_enter Tryd.func67, Tryd.ntmps67
  go_wp2
  go_loopw [3, 5] (fun v i wr => ∃ (k : Nat) (B : Option Addr) (c : Nat) (o : List Int), k ≤ 8 ∧ i = .int .i64 k ∧ v = .slice B o.length c ∧ o.length ≤ k ∧ Aside (o = listI (low x) k) ∧
    Aside (wr.ownsRow w.heap.size 3 1 (.slice B o.length c) o.length (iv o)) ∧ Below w.heap.size w wr) (fun _ i _ => 8 - (intOf i).toNat)
  case atStart => exact ⟨0, none, 0, [], Nat.zero_le _, rfl, rfl, Nat.zero_le _, rfl, World.ownsRow_nil _ _ _ _, Below.refl _ _⟩
  case round =>
    obtain ⟨k, B, c, o, hk, rfl, rfl, ho, HO, HW, hb⟩ := hrel
    by_cases hlt : k < 8
    · cases hm : hasN (low x) k with
      | true =>
        have hH := Lib.hid (has_at x k hlt true hm)
        have HN := Lib.hid (show o ++ [(k : Int)] = listI (low x) (k + 1) by rw [listI_yes _ _ hm, ← HO.out])
        clear hm
        go_wp2_with fail
        refine (hH.out _).mono ?_; rintro e w' ⟨rfl, rfl⟩
        go_wp2_with (at_builtin; refine wpList_append_own _ rfl _ _ 76 rfl w.heap.size 3 i0 (.int .i64 0) 1 8 Tryd.underlying76 hi hz0 hz1 hz2 rfl (by decide) _ _ _ rfl (HW.out.alloc _) ⟨wr.heap.size, 0, none⟩ 1 1 [.int .i64 k] rfl rfl ?c1 ?c2 ?c3 ?c4 ?c5 ?_)
        case c1 => exact cell_one_new _ _ _
        case c2 => intro u hu; simp at hu; subst hu; rfl
        case c3 => unfold maxLen; omega
        case c4 => omega
        case c5 => have := hb.size; simp; omega
        intro v' w2 hown' hgrow _
        have hrow := (HW.out).lt
        have bel := (Bx.bel_box hb (Obj.cells #[.int .i64 k] 3)).grown hgrow (by have := hb.size; simp; omega) (fun q hq => (hrow q hq).1)
        obtain ⟨B', c', rfl⟩ := own_form hown'
        have HW2 := Lib.hid hown'
        clear hown' hgrow hrow
        go_wp2
        go_roundw
        case rel =>
          refine ⟨k + 1, B', c', o ++ [(k : Int)], by omega, by go_num, by simp, by simp; omega, HN.out, ?_, bel⟩
          have := HW2.out
          simpa [iv, Aside] using this
        case measure => simp [intOf]; omega
      | false =>
        have hH := Lib.hid (has_at x k hlt false hm)
        have HN := Lib.hid (show o = listI (low x) (k + 1) by rw [listI_no _ _ hm, ← HO.out])
        clear hm
        go_wp2_with fail
        refine (hH.out _).mono ?_; rintro e w' ⟨rfl, rfl⟩
        go_wp2
        go_roundw
        case rel => exact ⟨k + 1, B, c, o, by omega, by go_num, rfl, by omega, HN.out, HW.out, hb⟩
        case measure => simp [intOf]; omega
    · obtain rfl : k = 8 := by omega
      obtain ⟨A, cap, hv, hI⟩ := Bx.Ints.of_own HW.out
      have HF := Lib.hid (show Bx.Gives (listI (low x) 8) w (.returned (.slice B o.length c)) wr by
        rw [← HO.out]
        exact ⟨A, cap, by rw [hv], hI, hb⟩)
      clear hv hI
      go_wp2
      go_ret
      exact HF.out

set_option maxRecDepth 100000 in
set_option maxHeartbeats 1000000 in
theorem rlist_any (x : Int) (w : World) :
    Calls Tryd.prog 37 #[.int .i64 x] w (Bx.Gives (listI (low x) 8) w) := by
  obtain ⟨i0, hi, hz0, hz1, hz2⟩ := info_parts info_int
  go_enter Tryd.func37, Tryd.ntmps37
  go_wp2
  go_loopw [3, 5] (fun v i wr => ∃ (k : Nat) (B : Option Addr) (c : Nat) (o : List Int), k ≤ 8 ∧ i = .int .i64 k ∧ v = .slice B o.length c ∧ o.length ≤ k ∧ Aside (o = listI (low x) k) ∧
    Aside (wr.ownsRow w.heap.size 3 1 (.slice B o.length c) o.length (iv o)) ∧ Below w.heap.size w wr) (fun _ i _ => 8 - (intOf i).toNat)
  case atStart => exact ⟨0, none, 0, [], Nat.zero_le _, rfl, rfl, Nat.zero_le _, rfl, World.ownsRow_nil _ _ _ _, Below.refl _ _⟩
  case round =>
    obtain ⟨k, B, c, o, hk, rfl, rfl, ho, HO, HW, hb⟩ := hrel
    by_cases hlt : k < 8
    · cases hm : hasN (low x) k with
      | true =>
        have hH := Lib.hid (rhas_at x k hlt true hm)
        have HN := Lib.hid (show o ++ [(k : Int)] = listI (low x) (k + 1) by rw [listI_yes _ _ hm, ← HO.out])
        clear hm
        go_wp2_with fail
        refine (hH.out _).mono ?_; rintro e w' ⟨rfl, rfl⟩
        go_wp2_with (at_builtin; refine wpList_append_own _ rfl _ _ 76 rfl w.heap.size 3 i0 (.int .i64 0) 1 8 Tryd.underlying76 hi hz0 hz1 hz2 rfl (by decide) _ _ _ rfl (HW.out.alloc _) ⟨wr.heap.size, 0, none⟩ 1 1 [.int .i64 k] rfl rfl ?c1 ?c2 ?c3 ?c4 ?c5 ?_)
        case c1 => exact cell_one_new _ _ _
        case c2 => intro u hu; simp at hu; subst hu; rfl
        case c3 => unfold maxLen; omega
        case c4 => omega
        case c5 => have := hb.size; simp; omega
        intro v' w2 hown' hgrow _
        have hrow := (HW.out).lt
        have bel := (Bx.bel_box hb (Obj.cells #[.int .i64 k] 3)).grown hgrow (by have := hb.size; simp; omega) (fun q hq => (hrow q hq).1)
        obtain ⟨B', c', rfl⟩ := own_form hown'
        have HW2 := Lib.hid hown'
        clear hown' hgrow hrow
        go_wp2
        go_roundw
        case rel =>
          refine ⟨k + 1, B', c', o ++ [(k : Int)], by omega, by go_num, by simp, by simp; omega, HN.out, ?_, bel⟩
          have := HW2.out
          simpa [iv, Aside] using this
        case measure => simp [intOf]; omega
      | false =>
        have hH := Lib.hid (rhas_at x k hlt false hm)
        have HN := Lib.hid (show o = listI (low x) (k + 1) by rw [listI_no _ _ hm, ← HO.out])
        clear hm
        go_wp2_with fail
        refine (hH.out _).mono ?_; rintro e w' ⟨rfl, rfl⟩
        go_wp2
        go_roundw
        case rel => exact ⟨k + 1, B, c, o, by omega, by go_num, rfl, by omega, HN.out, HW.out, hb⟩
        case measure => simp [intOf]; omega
    · obtain rfl : k = 8 := by omega
      obtain ⟨A, cap, hv, hI⟩ := Bx.Ints.of_own HW.out
      have HF := Lib.hid (show Bx.Gives (listI (low x) 8) w (.returned (.slice B o.length c)) wr by
        rw [← HO.out]
        exact ⟨A, cap, by rw [hv], hI, hb⟩)
      clear hv hI
      go_wp2
      go_ret
      exact HF.out

end Por
end Go.Proofs.YtmojegnflcokjaaDoor

/-
  What goes out, in memory; the closure that makes the frame for a port; decide.handedOut.
-/
namespace Go.Proofs.YtmojegnflcokjaaDoor
open Go.RowKit
namespace Fwd
open Oct Eth

/-- A frame's fields as a value; what goes out as cells, as a value, as an object. -/
abbrev fmv (x : Fm) : Value := fr x.d x.s x.g x.p x.v x.t x.b
def oc (x : Ou) : List Value := [.int .i64 x.q, .int .u64 x.f.d, .int .u64 x.f.s, .bool x.f.g, .int .i64 x.f.p, .int .i64 x.f.v, .int .i64 x.f.t, .string x.f.b]
abbrev ovl (x : Ou) : Value := .agg #[.int .i64 x.q, .int .u64 x.f.d, .int .u64 x.f.s, .bool x.f.g, .int .i64 x.f.p, .int .i64 x.f.v, .int .i64 x.f.t, .string x.f.b]
abbrev oo (x : Ou) : Obj := .cells #[.int .i64 x.q, .int .u64 x.f.d, .int .u64 x.f.s, .bool x.f.g, .int .i64 x.f.p, .int .i64 x.f.v, .int .i64 x.f.t, .string x.f.b] 45

theorem snd_is (L : List Mem.Vl) (n q d s p t : Int) (b : ByteArray) : Mem.sndF L n q d s p t b = fmv (sentF L n q d s p t b) := by
  unfold Mem.sndF sentF
  split
  · rfl
  · split <;> rfl

theorem info_out : (Tryd.prog.info? 45).map (fun i => (i.zero, i.size, i.bytes)) = some (some (.agg #[.int .i64 0, .int .u64 0, .int .u64 0, .bool false, .int .i64 0, .int .i64 0, .int .i64 0, .string ⟨#[]⟩]), 8, 72) := by kernel_rfl

theorem oc_one (l : List Ou) : ∀ u ∈ l.flatMap oc, u.oneCell' = true := by
  intro u hu
  obtain ⟨a, _, ha⟩ := List.mem_flatMap.1 hu
  simp [oc] at ha
  rcases ha with rfl | rfl | rfl | rfl | rfl | rfl | rfl | rfl <;> rfl

theorem flat_at {α : Type} (f : α → List Value) (z : Nat) (hz : ∀ x, (f x).length = z) : ∀ (l : List α) (j : Nat) (x : α), l[j]? = some x → ∀ (i : Nat) (u : Value), (f x)[i]? = some u → (l.flatMap f)[j * z + i]? = some u
  | [], j, x, h, i, u, hu => by simp at h
  | y :: l, 0, x, h, i, u, hu => by
    have e : y = x := by simpa using h
    subst e
    have hi : i < (f y).length := (List.getElem?_eq_some_iff.1 hu).1
    rw [List.flatMap_cons, Nat.zero_mul, Nat.zero_add, List.getElem?_append_left hi]
    exact hu
  | y :: l, j + 1, x, h, i, u, hu => by
    have h' : l[j]? = some x := by simpa using h
    have ih := flat_at f z hz l j x h' i u hu
    have e : (j + 1) * z = j * z + z := Nat.succ_mul j z
    rw [List.flatMap_cons, List.getElem?_append_right (by rw [hz y]; omega), hz y, show (j + 1) * z + i - z = j * z + i by omega]
    exact ih

/-- The slice that begins at A reads as what goes out. -/
def Outs (w : World) (A : Option Addr) (l : List Ou) : Prop := ∀ j x, l[j]? = some x → ∃ b o, A = some ⟨b, o, none⟩ ∧ b < w.heap.size ∧ ∀ i u, (oc x)[i]? = some u → w.cell? ⟨b, o + j * 8 + i, none⟩ = some u

theorem Outs.below {w w' : World} {A : Option Addr} {l : List Ou} (h : Outs w A l) (hb : Below w.heap.size w w') : Outs w' A l := fun j x hj => by
  obtain ⟨b, o, e, h1, h2⟩ := h j x hj
  exact ⟨b, o, e, Nat.lt_of_lt_of_le h1 hb.size, fun i u hu => Bx.keep_cell hb (h2 i u hu)⟩

theorem Outs.nil (w : World) (A : Option Addr) : Outs w A [] := fun j x h => by simp at h

theorem Outs.set {w : World} {A : Option Addr} {l : List Ou} {b o : Nat} {x : Value} (h : Outs w A l) (hb : ∀ b' o', A = some ⟨b', o', none⟩ → b' ≠ b) : Outs (w.setCell ⟨b, o, none⟩ x) A l := fun j y hj => by
  obtain ⟨b', o', e, h1, h2⟩ := h j y hj
  exact ⟨b', o', e, by simpa using h1, fun i u hu => Bx.cell_off (hb b' o' e) (h2 i u hu)⟩

theorem Outs.at {w : World} {A : Option Addr} {l : List Ou} (h : Outs w A l) {k : Nat} (hk : k < l.length) : ∃ b o, A = some ⟨b, o, none⟩ ∧ b < w.heap.size ∧ w.cell? ⟨b, o + k * 8, none⟩ = some (.int .i64 l[k].q) ∧ w.cell? ⟨b, o + k * 8 + 1, none⟩ = some (.int .u64 l[k].f.d) ∧ w.cell? ⟨b, o + k * 8 + 2, none⟩ = some (.int .u64 l[k].f.s) ∧
    w.cell? ⟨b, o + k * 8 + 3, none⟩ = some (.bool l[k].f.g) ∧ w.cell? ⟨b, o + k * 8 + 4, none⟩ = some (.int .i64 l[k].f.p) ∧ w.cell? ⟨b, o + k * 8 + 5, none⟩ = some (.int .i64 l[k].f.v) ∧ w.cell? ⟨b, o + k * 8 + 6, none⟩ = some (.int .i64 l[k].f.t) ∧ w.cell? ⟨b, o + k * 8 + 7, none⟩ = some (.string l[k].f.b) := by
  obtain ⟨b, o, e, h1, h2⟩ := h k l[k] (List.getElem?_eq_getElem hk)
  exact ⟨b, o, e, h1, h2 0 _ rfl, h2 1 _ rfl, h2 2 _ rfl, h2 3 _ rfl, h2 4 _ rfl, h2 5 _ rfl, h2 6 _ rfl, h2 7 _ rfl⟩

theorem own_below {z : Nat} {w w' : World} {base : Nat} {e : TypeId} {v : Value} {n : Nat} {xs : List Value} (h : w.ownsRow base e z v n xs) (hb : Below w.heap.size w w') : w'.ownsRow base e z v n xs := by
  refine ⟨h.1, ?_⟩
  rcases h.2 with hn | ⟨g, cap, cur, h1, h2, h3, h4⟩
  · exact .inl hn
  · refine .inr ⟨g, cap, cur, h1, h2, ?_, h4⟩
    rw [hb.block g (Array.getElem?_eq_some_iff.1 h3).1]
    exact h3

theorem own_mono {z : Nat} {w : World} {base b' : Nat} {e : TypeId} {v : Value} {n : Nat} {xs : List Value} (h : w.ownsRow base e z v n xs) (hb : b' ≤ base) : w.ownsRow b' e z v n xs := by
  refine ⟨h.1, ?_⟩
  rcases h.2 with hn | ⟨g, cap, cur, h1, h2, h3⟩
  · exact .inl hn
  · exact .inr ⟨g, cap, cur, h1, Nat.le_trans hb h2, h3⟩

theorem own_set {z : Nat} {w : World} {base b o : Nat} {e : TypeId} {v x : Value} {n : Nat} {xs : List Value} (h : w.ownsRow base e z v n xs) (hb : b < base) : (w.setCell ⟨b, o, none⟩ x).ownsRow base e z v n xs := by
  refine ⟨h.1, ?_⟩
  rcases h.2 with hn | ⟨g, cap, cur, h1, h2, h3, h4⟩
  · exact .inl hn
  · refine .inr ⟨g, cap, cur, h1, h2, ?_, h4⟩
    rw [← h3]
    exact Below.heap_setCell w ⟨b, o, none⟩ x g (by show g ≠ b; omega)

theorem Outs.of_own {w : World} {base : Nat} {e : TypeId} {v : Value} {l : List Ou} (h : w.ownsRow base e 8 v l.length (l.flatMap oc)) : ∃ A cap, v = .slice A l.length cap ∧ Outs w A l := by
  rcases h.2 with ⟨rfl, h0⟩ | ⟨g, cap, cur, rfl, hb, hg, _⟩
  · have : l = [] := List.eq_nil_of_length_eq_zero h0
    subst this
    exact ⟨none, 0, rfl, Outs.nil _ _⟩
  · refine ⟨_, _, rfl, fun j x hj => ⟨g, 0, rfl, (Array.getElem?_eq_some_iff.1 hg).1, fun i u hu => ?_⟩⟩
    have := h.cells (g := g) rfl _ _ (flat_at oc 8 (fun _ => rfl) l j x hj i u hu)
    rw [Addr.add_lit] at this
    rw [Nat.zero_add] at this ⊢
    exact this

theorem Outs.of_own3 {w : World} {base n c : Nat} {e : TypeId} {B : Option Addr} {l : List Ou} (h : w.ownsRow base e 8 (.slice B n c) l.length (l.flatMap oc)) : Outs w B l := by
  obtain ⟨A, cap, e1, e2⟩ := Outs.of_own h
  injection e1 with e1 _ _
  subst e1
  exact e2

theorem own_form {w : World} {base : Nat} {e : TypeId} {v : Value} {l : List Ou} (h : w.ownsRow base e 8 v l.length (l.flatMap oc)) : ∃ B c, v = .slice B l.length c ∧ w.ownsRow base e 8 (.slice B l.length c) l.length (l.flatMap oc) := by
  obtain ⟨B, c, rfl, _⟩ := Outs.of_own h
  exact ⟨B, c, rfl, h⟩

theorem own_next {w : World} {base : Nat} {e : TypeId} {v : Value} {l : List Ou} {x : Ou} (h : w.ownsRow base e 8 v (l.length + 1) (l.flatMap oc ++ oc x)) : ∃ B c, v = .slice B (l ++ [x]).length c ∧ w.ownsRow base e 8 (.slice B (l ++ [x]).length c) (l ++ [x]).length ((l ++ [x]).flatMap oc) := by
  refine own_form (l := l ++ [x]) ?_
  simpa using h

theorem eight_new (w : World) (x : Ou) (t : TypeId) (n : Nat) (h : n = w.heap.size := by rfl) : ∀ j u, (oc x)[j]? = some u → (w.alloc (.cells (oc x).toArray t)).cell? (Addr.add ⟨n, 0, none⟩ j) = some u := fun j u hu => by
  subst h
  rw [Addr.add_lit]
  simpa using (Bx.Blk.new w (oc x) t) j u hu

set_option maxRecDepth 40000 in
set_option maxHeartbeats 4000000 in
/-- The closure that makes the frame for a port. -/
theorem sent_fn (o k : Nat → Int) (A : Option Addr) (n c : Nat) (b7 b14 b8 : Nat) (q v d s : Int) (g : Bool) (p vv t : Int) (X : ByteArray) (x : Fm) (T : Bool) (w : World) (h7 : Bx.Blk w b7 (Mem.pc o k A n c)) (h14 : w.cell? ⟨b14, 0, none⟩ = some (.int .i64 v)) (h8 : Bx.Blk w b8 (Mem.fc d s g p vv t X))
    (HS : Hid (∀ w', Below w.heap.size w w' → Calls Tryd.prog 34 #[Mem.pv o k A n c, .int .i64 q, .int .i64 v, fr d s g p vv t X] w' fun e w'' => e = .returned (.tuple #[fmv x, .bool T]) ∧ Below w'.heap.size w' w'')) :
    Calls Tryd.prog 33 #[.int .i64 q, .pointer (some ⟨b7, 0, none⟩), .pointer (some ⟨b14, 0, none⟩), .pointer (some ⟨b8, 0, none⟩)] w fun e w' => e = .returned (fmv x) ∧ Below w.heap.size w w' := by
  obtain ⟨d2, s2, g2, p2, v2, t2, X2⟩ := x
  have bel := Lib.hid (Bx.box_below w (Mem.fo 0 0 false 0 0 0 ⟨#[]⟩))
  have P1 := Lib.hid (h7.more (Mem.fo 0 0 false 0 0 0 ⟨#[]⟩))
  have F1 := Lib.hid (h8.more (Mem.fo 0 0 false 0 0 0 ⟨#[]⟩))
  have c14 := Bx.keep_cell bel.out h14
  have R := Lib.hid (Bx.Fre.new w (Mem.fc 0 0 false 0 0 0 ⟨#[]⟩) 32)
  obtain ⟨f0, f1, f2, f3, f4, f5, f6⟩ := F1.out.all7
  clear h7 h8 h14
  go_enter Tryd.func33, Tryd.ntmps33
  go_wp2_with (first | ((with_reducible refine Mem.load_at ?_ ?_ b7 ?_ o k A n c ?_ ?_); (· rfl); (· rfl); (· rfl); (· exact P1.out)))
  refine (HS.out _ bel.out).mono ?_; rintro e w1 ⟨rfl, hb⟩
  replace bel := Lib.hid (Bx.bel_box (Bx.then_below bel.out hb) (Mem.fo d2 s2 g2 p2 v2 t2 X2))
  replace R := Lib.hid ((R.out.keep hb).more (Mem.fo d2 s2 g2 p2 v2 t2 X2))
  obtain ⟨g0, g1, g2', g3, g4, g5, g6⟩ := (Bx.Blk.new w1 (Mem.fc d2 s2 g2 p2 v2 t2 X2) 32).all7
  clear f0 f1 f2 f3 f4 f5 f6 c14 F1 P1 hb
  obtain ⟨⟨r0, r1, r2, r3, r4, r5, r6⟩, z0, z1, z2, z3, z4, z5, z6⟩ := R.out.all7
  have R2 := Lib.hid ((R.out.1.put7 (x0 := .int .u64 d2) (x1 := .int .u64 s2) (x2 := .bool g2) (x3 := .int .i64 p2) (x4 := .int .i64 v2) (x5 := .int .i64 t2) (x6 := .string X2)).all7)
  have bel3 := Lib.hid (Bx.bel_set7 (x0 := .int .u64 d2) (x1 := .int .u64 s2) (x2 := .bool g2) (x3 := .int .i64 p2) (x4 := .int .i64 v2) (x5 := .int .i64 t2) (x6 := .string X2) (Nat.le_refl _) bel.out)
  clear R bel
  go_wp2
  refine bodyPost_ret (v := fr d2 s2 g2 p2 v2 t2 X2) ?_ rfl ?_
  · obtain ⟨d0, d1, d2, d3, d4, d5, d6⟩ := R2.out
    simp [results, Tryd.results33, d0, d1, d2, d3, d4, d5, d6, go_sem]
  · exact ⟨rfl, bel3.out⟩

/-- What is handed back: a new slice that reads as l. -/
def GivesO (l : List Ou) (w : World) (e : Ending) (w' : World) : Prop := ∃ A c, e = .returned (.slice A l.length c) ∧ (∀ b o, A = some ⟨b, o, none⟩ → w.heap.size ≤ b) ∧ Outs w' A l ∧ Below w.heap.size w w'

set_option maxRecDepth 100000 in
set_option maxHeartbeats 4000000 in
theorem handed_any (x : Int) (b7 b14 b8 : Nat) (F : Int → Fm) (w : World)
    (HF : Hid (∀ (q : Int) (w' : World), Below w.heap.size w w' → Calls Tryd.prog 33 #[.int .i64 q, .pointer (some ⟨b7, 0, none⟩), .pointer (some ⟨b14, 0, none⟩), .pointer (some ⟨b8, 0, none⟩)] w' fun e w'' => e = .returned (fmv (F q)) ∧ Below w'.heap.size w' w'')) :
    Calls Tryd.prog 35 #[.int .i64 x, .func (.func 33) #[] #[.pointer (some ⟨b7, 0, none⟩), .pointer (some ⟨b14, 0, none⟩), .pointer (some ⟨b8, 0, none⟩)]] w (GivesO ((Por.listI (Por.low x) 8).map fun q => ⟨q, F q⟩) w) := by
  obtain ⟨i0, hi, hz0, hz1, hz2⟩ := info_parts info_out
  have hL := Lib.hid (Por.list_any x)
  have h8 := Por.listI_len (Por.low x) 8
  have eg : ∀ args w, (callFunc 33 args).run Tryd.prog w = .ok (.enter 33 args) w := enters_of Tryd.func33 (by kernel_rfl) rfl
  generalize Por.listI (Por.low x) 8 = l at *
  have HT := Lib.hid (fun k (h : k < l.length) => show ((l.take (k + 1)).map fun q => (⟨q, F q⟩ : Ou)) = ((l.take k).map fun q => (⟨q, F q⟩ : Ou)) ++ [⟨l[k], F l[k]⟩] by rw [List.take_succ_eq_append_getElem h, List.map_append]; rfl)
  obtain ⟨R, HR⟩ : ∃ R : List Ou, Hid (R = l.map fun q => (⟨q, F q⟩ : Ou)) := ⟨_, rfl⟩
  rw [← HR.out]
  have HZ := Lib.hid (show ((l.take l.length).map fun q => (⟨q, F q⟩ : Ou)) = R by rw [List.take_length, HR.out])
  go_enter Tryd.func35, Tryd.ntmps35
  go_wp2_with fail
  refine (hL.out _).mono ?_; rintro e w1 ⟨A, cap, rfl, hI, hb1⟩
  have HI := Lib.hid hI
  have B1 := Lib.hid hb1
  clear hI hb1 hL
  go_wp2
  go_loopw [5, 7, 11] (fun v _ ix wr => ∃ (k : Nat) (B : Option Addr) (cc : Nat) (o : List Ou), k ≤ l.length ∧ ix = .int .i64 k ∧ v = .slice B o.length cc ∧ o.length ≤ k ∧ Aside (((l.take k).map fun q => (⟨q, F q⟩ : Ou)) = o) ∧
    Aside (wr.ownsRow w1.heap.size 45 8 (.slice B o.length cc) o.length (o.flatMap oc)) ∧ Aside (Below w1.heap.size w1 wr)) (fun _ _ ix _ => l.length - (intOf ix).toNat)
  case atStart => exact ⟨0, none, 0, [], Nat.zero_le _, rfl, rfl, Nat.le_refl _, rfl, World.ownsRow_nil _ _ _ _, Below.refl _ _⟩
  case round =>
    obtain ⟨k, B, cc, o, hk, rfl, rfl, ho, HO, HW, HB⟩ := hrel
    by_cases hlt : k < l.length
    · obtain ⟨ad, rfl, _, c0⟩ := (HI.out.below HB.out).at hlt
      have HN := Lib.hid (HT.out k hlt)
      rw [HO.out] at HN
      have HC := Lib.hid (HF.out l[k] _ (Bx.then_below B1.out HB.out))
      generalize l[k] = q at *
      obtain ⟨y, hy⟩ : ∃ y, y = F q := ⟨_, rfl⟩
      rw [← hy] at HC HN
      clear hy
      obtain ⟨d2, s2, g2, p2, v2, t2, X2⟩ := y
      go_wp2_with fail
      refine HC.out.mono ?_; rintro e w2 ⟨rfl, hb2⟩
      have B2 := Lib.hid (Bx.then_below HB.out hb2)
      have HW2 := Lib.hid (own_below HW.out hb2)
      clear hb2 HC c0
      have hw2 := B2.out.size
      go_wp2_with (at_builtin; refine wpList_append_own_at _ rfl _ _ 40 rfl w1.heap.size 45 i0 (.agg #[.int .i64 0, .int .u64 0, .int .u64 0, .bool false, .int .i64 0, .int .i64 0, .int .i64 0, .string ⟨#[]⟩]) 8 72 Tryd.underlying40 hi hz0 hz1 hz2 rfl (by decide) _ _ _ rfl (HW2.out.alloc _) ⟨_, 0, none⟩ 1 1 (oc ⟨q, ⟨d2, s2, g2, p2, v2, t2, X2⟩⟩) rfl rfl ?c1 ?c2 ?c3 ?c4 ?c5 ?_)
      case c1 => first | exact eight_new _ _ _ _ | exact fun j u hu => hu
      case c2 => intro u hu; exact oc_one [⟨q, ⟨d2, s2, g2, p2, v2, t2, X2⟩⟩] u (by simpa using hu)
      case c3 => unfold maxLen; omega
      case c4 => omega
      case c5 => first | omega | (simp; omega)
      intro v' w5 hown' hgrow _ _
      have hrow := (HW2.out).lt
      have bel5 := (Bx.bel_box B2.out (oo ⟨q, ⟨d2, s2, g2, p2, v2, t2, X2⟩⟩)).grown hgrow (by simp; omega) (fun q hq => (hrow q hq).1)
      obtain ⟨B', c', rfl, hW'⟩ := own_next hown'
      have HW3 := Lib.hid hW'
      have HBL := Lib.hid bel5
      clear hown' hgrow hrow hW' bel5
      go_wp2
      go_roundw
      case rel => exact ⟨k + 1, B', c', o ++ [(⟨q, ⟨d2, s2, g2, p2, v2, t2, X2⟩⟩ : Ou)], by omega, by go_num, rfl, by simp; omega, HN.out, HW3.out, HBL.out⟩
      case measure => simp [intOf]; omega
    · obtain rfl : k = l.length := by omega
      have HE := Lib.hid (show o = R by rw [← HO.out]; exact HZ.out)
      have B2 := Lib.hid (Bx.then_below B1.out HB.out)
      have HG := Lib.hid (show GivesO R w (.returned (.slice B o.length cc)) wr from ⟨B, cc, by rw [HE.out], fun b o' hb => by have := (HW.out.lt b (by rw [hb]; rfl)).1; have := B1.out.size; omega, by rw [← HE.out]; exact Outs.of_own3 HW.out, B2.out⟩)
      go_wp2
      go_ret
      exact HG.out

end Fwd
end Go.Proofs.YtmojegnflcokjaaDoor
