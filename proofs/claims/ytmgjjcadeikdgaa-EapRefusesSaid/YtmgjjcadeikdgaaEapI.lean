/-
  What eap.Wants, and the document's answer beside it, answer of any packet; and that they change nothing that was there.
-/
import Derived.Test.YtmgjjcadeikdgaaEapH
namespace Go.Proofs.Ytmgjjcadeikdgaa
open Go.RowKit
namespace Eap
open Oct Mac Eth Epl

theorem info3 : (Try.prog.info? 3).map (fun i => (i.zero, i.size, i.bytes)) = some (some (.int .i64 0), 1, 8) := by kernel_rfl

/-- What is wanted by a packet. -/
def wantP (c i t : Int) (d : ByteArray) : List Int := if rightP c i t d && decide (c = 2 ∧ t = 3) then wantsL d.data.toList else []

theorem wants_next (d : ByteArray) (k : Nat) (h : k < d.size) : wantsL (d.data.toList.take (k + 1)) = if 3 < d[k].toNat then wantsL (d.data.toList.take k) ++ [(d[k].toNat : Int)] else wantsL (d.data.toList.take k) := by
  rw [take_snoc d k h]
  unfold wantsL
  rw [List.filter_append, List.map_append]
  by_cases h3 : 3 < d[k].toNat
  · rw [if_pos h3]; simp [h3]
  · rw [if_neg h3]; simp [h3]

theorem wants_length (l : List UInt8) : (wantsL l).length ≤ l.length := by
  unfold wantsL
  rw [List.length_map]
  exact List.length_filter_le _ _

theorem wants_all (d : ByteArray) (k : Nat) (h : d.size ≤ k) : d.data.toList.take k = d.data.toList := by
  apply List.take_of_length_le
  rw [Array.length_toList]
  exact h

/-- []byte of a text. -/
theorem all_bytes (s : ByteArray) (w : World) : ∃ (cap m : Nat) (C : Array Value),
    (convert 9 47 (.string s)).run Try.prog w = .ok (.slice (some ⟨w.heap.size, 0, none⟩) s.size cap) (w.alloc (.cells C 5 (m, m + 1))).drew ∧
    ∀ (j : Nat) (h : j < s.size), (w.alloc (.cells C 5 (m, m + 1))).drew.cell? ⟨w.heap.size, j, none⟩ = some (.int .u8 (s[j].toNat : Int)) := by
  have hrun := run_bytes_of_string (P := Try.prog) w 9 47 5 s Try.underlying9 Try.underlying47 Try.underlying5
  refine ⟨_, _, _, hrun, fun j h => ?_⟩
  show (w.alloc _).cell? _ = _
  rw [World.cell?_alloc_mark]
  unfold bytesRow
  have hz : j < s.data.size := h
  rw [Array.getElem?_append_left (by simpa using hz), Array.getElem?_map, Array.getElem?_eq_getElem hz]
  rfl

theorem own_next {w : World} {base : Nat} {v : Value} {o : List Int} {x : Int} {e : TypeId} (h : w.ownsRow base e 1 v (o.length + 1) (o.map (Value.int .i64) ++ [.int .i64 x])) : ∃ B c, v = .slice B (o ++ [x]).length c ∧ w.ownsRow base e 1 (.slice B (o ++ [x]).length c) (o ++ [x]).length ((o ++ [x]).map (Value.int .i64)) := by
  obtain ⟨B, c, rfl⟩ := own_form h
  refine ⟨B, c, by simp, ?_⟩
  simpa using h

set_option maxHeartbeats 1000000 in
theorem wants_right (c i t : Int) (d : ByteArray) (w : World) 
    (HR : Hid (∀ w, Calls Try.prog 12 #[pk c i t d] w fun e w' => e = .returned (.bool false) ∧ Below w.heap.size w w')) :
    Calls Try.prog 22 #[pk c i t d] w (Bx.Gives ([]) w) := by
  go_enter Try.func22, Try.ntmps22
  go_wp2_with fail
  refine (HR.out _).mono ?_; rintro e w1 ⟨rfl, hb1⟩
  obtain ⟨hc1, hf1⟩ := Bx.bcell hb1
  have hz1 : w.heap.size < w1.heap.size := by have := hb1.size; simp at this; omega
  have BX := Lib.hid (Bx.then_below (Bx.box_below w (Obj.cells #[.int .i64 c, .int .i64 i, .int .i64 t, .string d] 23)) hb1)
  go_wp2_with fail
  go_ret
  exact ⟨none, 0, rfl, Bx.Ints.nil _ _, BX.out⟩

set_option maxHeartbeats 1000000 in
theorem wants_code (c i t : Int) (d : ByteArray) (w : World) (h1 : (c != 2) = true)
    (HR : Hid (∀ w, Calls Try.prog 12 #[pk c i t d] w fun e w' => e = .returned (.bool true) ∧ Below w.heap.size w w')) :
    Calls Try.prog 22 #[pk c i t d] w (Bx.Gives ([]) w) := by
  go_enter Try.func22, Try.ntmps22
  go_wp2_with fail
  refine (HR.out _).mono ?_; rintro e w1 ⟨rfl, hb1⟩
  obtain ⟨hc1, hf1⟩ := Bx.bcell hb1
  have hz1 : w.heap.size < w1.heap.size := by have := hb1.size; simp at this; omega
  have BX := Lib.hid (Bx.then_below (Bx.box_below w (Obj.cells #[.int .i64 c, .int .i64 i, .int .i64 t, .string d] 23)) hb1)
  go_wp2_with fail
  go_ret
  exact ⟨none, 0, rfl, Bx.Ints.nil _ _, BX.out⟩

set_option maxHeartbeats 1000000 in
theorem wants_type (c i t : Int) (d : ByteArray) (w : World) (h1 : (c != 2) = false) (h2 : (t != 3) = true)
    (HR : Hid (∀ w, Calls Try.prog 12 #[pk c i t d] w fun e w' => e = .returned (.bool true) ∧ Below w.heap.size w w')) :
    Calls Try.prog 22 #[pk c i t d] w (Bx.Gives ([]) w) := by
  go_enter Try.func22, Try.ntmps22
  go_wp2_with fail
  refine (HR.out _).mono ?_; rintro e w1 ⟨rfl, hb1⟩
  obtain ⟨hc1, hf1⟩ := Bx.bcell hb1
  have hz1 : w.heap.size < w1.heap.size := by have := hb1.size; simp at this; omega
  have BX := Lib.hid (Bx.then_below (Bx.box_below w (Obj.cells #[.int .i64 c, .int .i64 i, .int .i64 t, .string d] 23)) hb1)
  go_wp2_with fail
  go_ret
  exact ⟨none, 0, rfl, Bx.Ints.nil _ _, BX.out⟩

set_option maxRecDepth 100000 in
set_option maxHeartbeats 2000000 in
theorem wants_loop (c i t : Int) (d : ByteArray) (w : World) (h1 : (c != 2) = false) (h2 : (t != 3) = false) (hd : d.size ≤ 1019) (r : List Int) (Hr : Hid (wantsL d.data.toList = r))
    (HR : Hid (∀ w, Calls Try.prog 12 #[pk c i t d] w fun e w' => e = .returned (.bool true) ∧ Below w.heap.size w w')) :
    Calls Try.prog 22 #[pk c i t d] w (Bx.Gives (r) w) := by
  obtain ⟨i0, hi, hz0, hz1', hz2⟩ := info_parts info3
  go_enter Try.func22, Try.ntmps22
  go_wp2_with fail
  refine (HR.out _).mono ?_; rintro e w1 ⟨rfl, hb1⟩
  obtain ⟨hc1, hf1⟩ := Bx.bcell hb1
  have hz1 : w.heap.size < w1.heap.size := by have := hb1.size; simp at this; omega
  have BX := Lib.hid (Bx.then_below (Bx.box_below w (Obj.cells #[.int .i64 c, .int .i64 i, .int .i64 t, .string d] 23)) hb1)
  obtain ⟨cp, mk, CC, hcv, hcl⟩ := all_bytes d w1
  have HCL := Lib.hid hcl
  clear hcl
  go_wp2
  obtain ⟨W2, hW2⟩ : ∃ W2, W2 = (w1.alloc (.cells CC 5 (mk, mk + 1))).drew := ⟨_, rfl⟩
  have BX2 : Hid (Below w.heap.size w W2) := Lib.hid (by rw [hW2]; exact (Bx.bel_box BX.out _).drew)
  have HC2 : Hid (∀ (j : Nat) (h : j < d.size), W2.cell? ⟨w1.heap.size, j, none⟩ = some (.int .u8 (d[j].toNat : Int))) := Lib.hid (by rw [hW2]; exact HCL.out)
  have hs2 : w1.heap.size < W2.heap.size := by rw [hW2]; simp
  rw [← hW2]
  clear hW2 HCL hcv hc1 hf1 hb1 BX
  go_loopw [3, 5, 23] (fun v _ ix wr => ∃ (k : Nat) (B : Option Addr) (c : Nat) (o : List Int), k ≤ d.size ∧ ix = .int .i64 k ∧ v = .slice B o.length c ∧ o.length ≤ k ∧ Aside (wantsL (d.data.toList.take k) = o) ∧
    Aside (wr.ownsRow W2.heap.size 3 1 (.slice B o.length c) o.length (o.map (Value.int .i64))) ∧ Aside (Below W2.heap.size W2 wr)) (fun _ _ ix _ => d.size - (intOf ix).toNat)
  case atStart => exact ⟨0, none, 0, [], Nat.zero_le _, rfl, rfl, Nat.zero_le _, rfl, World.ownsRow_nil _ _ _ _, Below.refl _ _⟩
  case round =>
    obtain ⟨k, B, c, o, hk, rfl, rfl, ho, HO, HW, HB⟩ := hrel
    by_cases hlt : k < d.size
    · have hc := Bx.keep_cell HB.out (HC2.out k hlt)
      by_cases h3 : 3 < d[k].toNat
      · have HN := Lib.hid (show wantsL (d.data.toList.take (k + 1)) = o ++ [(d[k].toNat : Int)] by rw [wants_next d k hlt, if_pos h3, HO.out])
        have hx : d[k].toNat < 256 := d[k].toNat_lt
        generalize d[k].toNat = m at *
        · go_wp2_with (at_builtin; refine wpList_append_own _ rfl _ _ 36 rfl W2.heap.size 3 i0 (.int .i64 0) 1 8 Try.underlying36 hi hz0 hz1' hz2 rfl (by decide) _ _ _ rfl (HW.out.alloc _) ⟨wr.heap.size, 0, none⟩ 1 1 [.int .i64 (m : Int)] rfl rfl ?c1 ?c2 ?c3 ?c4 ?c5 ?_)
          case c1 => exact cell_one_new _ _ _
          case c2 => intro u hu; simp at hu; subst hu; rfl
          case c3 => unfold maxLen; omega
          case c4 => omega
          case c5 => have := HB.out.size; simp; omega
          intro v' w5 hown' hgrow _
          have hrow := (HW.out).lt
          have bel := (HB.out.alloc HB.out.size (Obj.cells #[.int .i64 (m : Int)] 3)).grown hgrow (by have := HB.out.size; simp; omega) (fun q hq => (hrow q hq).1)
          obtain ⟨B', c', rfl, hW'⟩ := own_next hown'
          have HW2 := Lib.hid hW'
          have HBL := Lib.hid bel
          clear hown' hgrow hrow hW' bel
          go_wp2
          go_roundw
          case rel => exact ⟨k + 1, B', c', o ++ [(m : Int)], by omega, by go_num, rfl, by simp; omega, HN.out, HW2.out, HBL.out⟩
          case measure => simp [intOf]; omega
      · have HN := Lib.hid (show wantsL (d.data.toList.take (k + 1)) = o by rw [wants_next d k hlt, if_neg h3, HO.out])
        generalize d[k].toNat = m at *
        go_wp2
        go_roundw
        case rel => exact ⟨k + 1, B, c, o, by omega, by go_num, rfl, by omega, HN.out, HW.out, HB.out⟩
        case measure => simp [intOf]; omega
    · obtain rfl : r = o := by have h8 := HO.out; rw [wants_all d k (by omega)] at h8; rw [← h8]; exact Hr.out.symm
      obtain ⟨A', c', e1, e2⟩ := Bx.Ints.of_own HW.out
      injection e1 with e1 _ e3
      subst e1 e3
      have HG := Lib.hid (show Bx.Gives r w (.returned (.slice B r.length c)) wr from ⟨_, _, rfl, e2, Bx.then_below BX2.out HB.out⟩)
      clear e2
      go_wp2
      go_ret
      exact HG.out

set_option maxHeartbeats 1000000 in
theorem rwants_right (c i t : Int) (d : ByteArray) (w : World) 
    (HR : Hid (∀ w, Calls Try.prog 13 #[pk c i t d] w fun e w' => e = .returned (.bool false) ∧ Below w.heap.size w w')) :
    Calls Try.prog 23 #[pk c i t d] w (Bx.Gives ([]) w) := by
  go_enter Try.func23, Try.ntmps23
  go_wp2_with fail
  refine (HR.out _).mono ?_; rintro e w1 ⟨rfl, hb1⟩
  obtain ⟨hc1, hf1⟩ := Bx.bcell hb1
  have hz1 : w.heap.size < w1.heap.size := by have := hb1.size; simp at this; omega
  have BX := Lib.hid (Bx.then_below (Bx.box_below w (Obj.cells #[.int .i64 c, .int .i64 i, .int .i64 t, .string d] 23)) hb1)
  go_wp2_with fail
  go_ret
  exact ⟨none, 0, rfl, Bx.Ints.nil _ _, BX.out⟩

set_option maxHeartbeats 1000000 in
theorem rwants_code (c i t : Int) (d : ByteArray) (w : World) (h1 : (c != 2) = true)
    (HR : Hid (∀ w, Calls Try.prog 13 #[pk c i t d] w fun e w' => e = .returned (.bool true) ∧ Below w.heap.size w w')) :
    Calls Try.prog 23 #[pk c i t d] w (Bx.Gives ([]) w) := by
  go_enter Try.func23, Try.ntmps23
  go_wp2_with fail
  refine (HR.out _).mono ?_; rintro e w1 ⟨rfl, hb1⟩
  obtain ⟨hc1, hf1⟩ := Bx.bcell hb1
  have hz1 : w.heap.size < w1.heap.size := by have := hb1.size; simp at this; omega
  have BX := Lib.hid (Bx.then_below (Bx.box_below w (Obj.cells #[.int .i64 c, .int .i64 i, .int .i64 t, .string d] 23)) hb1)
  go_wp2_with fail
  go_ret
  exact ⟨none, 0, rfl, Bx.Ints.nil _ _, BX.out⟩

set_option maxHeartbeats 1000000 in
theorem rwants_type (c i t : Int) (d : ByteArray) (w : World) (h1 : (c != 2) = false) (h2 : (t != 3) = true)
    (HR : Hid (∀ w, Calls Try.prog 13 #[pk c i t d] w fun e w' => e = .returned (.bool true) ∧ Below w.heap.size w w')) :
    Calls Try.prog 23 #[pk c i t d] w (Bx.Gives ([]) w) := by
  go_enter Try.func23, Try.ntmps23
  go_wp2_with fail
  refine (HR.out _).mono ?_; rintro e w1 ⟨rfl, hb1⟩
  obtain ⟨hc1, hf1⟩ := Bx.bcell hb1
  have hz1 : w.heap.size < w1.heap.size := by have := hb1.size; simp at this; omega
  have BX := Lib.hid (Bx.then_below (Bx.box_below w (Obj.cells #[.int .i64 c, .int .i64 i, .int .i64 t, .string d] 23)) hb1)
  go_wp2_with fail
  go_ret
  exact ⟨none, 0, rfl, Bx.Ints.nil _ _, BX.out⟩

set_option maxRecDepth 100000 in
set_option maxHeartbeats 2000000 in
theorem rwants_loop (c i t : Int) (d : ByteArray) (w : World) (h1 : (c != 2) = false) (h2 : (t != 3) = false) (hd : d.size ≤ 1019) (r : List Int) (Hr : Hid (wantsL d.data.toList = r))
    (HR : Hid (∀ w, Calls Try.prog 13 #[pk c i t d] w fun e w' => e = .returned (.bool true) ∧ Below w.heap.size w w')) :
    Calls Try.prog 23 #[pk c i t d] w (Bx.Gives (r) w) := by
  obtain ⟨i0, hi, hz0, hz1', hz2⟩ := info_parts info3
  go_enter Try.func23, Try.ntmps23
  go_wp2_with fail
  refine (HR.out _).mono ?_; rintro e w1 ⟨rfl, hb1⟩
  obtain ⟨hc1, hf1⟩ := Bx.bcell hb1
  have hz1 : w.heap.size < w1.heap.size := by have := hb1.size; simp at this; omega
  have BX := Lib.hid (Bx.then_below (Bx.box_below w (Obj.cells #[.int .i64 c, .int .i64 i, .int .i64 t, .string d] 23)) hb1)
  go_wp2_with fail
  have c3 : w1.cell? ⟨w.heap.size, 3, none⟩ = some (.string d) := by rw [hc1 _ _ (by simp)]; simp
  have HC3 := Lib.hid c3
  obtain ⟨W2, hW2⟩ : ∃ W2, W2 = w1 := ⟨_, rfl⟩
  have BX2 := BX
  rw [← hW2]
  subst hW2
  clear hc1 hf1 hb1 c3 BX
  go_loopw [3, 4, 21] (fun v _ ix wr => ∃ (k : Nat) (B : Option Addr) (c : Nat) (o : List Int), k ≤ d.size ∧ ix = .int .i64 k ∧ v = .slice B o.length c ∧ o.length ≤ k ∧ Aside (wantsL (d.data.toList.take k) = o) ∧
    Aside (wr.ownsRow W2.heap.size 3 1 (.slice B o.length c) o.length (o.map (Value.int .i64))) ∧ Aside (Below W2.heap.size W2 wr)) (fun _ _ ix _ => d.size - (intOf ix).toNat)
  case atStart => exact ⟨0, none, 0, [], Nat.zero_le _, rfl, rfl, Nat.zero_le _, rfl, World.ownsRow_nil _ _ _ _, Below.refl _ _⟩
  case round =>
    obtain ⟨k, B, c, o, hk, rfl, rfl, ho, HO, HW, HB⟩ := hrel
    by_cases hlt : k < d.size
    · have hc := Bx.keep_cell HB.out HC3.out
      by_cases h3 : 3 < d[k].toNat
      · have HN := Lib.hid (show wantsL (d.data.toList.take (k + 1)) = o ++ [(d[k].toNat : Int)] by rw [wants_next d k hlt, if_pos h3, HO.out])
        have hx : d[k].toNat < 256 := d[k].toNat_lt
        · go_wp2_with (at_builtin; refine wpList_append_own _ rfl _ _ 36 rfl W2.heap.size 3 i0 (.int .i64 0) 1 8 Try.underlying36 hi hz0 hz1' hz2 rfl (by decide) _ _ _ rfl (HW.out.alloc _) ⟨wr.heap.size, 0, none⟩ 1 1 [.int .i64 (d[k].toNat : Int)] rfl rfl ?c1 ?c2 ?c3 ?c4 ?c5 ?_)
          case c1 => exact cell_one_new _ _ _
          case c2 => intro u hu; simp at hu; subst hu; rfl
          case c3 => unfold maxLen; omega
          case c4 => omega
          case c5 => have := HB.out.size; simp; omega
          intro v' w5 hown' hgrow _
          have hrow := (HW.out).lt
          have bel := (HB.out.alloc HB.out.size (Obj.cells #[.int .i64 (d[k].toNat : Int)] 3)).grown hgrow (by have := HB.out.size; simp; omega) (fun q hq => (hrow q hq).1)
          obtain ⟨B', c', rfl, hW'⟩ := own_next hown'
          have HW2 := Lib.hid hW'
          have HBL := Lib.hid bel
          clear hown' hgrow hrow hW' bel
          go_wp2
          go_roundw
          case rel => exact ⟨k + 1, B', c', o ++ [(d[k].toNat : Int)], by omega, by go_num, rfl, by simp; omega, HN.out, HW2.out, HBL.out⟩
          case measure => simp [intOf]; omega
      · have HN := Lib.hid (show wantsL (d.data.toList.take (k + 1)) = o by rw [wants_next d k hlt, if_neg h3, HO.out])
        go_wp2
        go_roundw
        case rel => exact ⟨k + 1, B, c, o, by omega, by go_num, rfl, by omega, HN.out, HW.out, HB.out⟩
        case measure => simp [intOf]; omega
    · obtain rfl : r = o := by have h8 := HO.out; rw [wants_all d k (by omega)] at h8; rw [← h8]; exact Hr.out.symm
      obtain ⟨A', c', e1, e2⟩ := Bx.Ints.of_own HW.out
      injection e1 with e1 _ e3
      subst e1 e3
      have HG := Lib.hid (show Bx.Gives r w (.returned (.slice B r.length c)) wr from ⟨_, _, rfl, e2, Bx.then_below BX2.out HB.out⟩)
      clear e2
      go_wp2
      go_ret
      exact HG.out

end Eap
end Go.Proofs.Ytmgjjcadeikdgaa
