/-
  What table.Text and the document's own Text answer of any table: a line of each entry.
-/
import Derived.Test.YtfnjgjehmddkcaaDoorDecB
import Derived.Test.YtfnjgjehmddkcaaDoorBld
import Derived.Test.YtfnjgjehmddkcaaDoorMacD
import Derived.Test.YtfnjgjehmddkcaaDoorTabCntA
namespace Go.Proofs.YtfnjgjehmddkcaaDoor
open Go.RowKit
namespace Tab
open Oct

theorem sz_mk (l : List UInt8) : (⟨l.toArray⟩ : ByteArray).size = l.length := by simp [ByteArray.size]

theorem num_size (n : Int) (h0 : -9223372036854775808 ≤ n) (h1 : n ≤ 9223372036854775807) : (⟨(numL n).toArray⟩ : ByteArray).size ≤ 21 := by
  rw [sz_mk]
  by_cases h : n < 0
  · rw [show numL n = [45] from if_pos h]
    decide
  · rw [num_itoa h]
    exact Lib.itoa_length_le n h0 h1

theorem mac_size (m : Nat) : (Mac.txtS m).size = 17 := by
  unfold Mac.txtS
  rw [sz_mk, Mac.txt_length6 _ (putL_length _ _)]

/-- An entry whose numbers are such as a machine has. -/
def wfE (e : En) : Prop := (-9223372036854775808 ≤ e.v ∧ e.v ≤ 9223372036854775807) ∧ e.m < 18446744073709551616 ∧ (-9223372036854775808 ≤ e.p ∧ e.p ≤ 9223372036854775807) ∧ (-9223372036854775808 ≤ e.a ∧ e.a ≤ 9223372036854775807)

theorem line_size (e : En) (h : wfE e) : (lineL e).length ≤ 100 := by
  have h1 := num_size e.v h.1.1 h.1.2
  have h2 := num_size e.p h.2.2.1.1 h.2.2.1.2
  have h3 := mac_size e.m
  rw [sz_mk] at h1 h2
  unfold lineL
  simp only [List.length_append, List.length_cons, List.length_nil]
  have : (Mac.txtS e.m).data.toList.length = 17 := by rw [← h3]; rfl
  omega

theorem line_eq (e : En) (V P : ByteArray) (hV : V = ⟨(numL e.v).toArray⟩) (hP : P = ⟨(numL e.p).toArray⟩) :
    (((((V ++ (⟨#[32]⟩ : ByteArray)) ++ Mac.txtS e.m) ++ (⟨#[32]⟩ : ByteArray)) ++ P) ++ (⟨#[10]⟩ : ByteArray)).data.toList = lineL e := by
  subst hV hP
  unfold lineL
  simp [ByteArray.data_append]

theorem text_len (l : List En) (hw : ∀ e ∈ l, wfE e) : ∀ k, k ≤ l.length → (textL (l.take k)).length ≤ 100 * k
  | 0, _ => by simp [textL]
  | k + 1, h => by
    rw [text_take l k (by omega), List.length_append]
    have := text_len l hw k (by omega)
    have := line_size l[k] (hw _ (List.getElem_mem _))
    omega

set_option maxRecDepth 40000 in
set_option maxHeartbeats 4000000 in
theorem text_any (most long : Int) (l : List En) (hl : l.length ≤ 1000) (hw : ∀ e ∈ l, wfE e) (A : Option Addr) (c : Nat) (w : World) (hA : Ents w A l) (hH : Dec.Home w) :
    Calls Tryd.prog 11 #[tv most long A l.length c] w fun e w' => e = .returned (.string ⟨(textL l).toArray⟩) ∧ Below w.heap.size w w' := by
  have bel := Lib.hid (Bx.box_below w (to most long A l.length c))
  have HA := Lib.hid hA
  obtain ⟨k0, k1, k2⟩ := (Bx.Blk.new w [.int .i64 most, .int .i64 long, .slice A l.length c] 24).all3
  have HT := Lib.hid (fun k (h : k < l.length) => text_take l k h)
  have HLN := Lib.hid (text_len l hw)
  have HWF := Lib.hid hw
  clear hw hA
  have HH := Lib.hid hH
  clear hH
  go_enter Tryd.func11, Tryd.ntmps11
  go_wp2
  have I0 := Lib.hid (Bld.IsB.new (w.alloc (to most long A l.length c)))
  have B0 := Lib.hid (Bx.bel_box bel.out (Obj.cells #[.pointer none, .slice none 0 0] 52))
  rw [show (w.alloc (to most long A l.length c)).heap.size = w.heap.size + 1 by simp] at I0
  have hB : w.heap.size < w.heap.size + 1 := Nat.lt_succ_self _
  have hB2 := Lib.hid hB
  clear k0 k1 k2 bel
  generalize hg : (w.alloc (to most long A l.length c)).alloc (Obj.cells #[.pointer none, .slice none 0 0] 52) = W0 at *
  clear hg
  generalize w.heap.size + 1 = B at *
  go_loopw [5, 9] (fun _ ix wr => ∃ k : Nat, k ≤ l.length ∧ ix = .int .i64 k ∧ Aside (Bld.IsB B (textL (l.take k)) wr) ∧ Aside (Below w.heap.size w wr)) (fun _ ix _ => l.length - (RowKit.intOf ix).toNat)
  case atStart => exact ⟨0, Nat.zero_le _, rfl, I0.out, B0.out⟩
  case round =>
    obtain ⟨k, hk, rfl, HI, HB⟩ := hrel
    by_cases hlt : k < l.length
    · obtain ⟨b, o, rfl, _, c0, c1, c2, c3⟩ := (HA.out.below HB.out).at hlt
      have HN := Lib.hid (HT.out k hlt)
      have hwf := HWF.out l[k] (List.getElem_mem hlt)
      have hln := HLN.out k (by omega)
      have HLS := Lib.hid (line_size l[k] hwf)
      obtain ⟨⟨v0, v1⟩, m1, ⟨p0, p1⟩, _⟩ := hwf
      obtain ⟨V, hV⟩ : ∃ V : ByteArray, V = ⟨(numL l[k].v).toArray⟩ := ⟨_, rfl⟩
      obtain ⟨P, hP⟩ : ∃ P : ByteArray, P = ⟨(numL l[k].p).toArray⟩ := ⟨_, rfl⟩
      have HLE := Lib.hid (line_eq l[k] V P hV hP)
      have zV : V.size ≤ 21 := by rw [hV]; exact num_size _ v0 v1
      have zP : P.size ≤ 21 := by rw [hP]; exact num_size _ p0 p1
      have zM : (Mac.txtS l[k].m).size ≤ 17 := by rw [mac_size]; exact Nat.le_refl _
      have HNa := Lib.hid (fun W (hW : Hid (Below w.heap.size w W)) => number_any l[k].v v0 v1 W (HH.out.below hW.out))
      have HNb := Lib.hid (fun W (hW : Hid (Below w.heap.size w W)) => number_any l[k].p p0 p1 W (HH.out.below hW.out))
      have HMT := Lib.hid (fun W => Mac.text_any l[k].m m1 W)
      rw [← hV] at HNa
      rw [← hP] at HNb
      generalize textL (l.take k) = s at *
      have HX := Lib.hid (Go.heap_alloc_new wr (eo l[k]))
      have HI1 := Lib.hid ((HI.out.keep (Bx.box_below wr (eo l[k]))).drew)
      have HB1 := Lib.hid (Bx.bel_drewn (Bx.bel_box HB.out (eo l[k])))
      obtain ⟨d0, d1, d2, d3⟩ := (Bx.Blk.new wr [.int .i64 l[k].v, .int .u64 l[k].m, .int .i64 l[k].p, .int .i64 l[k].a] 29).all4
      have hBb := HI.out.lt
      generalize hx : l[k] = x at *
      obtain ⟨x1, x2, x3, x4⟩ := x
      simp only at c0 c1 c2 c3 d0 d1 d2 d3 HNa HNb HMT HX HLE zM
      generalize Mac.txtS x2 = M at *
      have HWS := Lib.hid (fun W (h : Hid (Bld.IsB B s W)) (hB : Hid (Below w.heap.size w W)) => Bld.ws_any B s (((((V ++ (⟨#[32]⟩ : ByteArray)) ++ M) ++ (⟨#[32]⟩ : ByteArray)) ++ P) ++ (⟨#[10]⟩ : ByteArray)) W h.out (by simp only [ByteArray.size_append]; show _ + (V.size + 1 + M.size + 1 + P.size + 1) ≤ _; omega) (Nat.le_of_lt h.out.lt))
      have s1 : ¬ (V.size + 1 > 9223372036854775807) := by omega
      have s2 : ¬ (V.size + 1 + M.size > 9223372036854775807) := by omega
      have s3 : ¬ (V.size + 1 + M.size + 1 > 9223372036854775807) := by omega
      have s4 : ¬ (V.size + 1 + M.size + 1 + P.size > 9223372036854775807) := by omega
      have s5 : ¬ (V.size + 1 + M.size + 1 + P.size + 1 > 9223372036854775807) := by omega
      clear hx hV hP HI HB v0 v1 p0 p1 m1 zV zP zM hln
      go_wp2_with fail
      go_region_held3 (fun w' => w'.cell? ⟨wr.heap.size, 0, none⟩ = some (.int .i64 x1) ∧ w'.cell? ⟨wr.heap.size, 1, none⟩ = some (.int .u64 x2) ∧ w'.cell? ⟨wr.heap.size, 2, none⟩ = some (.int .i64 x3))
        (first | go_keep | (go_split_ands; refine ⟨?_, ?_, ?_⟩ <;> with_reducible assumption) | (go_split_ands; refine ⟨Bx.keep_cell hb ?_, Bx.keep_cell hb ?_, Bx.keep_cell hb ?_⟩ <;> with_reducible assumption))
        (first | (go_at_call 25; (with_reducible refine (HNa.out _ HB1).mono ?_); (rintro e w5 ⟨rfl, hb⟩); (replace HX := Lib.hid ((hb.block _ (Array.getElem?_eq_some_iff.1 HX.out).1).trans HX.out)); (replace HI1 := Lib.hid (HI1.out.keep hb)); (replace HB1 := Lib.hid (Bx.then_below HB1.out hb))) | (go_at_call 25; (with_reducible refine (HNb.out _ HB1).mono ?_); (rintro e w5 ⟨rfl, hb⟩); (replace HX := Lib.hid ((hb.block _ (Array.getElem?_eq_some_iff.1 HX.out).1).trans HX.out)); (replace HI1 := Lib.hid (HI1.out.keep hb)); (replace HB1 := Lib.hid (Bx.then_below HB1.out hb))) | (go_at_call 26; (with_reducible refine (HMT.out _).mono ?_); (rintro e w5 ⟨rfl, hb⟩); (replace HX := Lib.hid ((hb.block _ (Array.getElem?_eq_some_iff.1 HX.out).1).trans HX.out)); (replace HI1 := Lib.hid (HI1.out.keep hb)); (replace HB1 := Lib.hid (Bx.then_below HB1.out hb))) | (go_at_call 24; (with_reducible refine (HWS.out _ HI1 HB1).mono ?_); (rintro e w6 ⟨rfl, hi, hb, hk6⟩); (have HX6 := hk6 _ _ _ _ (by omega) (by decide) HX.out); (have g0 : w6.cell? ⟨wr.heap.size, 0, none⟩ = some (.int .i64 x1) := by rw [Lib.cell_of_heap HX6]; rfl); (have g1 : w6.cell? ⟨wr.heap.size, 1, none⟩ = some (.int .u64 x2) := by rw [Lib.cell_of_heap HX6]; rfl); (have g2 : w6.cell? ⟨wr.heap.size, 2, none⟩ = some (.int .i64 x3) := by rw [Lib.cell_of_heap HX6]; rfl)))
      clear g0 g1 g2 d0 d1 d2 d3 s1 s2 s3 s4 s5
      have hi6 := Lib.hid hi
      have HB6 := Lib.hid (HB1.out.trans (hb.mono (Nat.le_of_lt hB2.out)))
      clear hi hb hk6 HX6 HX HI1 HB1
      go_wp2
      go_roundw
      case rel => exact ⟨k + 1, by omega, by go_num, show Aside _ from (by rw [HN.out, ← HLE.out]; exact hi6.out), HB6.out⟩
      case measure => simp [RowKit.intOf]; omega
    · obtain rfl : k = l.length := by omega
      have HS := Lib.hid (fun wr h h2 => Bld.string_any B (textL l) wr h h2)
      have HI2 := HI.out
      rw [List.take_length] at HI2
      have HI3 := Lib.hid HI2
      clear HI2 HI
      have hlt2 := HI3.out.lt
      go_wp2_with fail
      refine (HS.out _ HI3.out (Nat.le_of_lt hlt2)).mono ?_; rintro e w6 ⟨rfl, hb6⟩
      have HB6 := Lib.hid (HB.out.trans (hb6.mono (Nat.le_of_lt hB2.out)))
      go_wp2_with fail
      go_ret
      exact ⟨rfl, HB6.out⟩

set_option maxRecDepth 40000 in
set_option maxHeartbeats 4000000 in
theorem rtext_any (most long : Int) (l : List En) (hl : l.length ≤ 1000) (hw : ∀ e ∈ l, wfE e) (A : Option Addr) (c : Nat) (w : World) (hA : Ents w A l) :
    Calls Tryd.prog 12 #[tv most long A l.length c] w fun e w' => e = .returned (.string ⟨(textL l).toArray⟩) ∧ Below w.heap.size w w' := by
  have bel := Lib.hid (Bx.box_below w (to most long A l.length c))
  have HA := Lib.hid hA
  obtain ⟨k0, k1, k2⟩ := (Bx.Blk.new w [.int .i64 most, .int .i64 long, .slice A l.length c] 24).all3
  have HT := Lib.hid (fun k (h : k < l.length) => text_take l k h)
  have HLN := Lib.hid (text_len l hw)
  have HWF := Lib.hid hw
  clear hw hA
  go_enter Tryd.func12, Tryd.ntmps12
  go_wp2
  clear k0 k1 k2
  generalize hg : w.alloc (to most long A l.length c) = W0 at *
  clear hg
  go_loopw [3, 5, 9] (fun v _ ix wr => ∃ (k : Nat) (s : ByteArray), k ≤ l.length ∧ ix = .int .i64 k ∧ v = .string s ∧ s.size ≤ 100 * k ∧ Aside (s = ⟨(textL (l.take k)).toArray⟩) ∧ Aside (Below w.heap.size w wr)) (fun _ _ ix _ => l.length - (RowKit.intOf ix).toNat)
  case atStart => exact ⟨0, ⟨#[]⟩, Nat.zero_le _, rfl, rfl, Nat.zero_le _, rfl, bel.out⟩
  case round =>
    obtain ⟨k, s, hk, rfl, rfl, hs, HS, HB⟩ := hrel
    by_cases hlt : k < l.length
    · obtain ⟨b, o, rfl, _, c0, c1, c2, c3⟩ := (HA.out.below HB.out).at hlt
      have HN := Lib.hid (HT.out k hlt)
      have hwf := HWF.out l[k] (List.getElem_mem hlt)
      have hln := HLN.out k (by omega)
      have HLS := Lib.hid (line_size l[k] hwf)
      obtain ⟨⟨v0, v1⟩, m1, ⟨p0, p1⟩, _⟩ := hwf
      obtain ⟨V, hV⟩ : ∃ V : ByteArray, V = ⟨(numL l[k].v).toArray⟩ := ⟨_, rfl⟩
      obtain ⟨P, hP⟩ : ∃ P : ByteArray, P = ⟨(numL l[k].p).toArray⟩ := ⟨_, rfl⟩
      have HLE := Lib.hid (line_eq l[k] V P hV hP)
      have zV : V.size ≤ 21 := by rw [hV]; exact num_size _ v0 v1
      have zP : P.size ≤ 21 := by rw [hP]; exact num_size _ p0 p1
      have zM : (Mac.txtS l[k].m).size ≤ 17 := by rw [mac_size]; exact Nat.le_refl _
      have HNa := Lib.hid (fun W => digits_any l[k].v v0 v1 W)
      have HNb := Lib.hid (fun W => digits_any l[k].p p0 p1 W)
      have HMT := Lib.hid (fun W => Mac.rtext_any l[k].m m1 W)
      rw [← hV] at HNa
      rw [← hP] at HNb
      have HZ : Hid ((s ++ (((((V ++ (⟨#[32]⟩ : ByteArray)) ++ Mac.txtS l[k].m) ++ (⟨#[32]⟩ : ByteArray)) ++ P) ++ (⟨#[10]⟩ : ByteArray))).size ≤ 100 * (k + 1)) := Lib.hid (by simp only [ByteArray.size_append]; show s.size + (V.size + 1 + (Mac.txtS l[k].m).size + 1 + P.size + 1) ≤ _; omega)
      have HE2 : Hid (s ++ (((((V ++ (⟨#[32]⟩ : ByteArray)) ++ Mac.txtS l[k].m) ++ (⟨#[32]⟩ : ByteArray)) ++ P) ++ (⟨#[10]⟩ : ByteArray)) = ⟨(textL (l.take (k + 1))).toArray⟩) := Lib.hid (by
        rw [HN.out, ← HLE.out, HS.out]
        apply ByteArray.ext
        simp [ByteArray.data_append])
      have HB1 := Lib.hid (Bx.bel_drewn (Bx.bel_box HB.out (eo l[k])))
      obtain ⟨d0, d1, d2, d3⟩ := (Bx.Blk.new wr [.int .i64 l[k].v, .int .u64 l[k].m, .int .i64 l[k].p, .int .i64 l[k].a] 29).all4
      generalize hx : l[k] = x at *
      obtain ⟨x1, x2, x3, x4⟩ := x
      simp only at c0 c1 c2 c3 d0 d1 d2 d3 HNa HNb HMT HZ HE2 zM
      generalize Mac.txtS x2 = M at *
      have s1 : ¬ (V.size + 1 > 9223372036854775807) := by omega
      have s2 : ¬ (V.size + 1 + M.size > 9223372036854775807) := by omega
      have s3 : ¬ (V.size + 1 + M.size + 1 > 9223372036854775807) := by omega
      have s4 : ¬ (V.size + 1 + M.size + 1 + P.size > 9223372036854775807) := by omega
      have s5 : ¬ (V.size + 1 + M.size + 1 + P.size + 1 > 9223372036854775807) := by omega
      have s6 : ¬ (s.size + (V.size + 1 + M.size + 1 + P.size + 1) > 9223372036854775807) := by omega
      clear hx hV hP HB v0 v1 p0 p1 m1 zV zP zM hln HN HLE HS HLS
      go_wp2_with fail
      go_region_held3 (fun w' => w'.cell? ⟨wr.heap.size, 0, none⟩ = some (.int .i64 x1) ∧ w'.cell? ⟨wr.heap.size, 1, none⟩ = some (.int .u64 x2) ∧ w'.cell? ⟨wr.heap.size, 2, none⟩ = some (.int .i64 x3))
        (first | go_keep | (go_split_ands; refine ⟨Bx.keep_cell hb ?_, Bx.keep_cell hb ?_, Bx.keep_cell hb ?_⟩ <;> with_reducible assumption))
        (first | (go_at_call 28; (with_reducible refine (HNa.out _).mono ?_); (rintro e w5 ⟨rfl, hb⟩); (replace HB1 := Lib.hid (Bx.then_below HB1.out hb))) | (go_at_call 28; (with_reducible refine (HNb.out _).mono ?_); (rintro e w5 ⟨rfl, hb⟩); (replace HB1 := Lib.hid (Bx.then_below HB1.out hb))) | (go_at_call 29; (with_reducible refine (HMT.out _).mono ?_); (rintro e w5 ⟨rfl, hb⟩); (replace HB1 := Lib.hid (Bx.then_below HB1.out hb))))
      clear d0 d1 d2 d3 s1 s2 s3 s4 s5 s6 hs
      go_wp2
      go_roundw
      case rel => exact ⟨k + 1, _, by omega, by go_num, rfl, HZ.out, HE2.out, HB1.out⟩
      case measure => simp [RowKit.intOf]; omega
    · obtain rfl : k = l.length := by omega
      have HE := HS.out
      rw [List.take_length] at HE
      clear HS
      subst HE
      go_wp2
      go_ret
      exact ⟨rfl, HB.out⟩

end Tab
end Go.Proofs.YtfnjgjehmddkcaaDoor
