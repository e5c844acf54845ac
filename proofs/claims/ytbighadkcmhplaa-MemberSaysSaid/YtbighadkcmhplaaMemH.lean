/-
  Whether a plan is right, as the document answers.
-/
import Derived.Test.YtbighadkcmhplaaMemG
namespace Go.Proofs.Ytbighadkcmhplaa
open Go.RowKit
namespace Mem
open Oct Eth

/-- The number of the VLAN ahead of a place, or 0. -/
def lastV (l : List Vl) : Nat → Int
  | 0 => 0
  | j + 1 => match l[j]? with
    | none => 0
    | some y => y.v

theorem last_next {l : List Vl} {j : Nat} (h : j < l.length) : lastV l (j + 1) = l[j].v := by
  show (match l[j]? with | none => (0 : Int) | some y => y.v) = _
  rw [List.getElem?_eq_getElem h]

theorem okN_one {l : List Vl} {j : Nat} (hj : j < l.length) (h : okN l j = true) : 1 ≤ l[j].v := by
  unfold okN at h
  rw [List.getElem?_eq_getElem hj] at h
  simp only [Bool.and_eq_true] at h
  have := h.1
  unfold rVl rVid at this
  simp only [Bool.and_eq_true, decide_eq_true_eq] at this
  omega

/-- The document's word for what is right at a place behind right ones. -/
theorem okN_last {l : List Vl} {i : Nat} (hi : i < l.length) (h : ∀ j, j < i → okN l j = true) :
    okN l i = (decide (lastV l i < l[i].v ∧ l[i].v ≤ 4094 ∧ 0 ≤ l[i].t ∧ l[i].t ≤ 255 ∧ 0 ≤ l[i].u ∧ l[i].u ≤ 255) && (bits .and .i64 l[i].t l[i].u == 0)) := by
  have e : okN l i = (rVl l[i] && decide (lastV l i < l[i].v)) := by
    cases i with
    | zero =>
      rw [okN_first hi]
      cases hr : rVl l[0] with
      | false => rfl
      | true =>
        have := okN_one hi (by rw [okN_first hi, hr])
        rw [decide_eq_true (by show (0 : Int) < _; omega)]
        rfl
    | succ j =>
      rw [okN_next hi, last_next (by omega)]
  have hl : 0 ≤ lastV l i := by
    cases i with
    | zero => exact Int.le_refl _
    | succ j =>
      rw [last_next (by omega)]
      have := okN_one (by omega) (h j (by omega))
      omega
  rw [e]
  unfold rVl rVid rSet
  generalize (bits .and .i64 l[i].t l[i].u == 0) = z
  rw [Bool.eq_iff_iff]
  simp only [Bool.and_eq_true, decide_eq_true_eq]
  constructor
  · rintro ⟨⟨h1, h2, h3, h4⟩, h5⟩
    exact ⟨by omega, h4⟩
  · rintro ⟨h1, h2⟩
    exact ⟨⟨by omega, by omega, by omega, h2⟩, by omega⟩

theorem portN_is (o k : Nat → Int) (i : Nat) : portN o k i = decide (1 ≤ o i ∧ o i ≤ 4094 ∧ 0 ≤ k i ∧ k i ≤ 2) := by
  unfold portN rVid rTake
  rw [Bool.eq_iff_iff]
  simp only [Bool.and_eq_true, decide_eq_true_eq]
  omega

theorem index_own (o : Nat → Int) (i : Nat) (hi : i < 8) (w : World) : (Instr.index 22 (.agg #[.int .i64 (o 0), .int .i64 (o 1), .int .i64 (o 2), .int .i64 (o 3), .int .i64 (o 4), .int .i64 (o 5), .int .i64 (o 6), .int .i64 (o 7)]) (.int .i64 (i : Int))).run Try.prog w = .ok (.int .i64 (o i)) w := by
  have hx : (#[.int .i64 (o 0), .int .i64 (o 1), .int .i64 (o 2), .int .i64 (o 3), .int .i64 (o 4), .int .i64 (o 5), .int .i64 (o 6), .int .i64 (o 7)] : Array Value)[i]? = some (.int .i64 (o i)) := by
    have : i = 0 ∨ i = 1 ∨ i = 2 ∨ i = 3 ∨ i = 4 ∨ i = 5 ∨ i = 6 ∨ i = 7 := by omega
    rcases this with rfl | rfl | rfl | rfl | rfl | rfl | rfl | rfl <;> rfl
  generalize (#[.int .i64 (o 0), .int .i64 (o 1), .int .i64 (o 2), .int .i64 (o 3), .int .i64 (o 4), .int .i64 (o 5), .int .i64 (o 6), .int .i64 (o 7)] : Array Value) = xs at *
  have hs : (sizeOf 3).run Try.prog w = .ok 1 w := by simp [go_sem]
  simp [Instr.index, run_underlying Try.underlying22, asIntOf, hi, hs, hx, go_sem]

set_option maxRecDepth 100000 in
set_option maxHeartbeats 4000000 in
theorem rright_any (o k : Nat → Int) (l : List Vl) (hl : l.length ≤ maxLen) (A : Option Addr) (c : Nat) (w : World) (hA : Vls w A l) :
    Calls Try.prog 14 #[pv o k A l.length c] w fun e w' => e = .returned (.bool (rightP o k l)) ∧ Below w.heap.size w w' := by
  have HA := Lib.hid (hA.below (Bx.box_below w (po o k A l.length c)))
  have K := Lib.hid (Bx.Blk.new w (pc o k A l.length c) 25)
  have bel := Lib.hid (Bx.box_below w (po o k A l.length c))
  have hl' : l.length ≤ 9223372036854775807 := hl
  clear hA
  by_cases hlen : 64 < l.length
  · have HR := Lib.hid (right_long (o := o) (k := k) hlen)
    go_enter Try.func14, Try.ntmps14
    go_wp2
    go_ret
    exact ⟨by rw [HR.out]; rfl, bel.out⟩
  have H64 := Lib.hid (show l.length ≤ 64 by omega)
  go_enter Try.func14, Try.ntmps14
  go_wp2
  generalize w.alloc (po o k A l.length c) = W0 at *
  go_loopw [3, 5, 15] (fun s _ ix wr => ∃ i : Nat, i ≤ l.length ∧ ix = .int .i64 i ∧ s = .int .i64 (lastV l i) ∧ Aside (∀ j, j < i → okN l j = true) ∧ Aside (Below W0.heap.size W0 wr)) (fun _ _ ix _ => l.length - (intOf ix).toNat)
  case atStart => exact ⟨0, Nat.zero_le _, rfl, rfl, fun j h => absurd h (Nat.not_lt_zero j), Below.refl _ _⟩
  case round =>
    obtain ⟨i, hi, rfl, rfl, HE, HB⟩ := hrel
    by_cases hlt : i < l.length
    · obtain ⟨b, q, rfl, _, c0, c1, c2⟩ := (HA.out.below HB.out).at hlt
      obtain ⟨d0, d1, d2⟩ := (Bx.Blk.new wr (vc l[i]) 38).all3
      have B2 := Lib.hid (Bx.bel_box HB.out (vo l[i]))
      have B3 := Lib.hid (Bx.then_below bel.out B2.out)
      have HL := Lib.hid (last_next hlt)
      have HOK := Lib.hid (okN_last hlt HE.out)
      have HRF := Lib.hid (fun h => right_bad_vl (o := o) (k := k) hlt h)
      have HNX := Lib.hid (show okN l i = true → ∀ j, j < i + 1 → okN l j = true from fun h j hj => by
        by_cases e : j = i
        · rw [e]; exact h
        · exact HE.out j (by omega))
      generalize okN l i = ok at *
      generalize lastV l i = last at *
      generalize l[i] = x at *
      obtain ⟨x1, x2, x3⟩ := x
      simp only at c0 c1 c2 d0 d1 d2 HOK HL B2 B3
      by_cases h0 : x1 ≤ last
      · have HF := Lib.hid (HRF.out (by rw [HOK.out, decide_eq_false (by omega)]; rfl))
        clear HOK HRF HNX
        go_wp2
        go_ret
        exact ⟨by rw [HF.out]; rfl, B3.out⟩
      have g0 : last < x1 := by omega
      clear h0
      by_cases h1 : 4094 < x1
      · have HF := Lib.hid (HRF.out (by rw [HOK.out, decide_eq_false (by omega)]; rfl))
        clear HOK HRF HNX
        go_wp2
        go_ret
        exact ⟨by rw [HF.out]; rfl, B3.out⟩
      have g1 : x1 ≤ 4094 := by omega
      clear h1
      by_cases h2 : x2 < 0
      · have HF := Lib.hid (HRF.out (by rw [HOK.out, decide_eq_false (by omega)]; rfl))
        clear HOK HRF HNX
        go_wp2
        go_ret
        exact ⟨by rw [HF.out]; rfl, B3.out⟩
      have g2 : 0 ≤ x2 := by omega
      clear h2
      by_cases h3 : 255 < x2
      · have HF := Lib.hid (HRF.out (by rw [HOK.out, decide_eq_false (by omega)]; rfl))
        clear HOK HRF HNX
        go_wp2
        go_ret
        exact ⟨by rw [HF.out]; rfl, B3.out⟩
      have g3 : x2 ≤ 255 := by omega
      clear h3
      by_cases h4 : x3 < 0
      · have HF := Lib.hid (HRF.out (by rw [HOK.out, decide_eq_false (by omega)]; rfl))
        clear HOK HRF HNX
        go_wp2
        go_ret
        exact ⟨by rw [HF.out]; rfl, B3.out⟩
      have g4 : 0 ≤ x3 := by omega
      clear h4
      by_cases h5 : 255 < x3
      · have HF := Lib.hid (HRF.out (by rw [HOK.out, decide_eq_false (by omega)]; rfl))
        clear HOK HRF HNX
        go_wp2
        go_ret
        exact ⟨by rw [HF.out]; rfl, B3.out⟩
      have g5 : x3 ≤ 255 := by omega
      clear h5
      rw [decide_eq_true (by omega), Bool.true_and] at HOK
      by_cases h6 : bits BinOp.and IntKind.i64 x2 x3 = 0
      · have h7 : (bits BinOp.and IntKind.i64 x2 x3 == 0) = true := by simpa using h6
        have h8 : (bits BinOp.and IntKind.i64 x2 x3 != 0) = false := by simpa using h6
        have HE2 := Lib.hid (HNX.out (by rw [HOK.out, h7]))
        clear HOK HRF HNX
        go_wp2
        go_roundw
        case rel => exact ⟨i + 1, by omega, by go_num, by rw [HL.out], HE2.out, B2.out⟩
        case measure => simp [intOf]; omega
      · have h7 : (bits BinOp.and IntKind.i64 x2 x3 == 0) = false := by simpa using h6
        have h8 : (bits BinOp.and IntKind.i64 x2 x3 != 0) = true := by simpa using h6
        have HF := Lib.hid (HRF.out (by rw [HOK.out, h7]))
        clear HOK HRF HNX
        go_wp2
        go_ret
        exact ⟨by rw [HF.out]; rfl, B3.out⟩
    · obtain rfl : i = l.length := by omega
      have HP := Lib.hid (K.out.keep HB.out)
      have HW := Lib.hid (Bx.then_below bel.out HB.out)
      have HE1 := Lib.hid HE.out
      obtain ⟨p0, p1, p2, p3, p4, p5, p6, p7, -, -, -, -, -, -, -, -, -⟩ := HP.out.all17
      generalize lastV l l.length = last at *
      clear HE HB HA K bel
      go_wp2
      clear p0 p1 p2 p3 p4 p5 p6 p7
      generalize wr = W1 at *
      go_loopw [6, 7, 61] (fun _ _ ix wr => ∃ i : Nat, i ≤ 8 ∧ ix = .int .i64 i ∧ Aside (∀ j, j < i → portN o k j = true) ∧ Aside (Below W1.heap.size W1 wr)) (fun _ _ ix _ => 8 - (intOf ix).toNat)
      case atStart => exact ⟨0, Nat.zero_le _, rfl, fun j h => absurd h (Nat.not_lt_zero j), Below.refl _ _⟩
      case round =>
        obtain ⟨i, hi, rfl, HE, HB⟩ := hrel
        have HW2 := Lib.hid (Bx.then_below HW.out HB.out)
        by_cases hlt : i < 8
        · have p1 := (HP.out.keep HB.out).at (8 + i) (pc_take o k A l.length c hlt)
          have hix := index_own o i hlt wr
          have HOK := Lib.hid (portN_is o k i)
          have HRF := Lib.hid (fun h => right_bad_port (o := o) (k := k) (l := l) hlt h)
          have HNX := Lib.hid (show portN o k i = true → ∀ j, j < i + 1 → portN o k j = true from fun h j hj => by
            by_cases e : j = i
            · rw [e]; exact h
            · exact HE.out j (by omega))
          have hlt2 : (i : Int) < 8 := by omega
          have hin : ((i : Int)).toNat = i := by omega
          generalize portN o k i = ok at *
          generalize hoi : o i = oi at *
          generalize hki : k i = ki at *
          clear hoi hki
          by_cases h0 : oi < 1
          · have HF := Lib.hid (HRF.out (by rw [HOK.out, decide_eq_false (by omega)]))
            clear HOK HRF HNX
            go_wp2
            go_ret
            exact ⟨by rw [HF.out]; rfl, HW2.out⟩
          have g0 : 1 ≤ oi := by omega
          clear h0
          by_cases h1 : 4094 < oi
          · have HF := Lib.hid (HRF.out (by rw [HOK.out, decide_eq_false (by omega)]))
            clear HOK HRF HNX
            go_wp2
            go_ret
            exact ⟨by rw [HF.out]; rfl, HW2.out⟩
          have g1 : oi ≤ 4094 := by omega
          clear h1
          by_cases h2 : ki < 0
          · have HF := Lib.hid (HRF.out (by rw [HOK.out, decide_eq_false (by omega)]))
            clear HOK HRF HNX
            go_wp2
            go_ret
            exact ⟨by rw [HF.out]; rfl, HW2.out⟩
          have g2 : 0 ≤ ki := by omega
          clear h2
          by_cases h3 : 2 < ki
          · have HF := Lib.hid (HRF.out (by rw [HOK.out, decide_eq_false (by omega)]))
            clear HOK HRF HNX
            go_wp2
            go_ret
            exact ⟨by rw [HF.out]; rfl, HW2.out⟩
          have g3 : ki ≤ 2 := by omega
          clear h3
          have HE2 := Lib.hid (HNX.out (by rw [HOK.out, decide_eq_true (by omega)]))
          clear HOK HRF HNX
          go_wp2
          go_roundw
          case rel => exact ⟨i + 1, by omega, by go_num, HE2.out, HB.out⟩
          case measure => simp [intOf]; omega
        · obtain rfl : i = 8 := by omega
          have HF := Lib.hid (right_of H64.out HE1.out HE.out)
          go_wp2
          go_ret
          exact ⟨by rw [HF.out]; rfl, HW2.out⟩

end Mem
end Go.Proofs.Ytbighadkcmhplaa
