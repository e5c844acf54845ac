/-
  slices.insertionSortCmpFunc at vectors.
-/
import Derived.Test.YtkggphonoihidaaDoorPreRow
namespace Go.Proofs.YtkggphonoihidaaDoor
open Go.RowKit
namespace Pre
open Oct

/-- The places a to b of the row stand in order, what lay there lies there yet; nothing else has changed. -/
def SrtG (a b g : Nat) (l : List Vc) (w : World) (e : Ending) (w' : World) : Prop :=
  e = .returned (.tuple #[]) ∧ ∃ l', Srt.Moved a b l l' ∧ Srt.Inc ltV a b l' ∧ Row w' g l' ∧ Below g w w'

theorem Row.lt {w : World} {g : Nat} {l : List Vc} (h : Row w g l) : g ≤ w.heap.size := Nat.le_of_lt h.2.1

set_option maxRecDepth 20000 in
set_option maxHeartbeats 8000000 in
theorem insert_any (l : List Vc) (hl : l.length ≤ 100000) (g a b c : Nat) (hab : a ≤ b) (hb : b ≤ l.length) (w : World) (hR : Row w g l) :
    Calls Tryd.prog 33 #[.slice (some ⟨g, 0, none⟩) l.length c, .int .i64 a, .int .i64 b, cmpF] w (SrtG a b g l w) := by
  have HR := Lib.hid hR
  have HC := Lib.hid order_any
  have HQ := Lib.hid (show a ≤ b ∧ b ≤ l.length ∧ l.length ≤ 100000 from ⟨hab, hb, hl⟩)
  clear hR hl hab hb
  obtain ⟨N, hN⟩ : ∃ N, N = l.length := ⟨_, rfl⟩
  rw [← hN]
  have HN := Lib.hid hN
  clear hN
  have eg : ∀ args w, (callFunc 19 args).run Tryd.prog w = .ok (.enter 19 args) w := enters_of Tryd.func19 (by kernel_rfl) rfl
  obtain ⟨a1, ha1⟩ : ∃ a1, a1 = a + 1 := ⟨_, rfl⟩
  have e2 : (a : Int) + 1 = a1 := by omega
  have e1 := wrap_small (a := a1) (by have := HQ.out; omega)
  have HA1 := Lib.hid ha1
  clear ha1
  go_enter Tryd.func33, Tryd.ntmps33
  go_wp2
  go_loopw [8, 9] (fun vi _ wr => ∃ (i : Nat) (l' : List Vc), vi = .int .i64 i ∧ Aside (a + 1 ≤ i ∧ (i ≤ b ∨ i = a + 1)) ∧ Aside (Srt.Moved a b l l') ∧ Aside (Srt.Inc ltV a i l') ∧ Aside (Row wr g l') ∧ Aside (Below g w wr)) (fun vi _ _ => b + 1 - (intOf vi).toNat)
  case atStart => exact ⟨a1, l, rfl, by rw [HA1.out]; exact ⟨Nat.le_refl _, .inr rfl⟩, Srt.Moved.refl _ _ _, Srt.Inc.one _ _ (by rw [HA1.out]; exact Nat.le_refl _) _, HR.out, Below.refl _ _⟩
  case round =>
    obtain ⟨i, l', rfl, HI, HM, HS, HW, HB⟩ := hrel
    by_cases hlt : i < b
    · go_wp2
      go_loopw [9] (fun vj wr => ∃ (j : Nat) (l' : List Vc), vj = .int .i64 j ∧ Aside (a ≤ j ∧ j ≤ i) ∧ Aside (Srt.Moved a b l l') ∧ Aside (Srt.Slot ltV a i j l') ∧ Aside (Row wr g l') ∧ Aside (Below g w wr)) (fun vj _ => (intOf vj).toNat)
      case atStart => exact ⟨i, l', rfl, ⟨by have := HI.out; omega, Nat.le_refl _⟩, HM.out, Srt.Slot.start HS.out, HW.out, HB.out⟩
      case round =>
        obtain ⟨j, l2, rfl, HJ, HM2, HS2, HW2, HB2⟩ := hrel
        by_cases hj : a < j
        · obtain ⟨k, hk⟩ : ∃ k, j = k + 1 := ⟨j - 1, by have := HJ.out; omega⟩
          have HLL := Lib.hid (show l2.length = N by rw [HM2.out.len]; exact HN.out.symm)
          have HJN := Lib.hid (show j < N ∧ N ≤ 100000 by have := HJ.out; have := HQ.out; have := HN.out; omega)
          have hj1 : j < l2.length := by rw [HLL.out]; exact HJN.out.1
          have hk1 : k < l2.length := by omega
          obtain ⟨⟨c0, c1, c2, c3⟩, f0, f1, f2, f3⟩ := Row.at HW2.out hj1
          obtain ⟨⟨d0, d1, d2, d3⟩, g0, g1, g2, g3⟩ := Row.at HW2.out hk1
          have p1 : (j : Int) - 1 = k := by omega
          have p2 := wrap_small (a := k) (by have := HJN.out; omega)
          have p3 : (0 : Int) ≤ (j : Int) := by omega
          have p4 : (j : Int) < (N : Int) := by have := HJN.out; omega
          have p5 : (0 : Int) ≤ (k : Int) := by omega
          have p6 : (k : Int) < (N : Int) := by have := HJN.out; omega
          have p7 : (a : Int) < (j : Int) := by omega
          have p8 : ¬ j = k := by omega
          have HR3 := Lib.hid (fun W (h : Row W g l2) => Row.set (Row.set h hj1 l2[k]) (i := k) (by simpa using hk1) l2[j])
          have HM3 := Lib.hid (HM2.out.trans (Srt.Moved.swp (a := a) (b := b) l2 j k hj1 hk1 (by omega) (by have := HJ.out; omega) (by omega) (by have := HJ.out; omega)))
          have HS3 : Hid (ltV l2[j] l2[k] = true → Srt.Slot ltV a i k ((l2.set j l2[k]).set k l2[j])) := Lib.hid (by
            subst hk
            intro h
            exact Srt.Slot.step tot HS2.out (by have := HJ.out; omega) (by omega) hj1 h)
          have HS4 : Hid (ltV l2[j] l2[k] = false → Srt.Inc ltV a (i + 1) l2) := Lib.hid (by
            subst hk
            intro h
            exact Srt.Slot.stop tot HS2.out (by have := HJ.out; omega) hj1 h)
          have HKJ := Lib.hid (show k < j ∧ a ≤ k by omega)
          have HC' := Lib.hid (HC.out l2[j] l2[k])
          have HCE := Lib.hid (fun W (h : Row W g l2) => Row.at h hj1)
          have HDE := Lib.hid (fun W (h : Row W g l2) => Row.at h hk1)
          have HRW := Lib.hid (fun W (h : Below wr.heap.size wr W) => Bx.Fre.keep HW2.out h)
          cases hx : ltV l2[j] l2[k] with
          | true =>
            have hz := ord_neg hx
            rw [hx] at HS3 HS4
            clear hx hk
            generalize (l2.set j l2[k]).set k l2[j] = l3 at *
            generalize l2[j] = x at *
            generalize l2[k] = y at *
            generalize ordV x y = z at *
            clear hj1 hk1
            obtain ⟨x1, x2, x3, x4⟩ := x
            obtain ⟨y1, y2, y3, y4⟩ := y
            simp only at c0 c1 c2 c3 d0 d1 d2 d3
            go_wp2_with fail
            go_region_held3 (fun w' => w'.cell? ⟨g, j * 4, none⟩ = some (.int .u64 x1) ∧ w'.cell? ⟨g, j * 4 + 1, none⟩ = some (.int .u64 x2) ∧ w'.cell? ⟨g, j * 4 + 2, none⟩ = some (.int .u64 x3) ∧ w'.cell? ⟨g, j * 4 + 3, none⟩ = some (.int .i64 x4) ∧ w'.cell? ⟨g, k * 4, none⟩ = some (.int .u64 y1) ∧ w'.cell? ⟨g, k * 4 + 1, none⟩ = some (.int .u64 y2) ∧ w'.cell? ⟨g, k * 4 + 2, none⟩ = some (.int .u64 y3) ∧ w'.cell? ⟨g, k * 4 + 3, none⟩ = some (.int .i64 y4))
              (first | go_keep | (go_split_ands; exact ⟨Bx.keep_cell (by assumption) (by assumption), Bx.keep_cell (by assumption) (by assumption), Bx.keep_cell (by assumption) (by assumption), Bx.keep_cell (by assumption) (by assumption), Bx.keep_cell (by assumption) (by assumption), Bx.keep_cell (by assumption) (by assumption), Bx.keep_cell (by assumption) (by assumption), Bx.keep_cell (by assumption) (by assumption)⟩))
              (first | (go_at_call 19; with_reducible refine (HC'.out _).mono ?_; rintro e w1 ⟨rfl, hb1⟩))
            have R2 := Lib.hid (HRW.out _ ((Below.refl _ _).drew.trans hb1))
            have B2 := Lib.hid (HB2.out.trans ((Below.refl g wr).drew.trans (hb1.mono (Row.lt HW2.out))))
            clear hb1 c0 c1 c2 c3 d0 d1 d2 d3 f0 f1 f2 f3 g0 g1 g2 g3 HRW HC'
            have HR4 := Lib.hid (HR3.out _ R2.out)
            have HB4 := Lib.hid (set_below (set_below B2.out (j * 4) (j * 4 + 1) (j * 4 + 2) (j * 4 + 3) (.int .u64 y1) (.int .u64 y2) (.int .u64 y3) (.int .i64 y4)) (k * 4) (k * 4 + 1) (k * 4 + 2) (k * 4 + 3) (.int .u64 x1) (.int .u64 x2) (.int .u64 x3) (.int .i64 x4))
            obtain ⟨⟨c0, c1, c2, c3⟩, f0, f1, f2, f3⟩ := HCE.out _ R2.out
            obtain ⟨⟨d0, d1, d2, d3⟩, g0, g1, g2, g3⟩ := HDE.out _ R2.out
            go_wp2
            go_region
            go_wp2
            go_roundw
            case rel => exact ⟨k, l3, rfl, (by have := HKJ.out; have := HJ.out; show _ ∧ _; omega), HM3.out, HS3.out (by trivial), HR4.out.drew, HB4.out.drew⟩
            case measure => have := HKJ.out; simp [intOf]; omega
          | false =>
            have hz := ord_not hx
            rw [hx] at HS3 HS4
            clear hx hk
            generalize (l2.set j l2[k]).set k l2[j] = l3 at *
            generalize l2[j] = x at *
            generalize l2[k] = y at *
            generalize ordV x y = z at *
            clear hj1 hk1
            obtain ⟨x1, x2, x3, x4⟩ := x
            obtain ⟨y1, y2, y3, y4⟩ := y
            simp only at c0 c1 c2 c3 d0 d1 d2 d3
            go_wp2_with fail
            go_region_held3 (fun w' => w'.cell? ⟨g, j * 4, none⟩ = some (.int .u64 x1) ∧ w'.cell? ⟨g, j * 4 + 1, none⟩ = some (.int .u64 x2) ∧ w'.cell? ⟨g, j * 4 + 2, none⟩ = some (.int .u64 x3) ∧ w'.cell? ⟨g, j * 4 + 3, none⟩ = some (.int .i64 x4) ∧ w'.cell? ⟨g, k * 4, none⟩ = some (.int .u64 y1) ∧ w'.cell? ⟨g, k * 4 + 1, none⟩ = some (.int .u64 y2) ∧ w'.cell? ⟨g, k * 4 + 2, none⟩ = some (.int .u64 y3) ∧ w'.cell? ⟨g, k * 4 + 3, none⟩ = some (.int .i64 y4))
              (first | go_keep | (go_split_ands; exact ⟨Bx.keep_cell (by assumption) (by assumption), Bx.keep_cell (by assumption) (by assumption), Bx.keep_cell (by assumption) (by assumption), Bx.keep_cell (by assumption) (by assumption), Bx.keep_cell (by assumption) (by assumption), Bx.keep_cell (by assumption) (by assumption), Bx.keep_cell (by assumption) (by assumption), Bx.keep_cell (by assumption) (by assumption)⟩))
              (first | (go_at_call 19; with_reducible refine (HC'.out _).mono ?_; rintro e w1 ⟨rfl, hb1⟩))
            have R2 := Lib.hid (HRW.out _ ((Below.refl _ _).drew.trans hb1))
            have B2 := Lib.hid (HB2.out.trans ((Below.refl g wr).drew.trans (hb1.mono (Row.lt HW2.out))))
            clear hb1 c0 c1 c2 c3 d0 d1 d2 d3 f0 f1 f2 f3 g0 g1 g2 g3 HRW HC'
            have q1 : i < 300000 := by have := HQ.out; omega
            go_wp2
            go_roundw
            case rel => exact ⟨i + 1, l2, by go_num, (by have := HI.out; show _ ∧ _; omega), HM2.out, HS4.out (by trivial), R2.out, B2.out⟩
            case measure => simp [intOf]; omega
        · obtain rfl : j = a := by have := HJ.out; omega
          have p7 : ¬ (j : Int) < (j : Int) := by omega
          have q1 : i < 300000 := by have := HQ.out; omega
          have HS4 := Lib.hid (Srt.Slot.stop0 HS2.out)
          go_wp2
          go_quiet (fail)
          go_wp2
          go_roundw
          case rel => exact ⟨i + 1, l2, by go_num, (by have := HI.out; show _ ∧ _; omega), HM2.out, HS4.out, (show Row (wr.drewN _) g l2 from HW2.out), below_drewN HB2.out _⟩
          case measure => simp [intOf]; omega
    · have HF : Hid (SrtG a b g l w (.returned (.tuple #[])) wr) := Lib.hid ⟨rfl, l', HM.out, (by have := HI.out; exact HS.out.sub (Nat.le_refl _) (by omega)), HW.out, HB.out⟩
      go_wp2
      exact bodyPost_ret (v := .tuple #[]) (by simp [results, Tryd.results33, go_sem]) rfl HF.out

end Pre
end Go.Proofs.YtkggphonoihidaaDoor
