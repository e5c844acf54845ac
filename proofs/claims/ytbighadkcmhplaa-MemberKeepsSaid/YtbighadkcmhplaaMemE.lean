/-
  What package member, and the document, take at any port.
-/
import Derived.Test.YtbighadkcmhplaaMemD
namespace Go.Proofs.Ytbighadkcmhplaa
open Go.RowKit
namespace Mem
open Oct Eth

theorem takes_any (o k : Nat → Int) (l : List Vl) (hl : l.length ≤ maxLen) (A : Option Addr) (c : Nat) (q : Int) (d s : Int) (g : Bool) (p v t : Int) (b : ByteArray) (w : World) (hA : Vls w A l) :
    Calls Try.prog 7 #[pv o k A l.length c, .int .i64 q, fr d s g p v t b] w fun e w' => e = .returned (.tuple #[.int .i64 (takV o k l q g v), .bool (takB o k l q g v)]) ∧ Below w.heap.size w w' := by
  by_cases hq : 0 ≤ q ∧ q < 8
  · obtain ⟨n, rfl⟩ : ∃ n : Nat, q = n := ⟨q.toNat, by omega⟩
    exact takes_in o k l hl A c n (by omega) d s g p v t b w hA
  · exact takes_out o k l A c q hq d s g p v t b w

theorem own_true {v : Int} (h : 0 < v) : ownF true v = true := by unfold ownF; simp [h]
theorem own_less {v : Int} (h : ¬ 0 < v) : ownF true v = false := by unfold ownF; simp; omega

set_option maxRecDepth 20000 in
set_option maxHeartbeats 4000000 in
theorem rtakes_in (o k : Nat → Int) (l : List Vl) (hl : l.length ≤ maxLen) (A : Option Addr) (c : Nat) (q : Nat) (hq : q < 8) (d s : Int) (g : Bool) (p v t : Int) (b : ByteArray) (w : World) (hA : Vls w A l) :
    Calls Try.prog 8 #[pv o k A l.length c, .int .i64 q, fr d s g p v t b] w fun e w' => e = .returned (.tuple #[.int .i64 (takV o k l q g v), .bool (takB o k l q g v)]) ∧ Below w.heap.size w w' := by
  have HF := Lib.hid (fun (w : World) n hA => rof_any o k l hl A c n w hA)
  have HV := Lib.hid (fun w => rvlan_any d s g p v t b (o q) w)
  simp only [vlan_vid] at HV
  have HP := Lib.hid (fun x w => Por.rhas_any x q w)
  have bel := Lib.hid (Bx.bel_box (Bx.box_below w (po o k A l.length c)) (fo d s g p v t b))
  have A1 := Lib.hid (hA.below bel.out)
  have P1 := Lib.hid ((Bx.Blk.new w (pc o k A l.length c) 25).more (fo d s g p v t b))
  have F1 := Lib.hid (Bx.Blk.new_at (W := w.alloc (po o k A l.length c)) (k := w.heap.size + 1) (fc d s g p v t b) 29 (by simp))
  have e1 : decide (0 ≤ (q : Int) ∧ (q : Int) < 8) = true := decide_eq_true (by omega)
  have hT : takB o k l q g v = (admF (k q) (ownF g v) && (decide (vidF (o q) g v ≤ 4094) && Por.hasZ (Por.low (ofV l (vidF (o q) g v))) q)) := by unfold takB; rw [e1, Bool.true_and]; rfl
  have hW : takV o k l q g v = if takB o k l q g v then vidF (o q) g v else 0 := rfl
  have HW := Lib.hid hW
  have HT := Lib.hid hT
  have hq2 : (q : Int) < 8 := by omega
  have hq3 : ((q : Int)).toNat = q := by omega
  clear hA hT hW e1
  generalize vidF (o q) g v = n at *
  have c1 := P1.out.at (8 + q) (pc_take o k A l.length c hq)
  have c0 := P1.out.at q (pc_own o k A l.length c hq)
  obtain ⟨f0, f1, f2, f3, f4, f5, f6⟩ := F1.out.all7
  go_enter Try.func8, Try.ntmps8
  cases g with
  | false =>
    have hr : ownF false v = false := rfl
    rw [hr] at HT
    by_cases hk : k q = 1
    · have HZ := Lib.hid (show takV o k l q false v = 0 ∧ takB o k l q false v = false from by
        have h : takB o k l q false v = false := by rw [HT.out, hk]; rfl
        exact ⟨by rw [HW.out, h]; rfl, h⟩)
      have hk1 : (k q == 1) = true := by simpa using hk
      clear HT HW HF HP HV P1 F1
      go_wp2
      go_ret2
      exact ⟨by rw [HZ.out.1, HZ.out.2]; rfl, bel.out⟩
    · have hk1 : (k q == 1) = false := by simpa using hk
      rw [show admF (k q) false = true by unfold admF; rw [if_neg hk]; split <;> rfl, Bool.true_and] at HT
      go_wp2
      replace bel := Lib.hid (Bx.bel_drewn bel.out)
      replace A1 := Lib.hid A1.out.drew
      replace P1 := Lib.hid P1.out.drew
      replace F1 := Lib.hid F1.out.drew
      clear c1
      go_region_held3 (fun w' => w'.cell? ⟨w.heap.size, q, none⟩ = some (.int .i64 (o q)) ∧ w'.cell? ⟨w.heap.size + 1, 0, none⟩ = some (.int .u64 d) ∧ w'.cell? ⟨w.heap.size + 1, 1, none⟩ = some (.int .u64 s) ∧ w'.cell? ⟨w.heap.size + 1, 2, none⟩ = some (.bool false) ∧ w'.cell? ⟨w.heap.size + 1, 3, none⟩ = some (.int .i64 p) ∧ w'.cell? ⟨w.heap.size + 1, 4, none⟩ = some (.int .i64 v) ∧ w'.cell? ⟨w.heap.size + 1, 5, none⟩ = some (.int .i64 t) ∧ w'.cell? ⟨w.heap.size + 1, 6, none⟩ = some (.string b))
        (first | (go_split_ands; refine ⟨Bx.keep_cell hb ?_, Bx.keep_cell hb ?_, Bx.keep_cell hb ?_, Bx.keep_cell hb ?_, Bx.keep_cell hb ?_, Bx.keep_cell hb ?_, Bx.keep_cell hb ?_, Bx.keep_cell hb ?_⟩ <;> with_reducible assumption) | (go_keep; done))
        (first | (go_at_call 24; (with_reducible refine (HV.out _).mono ?_); (rintro e w7 ⟨rfl, hb⟩); (replace bel := Lib.hid (Bx.then_below bel.out hb)); (replace A1 := Lib.hid (A1.out.below hb)); (replace P1 := Lib.hid (P1.out.keep hb))))
      clear HV F1 f0 f1 f2 f3 f4 f5 f6 c0
      by_cases hn : n ≤ 4094
      · rw [decide_eq_true hn, Bool.true_and] at HT
        have hn4 : decide (4094 < n) = false := decide_eq_false (by omega)
        have HF1 := Lib.hid (fun w h => HF.out w n h)
        have HP1 := Lib.hid (HP.out (ofV l n))
        clear HF HP
        generalize ofV l n = x at *
        cases hz : Por.hasZ (Por.low x) q with
        | false =>
          rw [hz] at HP1 HT
          have HZ := Lib.hid (show takV o k l q false v = 0 ∧ takB o k l q false v = false from ⟨by rw [HW.out, HT.out]; rfl, HT.out⟩)
          clear hz HT HW
          go_wp2_with (first | ((with_reducible refine load_at ?_ ?_ w.heap.size ?_ o k A l.length c ?_ ?_); (· rfl); (· (first | rfl | (rw [hn4]; rfl))); (· rfl); (· exact P1.out)))
          refine (HF1.out _ A1.out).mono ?_; rintro e w8 ⟨rfl, hb⟩
          replace bel := Lib.hid (Bx.then_below bel.out hb)
          clear hb
          go_wp2_with fail
          refine (HP1.out _).mono ?_; rintro e w9 ⟨rfl, rfl⟩
          go_wp2
          go_ret2
          exact ⟨by rw [HZ.out.1, HZ.out.2]; rfl, bel.out⟩
        | true =>
          rw [hz] at HP1 HT
          have HZ := Lib.hid (show takV o k l q false v = n ∧ takB o k l q false v = true from ⟨by rw [HW.out, HT.out]; rfl, HT.out⟩)
          clear hz HT HW
          go_wp2_with (first | ((with_reducible refine load_at ?_ ?_ w.heap.size ?_ o k A l.length c ?_ ?_); (· rfl); (· (first | rfl | (rw [hn4]; rfl))); (· rfl); (· exact P1.out)))
          refine (HF1.out _ A1.out).mono ?_; rintro e w8 ⟨rfl, hb⟩
          replace bel := Lib.hid (Bx.then_below bel.out hb)
          clear hb
          go_wp2_with fail
          refine (HP1.out _).mono ?_; rintro e w9 ⟨rfl, rfl⟩
          go_wp2
          go_ret2
          exact ⟨by rw [HZ.out.1, HZ.out.2]; rfl, bel.out⟩
      · rw [decide_eq_false hn, Bool.false_and] at HT
        have HZ := Lib.hid (show takV o k l q false v = 0 ∧ takB o k l q false v = false from ⟨by rw [HW.out, HT.out]; rfl, HT.out⟩)
        clear HT HW HF HP
        go_wp2
        go_ret2
        exact ⟨by rw [HZ.out.1, HZ.out.2]; rfl, bel.out⟩
  | true =>
    by_cases h0 : 0 < v
    · have hr := own_true h0
      rw [hr] at HT
      by_cases hk : k q = 2
      · have HZ := Lib.hid (show takV o k l q true v = 0 ∧ takB o k l q true v = false from by
          have h : takB o k l q true v = false := by rw [HT.out, hk]; rfl
          exact ⟨by rw [HW.out, h]; rfl, h⟩)
        have hk1 : (k q == 2) = true := by simpa using hk
        clear HT HW HF HP HV P1 F1
        go_wp2
        go_ret2
        exact ⟨by rw [HZ.out.1, HZ.out.2]; rfl, bel.out⟩
      · have hk1 : (k q == 2) = false := by simpa using hk
        rw [show admF (k q) true = true by unfold admF; split <;> simp_all, Bool.true_and] at HT
        go_wp2
        replace bel := Lib.hid (Bx.bel_drewn bel.out)
        replace A1 := Lib.hid A1.out.drew
        replace P1 := Lib.hid P1.out.drew
        replace F1 := Lib.hid F1.out.drew
        clear c1
        go_region_held3 (fun w' => w'.cell? ⟨w.heap.size, q, none⟩ = some (.int .i64 (o q)) ∧ w'.cell? ⟨w.heap.size + 1, 0, none⟩ = some (.int .u64 d) ∧ w'.cell? ⟨w.heap.size + 1, 1, none⟩ = some (.int .u64 s) ∧ w'.cell? ⟨w.heap.size + 1, 2, none⟩ = some (.bool true) ∧ w'.cell? ⟨w.heap.size + 1, 3, none⟩ = some (.int .i64 p) ∧ w'.cell? ⟨w.heap.size + 1, 4, none⟩ = some (.int .i64 v) ∧ w'.cell? ⟨w.heap.size + 1, 5, none⟩ = some (.int .i64 t) ∧ w'.cell? ⟨w.heap.size + 1, 6, none⟩ = some (.string b))
          (first | (go_split_ands; refine ⟨Bx.keep_cell hb ?_, Bx.keep_cell hb ?_, Bx.keep_cell hb ?_, Bx.keep_cell hb ?_, Bx.keep_cell hb ?_, Bx.keep_cell hb ?_, Bx.keep_cell hb ?_, Bx.keep_cell hb ?_⟩ <;> with_reducible assumption) | (go_keep; done))
          (first | (go_at_call 24; (with_reducible refine (HV.out _).mono ?_); (rintro e w7 ⟨rfl, hb⟩); (replace bel := Lib.hid (Bx.then_below bel.out hb)); (replace A1 := Lib.hid (A1.out.below hb)); (replace P1 := Lib.hid (P1.out.keep hb))))
        clear HV F1 f0 f1 f2 f3 f4 f5 f6 c0
        by_cases hn : n ≤ 4094
        · rw [decide_eq_true hn, Bool.true_and] at HT
          have hn4 : decide (4094 < n) = false := decide_eq_false (by omega)
          have HF1 := Lib.hid (fun w h => HF.out w n h)
          have HP1 := Lib.hid (HP.out (ofV l n))
          clear HF HP
          generalize ofV l n = x at *
          cases hz : Por.hasZ (Por.low x) q with
          | false =>
            rw [hz] at HP1 HT
            have HZ := Lib.hid (show takV o k l q true v = 0 ∧ takB o k l q true v = false from ⟨by rw [HW.out, HT.out]; rfl, HT.out⟩)
            clear hz HT HW
            go_wp2_with (first | ((with_reducible refine load_at ?_ ?_ w.heap.size ?_ o k A l.length c ?_ ?_); (· rfl); (· (first | rfl | (rw [hn4]; rfl))); (· rfl); (· exact P1.out)))
            refine (HF1.out _ A1.out).mono ?_; rintro e w8 ⟨rfl, hb⟩
            replace bel := Lib.hid (Bx.then_below bel.out hb)
            clear hb
            go_wp2_with fail
            refine (HP1.out _).mono ?_; rintro e w9 ⟨rfl, rfl⟩
            go_wp2
            go_ret2
            exact ⟨by rw [HZ.out.1, HZ.out.2]; rfl, bel.out⟩
          | true =>
            rw [hz] at HP1 HT
            have HZ := Lib.hid (show takV o k l q true v = n ∧ takB o k l q true v = true from ⟨by rw [HW.out, HT.out]; rfl, HT.out⟩)
            clear hz HT HW
            go_wp2_with (first | ((with_reducible refine load_at ?_ ?_ w.heap.size ?_ o k A l.length c ?_ ?_); (· rfl); (· (first | rfl | (rw [hn4]; rfl))); (· rfl); (· exact P1.out)))
            refine (HF1.out _ A1.out).mono ?_; rintro e w8 ⟨rfl, hb⟩
            replace bel := Lib.hid (Bx.then_below bel.out hb)
            clear hb
            go_wp2_with fail
            refine (HP1.out _).mono ?_; rintro e w9 ⟨rfl, rfl⟩
            go_wp2
            go_ret2
            exact ⟨by rw [HZ.out.1, HZ.out.2]; rfl, bel.out⟩
        · rw [decide_eq_false hn, Bool.false_and] at HT
          have HZ := Lib.hid (show takV o k l q true v = 0 ∧ takB o k l q true v = false from ⟨by rw [HW.out, HT.out]; rfl, HT.out⟩)
          clear HT HW HF HP
          go_wp2
          go_ret2
          exact ⟨by rw [HZ.out.1, HZ.out.2]; rfl, bel.out⟩
    · have hr := own_less h0
      rw [hr] at HT
      by_cases hk : k q = 1
      · have HZ := Lib.hid (show takV o k l q true v = 0 ∧ takB o k l q true v = false from by
          have h : takB o k l q true v = false := by rw [HT.out, hk]; rfl
          exact ⟨by rw [HW.out, h]; rfl, h⟩)
        have hk1 : (k q == 1) = true := by simpa using hk
        clear HT HW HF HP HV P1 F1
        go_wp2
        go_ret2
        exact ⟨by rw [HZ.out.1, HZ.out.2]; rfl, bel.out⟩
      · have hk1 : (k q == 1) = false := by simpa using hk
        rw [show admF (k q) false = true by unfold admF; rw [if_neg hk]; split <;> rfl, Bool.true_and] at HT
        go_wp2
        replace bel := Lib.hid (Bx.bel_drewn bel.out)
        replace A1 := Lib.hid A1.out.drew
        replace P1 := Lib.hid P1.out.drew
        replace F1 := Lib.hid F1.out.drew
        clear c1
        go_region_held3 (fun w' => w'.cell? ⟨w.heap.size, q, none⟩ = some (.int .i64 (o q)) ∧ w'.cell? ⟨w.heap.size + 1, 0, none⟩ = some (.int .u64 d) ∧ w'.cell? ⟨w.heap.size + 1, 1, none⟩ = some (.int .u64 s) ∧ w'.cell? ⟨w.heap.size + 1, 2, none⟩ = some (.bool true) ∧ w'.cell? ⟨w.heap.size + 1, 3, none⟩ = some (.int .i64 p) ∧ w'.cell? ⟨w.heap.size + 1, 4, none⟩ = some (.int .i64 v) ∧ w'.cell? ⟨w.heap.size + 1, 5, none⟩ = some (.int .i64 t) ∧ w'.cell? ⟨w.heap.size + 1, 6, none⟩ = some (.string b))
          (first | (go_split_ands; refine ⟨Bx.keep_cell hb ?_, Bx.keep_cell hb ?_, Bx.keep_cell hb ?_, Bx.keep_cell hb ?_, Bx.keep_cell hb ?_, Bx.keep_cell hb ?_, Bx.keep_cell hb ?_, Bx.keep_cell hb ?_⟩ <;> with_reducible assumption) | (go_keep; done))
          (first | (go_at_call 24; (with_reducible refine (HV.out _).mono ?_); (rintro e w7 ⟨rfl, hb⟩); (replace bel := Lib.hid (Bx.then_below bel.out hb)); (replace A1 := Lib.hid (A1.out.below hb)); (replace P1 := Lib.hid (P1.out.keep hb))))
        clear HV F1 f0 f1 f2 f3 f4 f5 f6 c0
        by_cases hn : n ≤ 4094
        · rw [decide_eq_true hn, Bool.true_and] at HT
          have hn4 : decide (4094 < n) = false := decide_eq_false (by omega)
          have HF1 := Lib.hid (fun w h => HF.out w n h)
          have HP1 := Lib.hid (HP.out (ofV l n))
          clear HF HP
          generalize ofV l n = x at *
          cases hz : Por.hasZ (Por.low x) q with
          | false =>
            rw [hz] at HP1 HT
            have HZ := Lib.hid (show takV o k l q true v = 0 ∧ takB o k l q true v = false from ⟨by rw [HW.out, HT.out]; rfl, HT.out⟩)
            clear hz HT HW
            go_wp2_with (first | ((with_reducible refine load_at ?_ ?_ w.heap.size ?_ o k A l.length c ?_ ?_); (· rfl); (· (first | rfl | (rw [hn4]; rfl))); (· rfl); (· exact P1.out)))
            refine (HF1.out _ A1.out).mono ?_; rintro e w8 ⟨rfl, hb⟩
            replace bel := Lib.hid (Bx.then_below bel.out hb)
            clear hb
            go_wp2_with fail
            refine (HP1.out _).mono ?_; rintro e w9 ⟨rfl, rfl⟩
            go_wp2
            go_ret2
            exact ⟨by rw [HZ.out.1, HZ.out.2]; rfl, bel.out⟩
          | true =>
            rw [hz] at HP1 HT
            have HZ := Lib.hid (show takV o k l q true v = n ∧ takB o k l q true v = true from ⟨by rw [HW.out, HT.out]; rfl, HT.out⟩)
            clear hz HT HW
            go_wp2_with (first | ((with_reducible refine load_at ?_ ?_ w.heap.size ?_ o k A l.length c ?_ ?_); (· rfl); (· (first | rfl | (rw [hn4]; rfl))); (· rfl); (· exact P1.out)))
            refine (HF1.out _ A1.out).mono ?_; rintro e w8 ⟨rfl, hb⟩
            replace bel := Lib.hid (Bx.then_below bel.out hb)
            clear hb
            go_wp2_with fail
            refine (HP1.out _).mono ?_; rintro e w9 ⟨rfl, rfl⟩
            go_wp2
            go_ret2
            exact ⟨by rw [HZ.out.1, HZ.out.2]; rfl, bel.out⟩
        · rw [decide_eq_false hn, Bool.false_and] at HT
          have HZ := Lib.hid (show takV o k l q true v = 0 ∧ takB o k l q true v = false from ⟨by rw [HW.out, HT.out]; rfl, HT.out⟩)
          clear HT HW HF HP
          go_wp2
          go_ret2
          exact ⟨by rw [HZ.out.1, HZ.out.2]; rfl, bel.out⟩

set_option maxRecDepth 20000 in
theorem rtakes_out (o k : Nat → Int) (l : List Vl) (A : Option Addr) (c : Nat) (q : Int) (hq : ¬ (0 ≤ q ∧ q < 8)) (d s : Int) (g : Bool) (p v t : Int) (b : ByteArray) (w : World) :
    Calls Try.prog 8 #[pv o k A l.length c, .int .i64 q, fr d s g p v t b] w fun e w' => e = .returned (.tuple #[.int .i64 (takV o k l q g v), .bool (takB o k l q g v)]) ∧ Below w.heap.size w w' := by
  have bel := Lib.hid (Bx.bel_box (Bx.box_below w (po o k A l.length c)) (fo d s g p v t b))
  have e2 : takB o k l q g v = false := by unfold takB; rw [decide_eq_false hq, Bool.false_and]
  have HZ := Lib.hid (show takV o k l q g v = 0 ∧ takB o k l q g v = false from ⟨by unfold takV; rw [e2]; rfl, e2⟩)
  clear e2
  by_cases h0 : q < 0
  · go_enter Try.func8, Try.ntmps8
    go_wp2
    go_ret2
    exact ⟨by rw [HZ.out.1, HZ.out.2]; rfl, bel.out⟩
  · have h8 : 8 ≤ q := by omega
    go_enter Try.func8, Try.ntmps8
    go_wp2
    go_ret2
    exact ⟨by rw [HZ.out.1, HZ.out.2]; rfl, bel.out⟩

theorem rtakes_any (o k : Nat → Int) (l : List Vl) (hl : l.length ≤ maxLen) (A : Option Addr) (c : Nat) (q : Int) (d s : Int) (g : Bool) (p v t : Int) (b : ByteArray) (w : World) (hA : Vls w A l) :
    Calls Try.prog 8 #[pv o k A l.length c, .int .i64 q, fr d s g p v t b] w fun e w' => e = .returned (.tuple #[.int .i64 (takV o k l q g v), .bool (takB o k l q g v)]) ∧ Below w.heap.size w w' := by
  by_cases hq : 0 ≤ q ∧ q < 8
  · obtain ⟨n, rfl⟩ : ∃ n : Nat, q = n := ⟨q.toNat, by omega⟩
    exact rtakes_in o k l hl A c n (by omega) d s g p v t b w hA
  · exact rtakes_out o k l A c q hq d s g p v t b w

end Mem
end Go.Proofs.Ytbighadkcmhplaa
