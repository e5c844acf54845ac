/-
  The law's own checks (awake): they hold in every world.
-/
import Derived.Test.YtkggphonoihidaaDoorPreD
namespace Go.Proofs.YtkggphonoihidaaDoor
open Go.RowKit
namespace Pre
open Oct

abbrev vA : Value := .agg #[.int .u64 1, .int .u64 99, .int .u64 9, .int .i64 9]
abbrev vB : Value := .agg #[.int .u64 2, .int .u64 0, .int .u64 0, .int .i64 0]

theorem bAB (w : World) : Calls Tryd.prog 11 #[vA, vB] w fun e w' => e = .returned (.bool true) ∧ Below w.heap.size w w' := better_any ⟨1, 99, 9, 9⟩ ⟨2, 0, 0, 0⟩ w
theorem bBA (w : World) : Calls Tryd.prog 11 #[vB, vA] w fun e w' => e = .returned (.bool false) ∧ Below w.heap.size w w' := better_any ⟨2, 0, 0, 0⟩ ⟨1, 99, 9, 9⟩ w
theorem bAA (w : World) : Calls Tryd.prog 11 #[vA, vA] w fun e w' => e = .returned (.bool false) ∧ Below w.heap.size w w' := better_any ⟨1, 99, 9, 9⟩ ⟨1, 99, 9, 9⟩ w

theorem Vs.three {w : World} {b : Nat} {x y z : Vc} (h : Bx.Blk w b [.int .u64 x.r, .int .u64 x.c, .int .u64 x.b, .int .i64 x.p, .int .u64 y.r, .int .u64 y.c, .int .u64 y.b, .int .i64 y.p, .int .u64 z.r, .int .u64 z.c, .int .u64 z.b, .int .i64 z.p]) : Vs w (some ⟨b, 0, none⟩) [x, y, z] := fun j v hv => by
  have hb := h.lt (by simp)
  match j, hv with
  | 0, hv => cases hv; exact ⟨b, 0, rfl, hb, h.at 0 rfl, h.at 1 rfl, h.at 2 rfl, h.at 3 rfl⟩
  | 1, hv => cases hv; exact ⟨b, 0, rfl, hb, h.at 4 rfl, h.at 5 rfl, h.at 6 rfl, h.at 7 rfl⟩
  | 2, hv => cases hv; exact ⟨b, 0, rfl, hb, h.at 8 rfl, h.at 9 rfl, h.at 10 rfl, h.at 11 rfl⟩

theorem l3 (b : Nat) (w : World) (h : Bx.Blk w b [.int .u64 2, .int .u64 0, .int .u64 0, .int .i64 0, .int .u64 1, .int .u64 99, .int .u64 9, .int .i64 9, .int .u64 1, .int .u64 99, .int .u64 9, .int .i64 9]) :
    Calls Tryd.prog 12 #[.slice (some ⟨b, 0, none⟩) 3 3] w fun e w' => e = .returned (.int .i64 1) ∧ Below w.heap.size w w' := by
  refine (least_any [⟨2, 0, 0, 0⟩, ⟨1, 99, 9, 9⟩, ⟨1, 99, 9, 9⟩] (by decide) (some ⟨b, 0, none⟩) 3 w (Vs.three h)).mono ?_
  rintro e w' ⟨⟨z, rfl, hz⟩, hb⟩
  refine ⟨?_, hb⟩
  rw [hz.uniq (z' := 1) (.inr ⟨1, rfl, _, rfl, ?_, ?_⟩)]
  · intro j y hy
    match j, hy with
    | 0, hy => cases hy; rfl
    | 1, hy => cases hy; rfl
    | 2, hy => cases hy; rfl
  · intro j y hj hy
    obtain rfl : j = 0 := by omega
    cases hy
    decide

theorem l0 (w : World) : Calls Tryd.prog 12 #[.slice none 0 0] w fun e w' => e = .returned (.int .i64 (-1)) ∧ Below w.heap.size w w' := by
  refine (least_any [] (by decide) none 0 w (Vs.nil _ _)).mono ?_
  rintro e w' ⟨⟨z, rfl, hz⟩, hb⟩
  exact ⟨by rw [hz.uniq (z' := -1) (.inl ⟨rfl, rfl⟩)], hb⟩

abbrev v5 : Value := .agg #[.int .u64 5, .int .u64 0, .int .u64 5, .int .i64 0]
abbrev vD : Value := .agg #[.int .u64 1, .int .u64 99, .int .u64 7, .int .i64 3]
theorem o5 (w : World) : Calls Tryd.prog 13 #[.int .u64 5] w fun e w' => e = .returned v5 ∧ Below w.heap.size w w' := own_any 5 w
theorem v104 (w : World) : Calls Tryd.prog 14 #[vA, .int .u64 5] w fun e w' => e = .returned (.agg #[.int .u64 1, .int .u64 104, .int .u64 9, .int .i64 9]) ∧ Below w.heap.size w w' := via_any ⟨1, 99, 9, 9⟩ 5 w
theorem vMost (w : World) : Calls Tryd.prog 14 #[vA, .int .u64 1099511627776] w fun e w' => e = .returned (.agg #[.int .u64 1, .int .u64 4294967295, .int .u64 9, .int .i64 9]) ∧ Below w.heap.size w w' := by
  refine (via_any ⟨1, 99, 9, 9⟩ 1099511627776 w).mono ?_
  rintro e w' ⟨rfl, hb⟩
  exact ⟨by simp [viaN], hb⟩
theorem d73 (w : World) : Calls Tryd.prog 15 #[vA, .int .u64 7, .int .i64 3] w fun e w' => e = .returned vD ∧ Below w.heap.size w w' := des_any ⟨1, 99, 9, 9⟩ 7 3 w
theorem t255 (w : World) : Calls Tryd.prog 16 #[.agg #[.int .i64 255, .int .i64 0, .int .i64 0, .int .i64 0]] w fun e w' => e = .returned (.agg #[.int .i64 255, .int .i64 0, .int .i64 0, .int .i64 0]) ∧ Below w.heap.size w w' := older_any ⟨255, 0, 0, 0⟩ (by decide) w
theorem t0 (w : World) : Calls Tryd.prog 16 #[.agg #[.int .i64 0, .int .i64 0, .int .i64 0, .int .i64 0]] w fun e w' => e = .returned (.agg #[.int .i64 1, .int .i64 0, .int .i64 0, .int .i64 0]) ∧ Below w.heap.size w w' := older_any ⟨0, 0, 0, 0⟩ (by decide) w

theorem q5 (w : World) : (binOp .eql 30 v5 v5).run Tryd.prog w = .ok (.bool true) w := by
  have := eql_at 5 0 5 0 5 0 5 0 w
  rw [decide_eq_true rfl] at this
  exact this
theorem qD (w : World) : (binOp .eql 30 vD vD).run Tryd.prog w = .ok (.bool true) w := by
  have := eql_at 1 99 7 3 1 99 7 3 w
  rw [decide_eq_true rfl] at this
  exact this

set_option maxRecDepth 20000 in
set_option maxHeartbeats 8000000 in
theorem awake_any (w : World) : Calls Tryd.prog 4 #[] w fun e w' => e = .returned (.bool true) ∧ Below w.heap.size w w' := by
  have bel := Lib.hid (Bx.bel_box (Bx.box_below w (.cells #[.int .u64 1, .int .u64 99, .int .u64 9, .int .i64 9] 30)) (.cells #[.int .u64 2, .int .u64 0, .int .u64 0, .int .i64 0] 30))
  have H1 := Lib.hid bAB
  have H2 := Lib.hid bBA
  have H3 := Lib.hid bAA
  have H4 := Lib.hid l3
  have H5 := Lib.hid l0
  have H6 := Lib.hid o5
  have H7 := Lib.hid v104
  have H8 := Lib.hid vMost
  have H9 := Lib.hid d73
  have H10 := Lib.hid t255
  have H11 := Lib.hid t0
  have k1 : ∀ w, (Instr.field 30 (.agg #[.int .u64 1, .int .u64 104, .int .u64 9, .int .i64 9]) 1).run Tryd.prog w = .ok (.int .u64 104) w := fun _ => by kernel_rfl
  have k2 : ∀ w, (Instr.field 30 (.agg #[.int .u64 1, .int .u64 4294967295, .int .u64 9, .int .i64 9]) 1).run Tryd.prog w = .ok (.int .u64 4294967295) w := fun _ => by kernel_rfl
  have k3 : ∀ w, (Instr.field 24 (.agg #[.int .i64 255, .int .i64 0, .int .i64 0, .int .i64 0]) 0).run Tryd.prog w = .ok (.int .i64 255) w := fun _ => by kernel_rfl
  have k4 : ∀ w, (Instr.field 24 (.agg #[.int .i64 1, .int .i64 0, .int .i64 0, .int .i64 0]) 0).run Tryd.prog w = .ok (.int .i64 1) w := fun _ => by kernel_rfl
  have e1 := q5
  have e2 := qD
  have g1 : ∀ (op : BinOp) (a b : Operand) (w : World), Sem.run Tryd.prog (eqGuard op 30 a b v5 v5) w = .ok () w := fun op a b w => guard_at op a b 5 0 5 0 5 0 5 0 w
  have g2 : ∀ (op : BinOp) (a b : Operand) (w : World), Sem.run Tryd.prog (eqGuard op 30 a b vD vD) w = .ok () w := fun op a b w => guard_at op a b 1 99 7 3 1 99 7 3 w
  have X0 : Hid (Bx.Blk ((w.alloc (.cells #[.int .u64 1, .int .u64 99, .int .u64 9, .int .i64 9] 30)).alloc (.cells #[.int .u64 2, .int .u64 0, .int .u64 0, .int .i64 0] 30)) w.heap.size [.int .u64 1, .int .u64 99, .int .u64 9, .int .i64 9]) := Lib.hid ((Bx.Blk.new w [.int .u64 1, .int .u64 99, .int .u64 9, .int .i64 9] 30).more _)
  have Y0 : Hid (Bx.Blk ((w.alloc (.cells #[.int .u64 1, .int .u64 99, .int .u64 9, .int .i64 9] 30)).alloc (.cells #[.int .u64 2, .int .u64 0, .int .u64 0, .int .i64 0] 30)) (w.heap.size + 1) [.int .u64 2, .int .u64 0, .int .u64 0, .int .i64 0]) := Lib.hid (Bx.Blk.new_at [.int .u64 2, .int .u64 0, .int .u64 0, .int .i64 0] 30 (by simp))
  have B0 := bel
  clear bel
  go_enter Tryd.func4, Tryd.ntmps4
  go_wp2_with fail
  refine (H1.out _).mono ?_; rintro e w1 ⟨rfl, hb⟩
  have X1 := Lib.hid (X0.out.keep hb)
  have Y1 := Lib.hid (Y0.out.keep hb)
  have B1 := Lib.hid (Bx.then_below B0.out hb)
  clear hb X0 Y0 B0
  obtain ⟨a0, a1, a2, a3⟩ := X1.out.all4
  obtain ⟨b0, b1, b2, b3⟩ := Y1.out.all4
  go_wp2_with fail
  refine (H2.out _).mono ?_; rintro e w2 ⟨rfl, hb⟩
  have X2 := Lib.hid (X1.out.keep hb)
  have Y2 := Lib.hid (Y1.out.keep hb)
  have B2 := Lib.hid (Bx.then_below B1.out hb)
  clear hb X1 Y1 B1 a0 a1 a2 a3 b0 b1 b2 b3
  obtain ⟨a0, a1, a2, a3⟩ := X2.out.all4
  obtain ⟨b0, b1, b2, b3⟩ := Y2.out.all4
  go_wp2_with fail
  refine (H3.out _).mono ?_; rintro e w3 ⟨rfl, hb⟩
  have X3 := Lib.hid (X2.out.keep hb)
  have Y3 := Lib.hid (Y2.out.keep hb)
  have B3 := Lib.hid (Bx.then_below B2.out hb)
  clear hb X2 Y2 B2 a0 a1 a2 a3 b0 b1 b2 b3
  obtain ⟨a0, a1, a2, a3⟩ := X3.out.all4
  obtain ⟨b0, b1, b2, b3⟩ := Y3.out.all4
  go_wp2_with fail
  have X3b := Lib.hid (X3.out.more (.cells #[.int .u64 2, .int .u64 0, .int .u64 0, .int .i64 0, .int .u64 1, .int .u64 99, .int .u64 9, .int .i64 9, .int .u64 1, .int .u64 99, .int .u64 9, .int .i64 9] 30))
  have Y3b := Lib.hid (Y3.out.more (.cells #[.int .u64 2, .int .u64 0, .int .u64 0, .int .i64 0, .int .u64 1, .int .u64 99, .int .u64 9, .int .i64 9, .int .u64 1, .int .u64 99, .int .u64 9, .int .i64 9] 30))
  have B3b := Lib.hid (Bx.bel_box B3.out (.cells #[.int .u64 2, .int .u64 0, .int .u64 0, .int .i64 0, .int .u64 1, .int .u64 99, .int .u64 9, .int .i64 9, .int .u64 1, .int .u64 99, .int .u64 9, .int .i64 9] 30))
  refine (H4.out _ _ (Bx.Blk.new w3 [.int .u64 2, .int .u64 0, .int .u64 0, .int .i64 0, .int .u64 1, .int .u64 99, .int .u64 9, .int .i64 9, .int .u64 1, .int .u64 99, .int .u64 9, .int .i64 9] 30)).mono ?_; rintro e w4 ⟨rfl, hb⟩
  have X4 := Lib.hid (X3b.out.keep hb)
  have Y4 := Lib.hid (Y3b.out.keep hb)
  have B4 := Lib.hid (Bx.then_below B3b.out hb)
  clear hb X3 Y3 B3 X3b Y3b B3b a0 a1 a2 a3 b0 b1 b2 b3
  obtain ⟨a0, a1, a2, a3⟩ := X4.out.all4
  obtain ⟨b0, b1, b2, b3⟩ := Y4.out.all4
  go_wp2_with fail
  refine (H5.out _).mono ?_; rintro e w5 ⟨rfl, hb⟩
  have X5 := Lib.hid (X4.out.keep hb)
  have Y5 := Lib.hid (Y4.out.keep hb)
  have B5 := Lib.hid (Bx.then_below B4.out hb)
  clear hb X4 Y4 B4 a0 a1 a2 a3 b0 b1 b2 b3
  obtain ⟨a0, a1, a2, a3⟩ := X5.out.all4
  obtain ⟨b0, b1, b2, b3⟩ := Y5.out.all4
  go_wp2_with fail
  refine (H6.out _).mono ?_; rintro e w6 ⟨rfl, hb⟩
  have X6 := Lib.hid (X5.out.keep hb)
  have Y6 := Lib.hid (Y5.out.keep hb)
  have B6 := Lib.hid (Bx.then_below B5.out hb)
  clear hb X5 Y5 B5 a0 a1 a2 a3 b0 b1 b2 b3
  obtain ⟨a0, a1, a2, a3⟩ := X6.out.all4
  obtain ⟨b0, b1, b2, b3⟩ := Y6.out.all4
  go_wp2_with fail
  refine (H7.out _).mono ?_; rintro e w7 ⟨rfl, hb⟩
  have X7 := Lib.hid (X6.out.keep hb)
  have Y7 := Lib.hid (Y6.out.keep hb)
  have B7 := Lib.hid (Bx.then_below B6.out hb)
  clear hb X6 Y6 B6 a0 a1 a2 a3 b0 b1 b2 b3
  obtain ⟨a0, a1, a2, a3⟩ := X7.out.all4
  obtain ⟨b0, b1, b2, b3⟩ := Y7.out.all4
  go_wp2_with fail
  refine (H8.out _).mono ?_; rintro e w8 ⟨rfl, hb⟩
  have X8 := Lib.hid (X7.out.keep hb)
  have Y8 := Lib.hid (Y7.out.keep hb)
  have B8 := Lib.hid (Bx.then_below B7.out hb)
  clear hb X7 Y7 B7 a0 a1 a2 a3 b0 b1 b2 b3
  obtain ⟨a0, a1, a2, a3⟩ := X8.out.all4
  obtain ⟨b0, b1, b2, b3⟩ := Y8.out.all4
  go_wp2_with fail
  refine (H9.out _).mono ?_; rintro e w9 ⟨rfl, hb⟩
  have X9 := Lib.hid (X8.out.keep hb)
  have Y9 := Lib.hid (Y8.out.keep hb)
  have B9 := Lib.hid (Bx.then_below B8.out hb)
  clear hb X8 Y8 B8 a0 a1 a2 a3 b0 b1 b2 b3
  obtain ⟨a0, a1, a2, a3⟩ := X9.out.all4
  obtain ⟨b0, b1, b2, b3⟩ := Y9.out.all4
  go_wp2_with fail
  refine (H10.out _).mono ?_; rintro e w10 ⟨rfl, hb⟩
  have X10 := Lib.hid (X9.out.keep hb)
  have Y10 := Lib.hid (Y9.out.keep hb)
  have B10 := Lib.hid (Bx.then_below B9.out hb)
  clear hb X9 Y9 B9 a0 a1 a2 a3 b0 b1 b2 b3
  obtain ⟨a0, a1, a2, a3⟩ := X10.out.all4
  obtain ⟨b0, b1, b2, b3⟩ := Y10.out.all4
  go_wp2_with fail
  refine (H11.out _).mono ?_; rintro e w11 ⟨rfl, hb⟩
  have X11 := Lib.hid (X10.out.keep hb)
  have Y11 := Lib.hid (Y10.out.keep hb)
  have B11 := Lib.hid (Bx.then_below B10.out hb)
  clear hb X10 Y10 B10 a0 a1 a2 a3 b0 b1 b2 b3
  obtain ⟨a0, a1, a2, a3⟩ := X11.out.all4
  obtain ⟨b0, b1, b2, b3⟩ := Y11.out.all4
  go_wp2
  go_ret
  exact ⟨rfl, B11.out⟩

end Pre
end Go.Proofs.YtkggphonoihidaaDoor
