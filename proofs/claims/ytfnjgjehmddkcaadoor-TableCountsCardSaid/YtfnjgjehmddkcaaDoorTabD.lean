/-
  Flush and Forget: the entries that stay, in a row of the call's own; New.
-/
import Derived.Test.YtfnjgjehmddkcaaDoorTabC
namespace Go.Proofs.YtfnjgjehmddkcaaDoor
open Go.RowKit
namespace Tab
open Oct

set_option maxRecDepth 20000 in
set_option maxHeartbeats 4000000 in
theorem flush_any (most long : Int) (l : List En) (hl : l.length ≤ 100000) (A : Option Addr) (c : Nat) (x : Int) (w : World) (hA : Ents w A l) :
    Calls Tryd.prog 19 #[tv most long A l.length c, .int .i64 x] w (KeptG most long (l.filter (flushE (Por.low x))) ((l.length : Int) - (l.filter (flushE (Por.low x))).length) w) := by
  have HK := Lib.hid (fun w hA => kept_any most long l hl A c 44 (.int .i64 x) (flushE (Por.low x)) (fun e _ w => plack_any x e w) (enters_of Tryd.func44 (by kernel_rfl) rfl) w hA)
  generalize l.filter (flushE (Por.low x)) = o at *
  have bel := Lib.hid (Bx.bel_box (Bx.box_below w (to most long A l.length c)) (to 0 0 none 0 0))
  have A1 := Lib.hid (hA.below bel.out)
  have R : Hid (Fre ((w.alloc (to most long A l.length c)).alloc (to 0 0 none 0 0)) (w.heap.size + 1) [.int .i64 0, .int .i64 0, .slice none 0 0]) := Lib.hid (by
    have := Fre.new (w.alloc (to most long A l.length c)) [.int .i64 0, .int .i64 0, .slice none 0 0] 24
    rwa [show (w.alloc (to most long A l.length c)).heap.size = w.heap.size + 1 by simp] at this)
  have hsz := Lib.hid (show ((w.alloc (to most long A l.length c)).alloc (to 0 0 none 0 0)).heap.size = w.heap.size + 2 by simp)
  have hle : w.heap.size ≤ w.heap.size + 1 := Nat.le_succ _
  clear hA
  go_enter Tryd.func19, Tryd.ntmps19
  go_wp2_with fail
  refine (HK.out _ A1.out).mono ?_; rintro e w1 ⟨B, cc, rfl, hown, hb1⟩
  have bel2 := Lib.hid (Bx.then_below bel.out hb1)
  have R1 := Lib.hid (R.out.keep hb1)
  have HW := Lib.hid hown
  obtain ⟨⟨r0, r1, r2⟩, s0, s1, s2⟩ := R1.out.all3
  rw [hsz.out] at HW
  have HB4 := Lib.hid (((bel2.out.setCell (p := ⟨w.heap.size + 1, 0, none⟩) hle (.int .i64 most)).setCell (p := ⟨w.heap.size + 1, 1, none⟩) hle (.int .i64 long)).setCell (p := ⟨w.heap.size + 1, 2, none⟩) hle (.slice B o.length cc))
  have R5 := Lib.hid (((R1.out.1).put3 (x0 := .int .i64 most) (x1 := .int .i64 long) (x2 := .slice B o.length cc)).all3)
  have HW5 := Lib.hid (own_mono (own_set (o := 2) (x := .slice B o.length cc) (own_set (o := 1) (x := .int .i64 long) (own_set (o := 0) (x := .int .i64 most) HW.out (Nat.lt_succ_self _)) (Nat.lt_succ_self _)) (Nat.lt_succ_self _)) (Nat.le_add_right w.heap.size 2))
  clear hown hb1 HK bel A1 R hsz bel2 R1 HW
  go_wp2_with fail
  refine bodyPost_ret (v := .tuple #[tv most long B o.length cc, .int .i64 ((l.length : Int) - o.length)]) ?_ rfl ?_
  · obtain ⟨d0, d1, d2⟩ := R5.out
    simp [results, Tryd.results19, d0, d1, d2, go_sem]
  · exact ⟨B, cc, rfl, HW5.out, HB4.out⟩

set_option maxRecDepth 20000 in
set_option maxHeartbeats 4000000 in
theorem forget_any (most long : Int) (l : List En) (hl : l.length ≤ 100000) (A : Option Addr) (c : Nat) (p v : Int) (w : World) (hA : Ents w A l) :
    Calls Tryd.prog 20 #[tv most long A l.length c, .int .i64 p, .int .i64 v] w (KeptG most long (l.filter (lackE p v)) ((l.length : Int) - (l.filter (lackE p v)).length) w) := by
  have HK := Lib.hid (fun w hA => kept_any most long l hl A c 45 (.agg #[.int .i64 p, .int .i64 v]) (lackE p v) (fun e _ w => lack_any p v e w) (enters_of Tryd.func45 (by kernel_rfl) rfl) w hA)
  generalize l.filter (lackE p v) = o at *
  have bel := Lib.hid (Bx.bel_box (Bx.box_below w (to most long A l.length c)) (to 0 0 none 0 0))
  have A1 := Lib.hid (hA.below bel.out)
  have R : Hid (Fre ((w.alloc (to most long A l.length c)).alloc (to 0 0 none 0 0)) (w.heap.size + 1) [.int .i64 0, .int .i64 0, .slice none 0 0]) := Lib.hid (by
    have := Fre.new (w.alloc (to most long A l.length c)) [.int .i64 0, .int .i64 0, .slice none 0 0] 24
    rwa [show (w.alloc (to most long A l.length c)).heap.size = w.heap.size + 1 by simp] at this)
  have hsz := Lib.hid (show ((w.alloc (to most long A l.length c)).alloc (to 0 0 none 0 0)).heap.size = w.heap.size + 2 by simp)
  have hle : w.heap.size ≤ w.heap.size + 1 := Nat.le_succ _
  clear hA
  go_enter Tryd.func20, Tryd.ntmps20
  go_wp2_with fail
  refine (HK.out _ A1.out).mono ?_; rintro e w1 ⟨B, cc, rfl, hown, hb1⟩
  have bel2 := Lib.hid (Bx.then_below bel.out hb1)
  have R1 := Lib.hid (R.out.keep hb1)
  have HW := Lib.hid hown
  obtain ⟨⟨r0, r1, r2⟩, s0, s1, s2⟩ := R1.out.all3
  rw [hsz.out] at HW
  have HB4 := Lib.hid (((bel2.out.setCell (p := ⟨w.heap.size + 1, 0, none⟩) hle (.int .i64 most)).setCell (p := ⟨w.heap.size + 1, 1, none⟩) hle (.int .i64 long)).setCell (p := ⟨w.heap.size + 1, 2, none⟩) hle (.slice B o.length cc))
  have R5 := Lib.hid (((R1.out.1).put3 (x0 := .int .i64 most) (x1 := .int .i64 long) (x2 := .slice B o.length cc)).all3)
  have HW5 := Lib.hid (own_mono (own_set (o := 2) (x := .slice B o.length cc) (own_set (o := 1) (x := .int .i64 long) (own_set (o := 0) (x := .int .i64 most) HW.out (Nat.lt_succ_self _)) (Nat.lt_succ_self _)) (Nat.lt_succ_self _)) (Nat.le_add_right w.heap.size 2))
  clear hown hb1 HK bel A1 R hsz bel2 R1 HW
  go_wp2_with fail
  refine bodyPost_ret (v := .tuple #[tv most long B o.length cc, .int .i64 ((l.length : Int) - o.length)]) ?_ rfl ?_
  · obtain ⟨d0, d1, d2⟩ := R5.out
    simp [results, Tryd.results20, d0, d1, d2, go_sem]
  · exact ⟨B, cc, rfl, HW5.out, HB4.out⟩

/-- What New answers: an error, and how many entries the table may have, how old they grow. -/
def newE (most long : Int) : Int := if 0 ≤ most ∧ most ≤ 256 ∧ 1 ≤ long ∧ long ≤ 1048576 then 0 else 1
def newM (most long : Int) : Int := if newE most long = 0 then most else 0
def newL (most long : Int) : Int := if newE most long = 0 then long else 0

set_option maxRecDepth 20000 in
set_option maxHeartbeats 4000000 in
theorem new_any (most long : Int) (w : World) :
    Calls Tryd.prog 15 #[.int .i64 most, .int .i64 long] w fun e w' => e = .returned (.tuple #[tv (newM most long) (newL most long) none 0 0, .int .i64 (newE most long)]) ∧ Below w.heap.size w w' := by
  by_cases h : 0 ≤ most ∧ most ≤ 256 ∧ 1 ≤ long ∧ long ≤ 1048576
  · have e0 : newE most long = 0 := if_pos h
    have e1 : newM most long = most := if_pos e0
    have e2 : newL most long = long := if_pos e0
    rw [e0, e1, e2]
    obtain ⟨h1, h2, h3, h4⟩ := h
    clear e0 e1 e2
    have R5 := Lib.hid (Bx.Blk.new w [.int .i64 most, .int .i64 long, .slice none 0 0] 24).all3
    have HB4 := Lib.hid (Bx.box_below w (to most long none 0 0))
    go_enter Tryd.func15, Tryd.ntmps15
    go_wp2_with fail
    refine bodyPost_ret (v := .tuple #[tv most long none 0 0, .int .i64 0]) ?_ rfl ?_
    · obtain ⟨d0, d1, d2⟩ := R5.out
      simp [results, Tryd.results15, d0, d1, d2, go_sem]
    · exact ⟨rfl, HB4.out⟩
  · have e0 : newE most long = 1 := if_neg h
    have e1 : newM most long = 0 := if_neg (by rw [e0]; decide)
    have e2 : newL most long = 0 := if_neg (by rw [e0]; decide)
    rw [e0, e1, e2]
    clear e0 e1 e2
    have R5 := Lib.hid (Bx.Blk.new w [.int .i64 0, .int .i64 0, .slice none 0 0] 24).all3
    have HB4 := Lib.hid (Bx.box_below w (to 0 0 none 0 0))
    rcases (show most < 0 ∨ (¬ most < 0 ∧ 256 < most) ∨ (¬ most < 0 ∧ ¬ 256 < most ∧ long < 1) ∨ (¬ most < 0 ∧ ¬ 256 < most ∧ ¬ long < 1 ∧ 1048576 < long) by omega) with g1 | ⟨g1, g2⟩ | ⟨g1, g2, g3⟩ | ⟨g1, g2, g3, g4⟩
    all_goals
      clear h
      go_enter Tryd.func15, Tryd.ntmps15
      go_wp2_with fail
      refine bodyPost_ret (v := .tuple #[tv 0 0 none 0 0, .int .i64 1]) ?_ rfl ?_
      · obtain ⟨d0, d1, d2⟩ := R5.out
        simp [results, Tryd.results15, d0, d1, d2, go_sem]
      · exact ⟨rfl, HB4.out⟩

end Tab
end Go.Proofs.YtfnjgjehmddkcaaDoor
