/-
  The check of single answers that the statements of layer 15 end with (tipstafflaw15.awake) comes out true, in every memory, and changes nothing that was there.
-/
import Derived.Test.YtbighadkcmhplaaMemF
import Derived.Test.YtbighadkcmhplaaMemG
import Derived.Test.YtbighadkcmhplaaMemI
namespace Go.Proofs.Ytbighadkcmhplaa
open Go.RowKit
namespace Mem
open Oct Eth

theorem aw1 (A : Option Addr) (w : World) (hA : Vls w A usualL) : Calls Try.prog 7 #[pv (fun _ => 1) (fun _ => 0) A 4 4, .int .i64 0, fr 0 2 false 0 0 0 ⟨#[]⟩] w fun e w' => e = .returned (.tuple #[.int .i64 1, .bool true]) ∧ Below w.heap.size w w' := by
  have h := takes_any (fun _ => 1) (fun _ => 0) usualL (by decide) A 4 0 0 2 false 0 0 0 ⟨#[]⟩ w hA
  rwa [show takV (fun _ => 1) (fun _ => 0) usualL 0 false 0 = 1 by decide +kernel, show takB (fun _ => 1) (fun _ => 0) usualL 0 false 0 = true by decide +kernel] at h
theorem aw2 (A : Option Addr) (w : World) (hA : Vls w A usualL) : Calls Try.prog 7 #[pv (fun _ => 1) (fun _ => 0) A 4 4, .int .i64 0, fr 0 2 true 0 10 0 ⟨#[]⟩] w fun e w' => e = .returned (.tuple #[.int .i64 0, .bool false]) ∧ Below w.heap.size w w' := by
  have h := takes_any (fun _ => 1) (fun _ => 0) usualL (by decide) A 4 0 0 2 true 0 10 0 ⟨#[]⟩ w hA
  rwa [show takV (fun _ => 1) (fun _ => 0) usualL 0 true 10 = 0 by decide +kernel, show takB (fun _ => 1) (fun _ => 0) usualL 0 true 10 = false by decide +kernel] at h
theorem aw3 (A : Option Addr) (w : World) (hA : Vls w A usualL) : Calls Try.prog 7 #[pv (fun _ => 1) (fun _ => 0) A 4 4, .int .i64 7, fr 0 2 true 0 10 0 ⟨#[]⟩] w fun e w' => e = .returned (.tuple #[.int .i64 10, .bool true]) ∧ Below w.heap.size w w' := by
  have h := takes_any (fun _ => 1) (fun _ => 0) usualL (by decide) A 4 7 0 2 true 0 10 0 ⟨#[]⟩ w hA
  rwa [show takV (fun _ => 1) (fun _ => 0) usualL 7 true 10 = 10 by decide +kernel, show takB (fun _ => 1) (fun _ => 0) usualL 7 true 10 = true by decide +kernel] at h
theorem aw4 (A : Option Addr) (w : World) (hA : Vls w A usualL) : Calls Try.prog 9 #[pv (fun _ => 1) (fun _ => 0) A 4 4, .int .i64 7, .int .i64 10, fr 0 2 false 0 0 0 ⟨#[]⟩] w fun e w' => e = .returned (.tuple #[fr 0 2 true 0 10 0 ⟨#[]⟩, .bool true]) ∧ Below w.heap.size w w' := by
  have h := sends_any (fun _ => 1) (fun _ => 0) usualL (by decide) A 4 7 10 0 2 false 0 0 0 ⟨#[]⟩ w hA
  have e1 : sndT usualL 10 7 = true := by decide +kernel
  have e2 : sndU usualL 10 7 = false := by decide +kernel
  have e3 : sndF usualL 10 7 0 2 0 0 ⟨#[]⟩ = fr 0 2 true 0 10 0 ⟨#[]⟩ := by unfold sndF; rw [e1]; rfl
  rwa [e3, show sndB usualL 10 7 = true by unfold sndB; rw [e1, e2]; rfl] at h
theorem aw5 (A : Option Addr) (w : World) (hA : Vls w A usualL) : Calls Try.prog 9 #[pv (fun _ => 1) (fun _ => 0) A 4 4, .int .i64 1, .int .i64 10, fr 0 2 false 0 0 0 ⟨#[]⟩] w fun e w' => e = .returned (.tuple #[fr 0 0 false 0 0 0 ⟨#[]⟩, .bool false]) ∧ Below w.heap.size w w' := by
  have h := sends_any (fun _ => 1) (fun _ => 0) usualL (by decide) A 4 1 10 0 2 false 0 0 0 ⟨#[]⟩ w hA
  have e1 : sndT usualL 10 1 = false := by decide +kernel
  have e2 : sndU usualL 10 1 = false := by decide +kernel
  have e3 : sndF usualL 10 1 0 2 0 0 ⟨#[]⟩ = fr 0 0 false 0 0 0 ⟨#[]⟩ := by unfold sndF; rw [e1, e2]; rfl
  rwa [e3, show sndB usualL 10 1 = false by unfold sndB; rw [e1, e2]; rfl] at h
theorem aw6 (A : Option Addr) (w : World) (hA : Vls w A usualL) : Calls Try.prog 11 #[pv (fun _ => 1) (fun _ => 0) A 4 4, .int .i64 20] w fun e w' => e = .returned (.tuple #[.agg #[.int .i64 20, .int .i64 128, .int .i64 0], .bool true]) ∧ Below w.heap.size w w' := by
  have h := find_any (fun _ => 1) (fun _ => 0) usualL (by decide) A 4 20 w hA
  rwa [show gotV usualL 20 = ⟨20, 128, 0⟩ by decide +kernel, show isV usualL 20 = true by decide +kernel] at h
theorem aw7 (A : Option Addr) (w : World) (hA : Vls w A usualL) : Calls Try.prog 13 #[pv (fun _ => 1) (fun _ => 0) A 4 4] w fun e w' => e = .returned (.bool true) ∧ Below w.heap.size w w' := by
  have h := right_any (fun _ => 1) (fun _ => 0) usualL (by decide) A 4 w hA
  rwa [show rightP (fun _ => 1) (fun _ => 0) usualL = true by decide +kernel] at h
theorem aw8 (w : World) : Calls Try.prog 13 #[pv (fun _ => 0) (fun _ => 0) none 0 0] w fun e w' => e = .returned (.bool false) ∧ Below w.heap.size w w' := by
  have h := right_any (fun _ => 0) (fun _ => 0) [] (by decide) none 0 w (Vls.nil _ _)
  rwa [show rightP (fun _ => 0) (fun _ => 0) [] = false by decide +kernel] at h
theorem aw9 (A : Option Addr) (w : World) (hA : Vls w A usualL) : Calls Try.prog 15 #[pv (fun _ => 1) (fun _ => 0) A 4 4, .int .i64 1] w fun e w' => e = .returned (.int .i64 255) ∧ Below w.heap.size w w' := by
  have h := of_any (fun _ => 1) (fun _ => 0) usualL (by decide) A 4 1 w hA
  rwa [show ofV usualL 1 = 255 by decide +kernel] at h
theorem aw10 (A : Option Addr) (w : World) (hA : Vls w A usualL) : Calls Try.prog 15 #[pv (fun _ => 1) (fun _ => 0) A 4 4, .int .i64 5] w fun e w' => e = .returned (.int .i64 0) ∧ Below w.heap.size w w' := by
  have h := of_any (fun _ => 1) (fun _ => 0) usualL (by decide) A 4 5 w hA
  rwa [show ofV usualL 5 = 0 by decide +kernel] at h

set_option maxRecDepth 100000 in
set_option maxHeartbeats 8000000 in
theorem awake_any (w : World) : Calls Try.prog 6 #[] w fun e w' => e = .returned (.bool true) ∧ Below w.heap.size w w' := by
  go_enter Try.func6, Try.ntmps6
  go_wp2_with fail
  refine (usual_any _).mono ?_; rintro e w1 ⟨b, rfl, hV, hb⟩
  generalize (some ⟨b, 0, none⟩ : Option Addr) = A at *
  have B := Lib.hid (Bx.bel_box hb (po (fun _ => 1) (fun _ => 0) A 4 4))
  have V := Lib.hid (hV.below (Bx.box_below w1 (po (fun _ => 1) (fun _ => 0) A 4 4)))
  have P := Lib.hid (Bx.Blk.new w1 (pc (fun _ => 1) (fun _ => 0) A 4 4) 25)
  clear hV hb
  go_wp2_with fail
  generalize hg : w1.alloc (po (fun _ => 1) (fun _ => 0) A 4 4) = W1 at *
  clear hg
  generalize w1.heap.size = n1 at *
  go_wp2_with (first | ((with_reducible refine load_at ?_ ?_ n1 ?_ (fun _ => 1) (fun _ => 0) A 4 4 ?_ ?_); (· rfl); (· rfl); (· rfl); (· exact P.out)))
  refine (aw1 A _ V.out).mono ?_; rintro e w2 ⟨rfl, hb⟩
  replace B := Lib.hid (Bx.then_below B.out hb); replace P := Lib.hid (P.out.keep hb); replace V := Lib.hid (V.out.below hb)
  clear hb
  go_wp2_with (first | ((with_reducible refine load_at ?_ ?_ n1 ?_ (fun _ => 1) (fun _ => 0) A 4 4 ?_ ?_); (· rfl); (· rfl); (· rfl); (· exact P.out)))
  refine (aw2 A _ V.out).mono ?_; rintro e w3 ⟨rfl, hb⟩
  replace B := Lib.hid (Bx.then_below B.out hb); replace P := Lib.hid (P.out.keep hb); replace V := Lib.hid (V.out.below hb)
  clear hb
  go_wp2_with (first | ((with_reducible refine load_at ?_ ?_ n1 ?_ (fun _ => 1) (fun _ => 0) A 4 4 ?_ ?_); (· rfl); (· rfl); (· rfl); (· exact P.out)))
  refine (aw3 A _ V.out).mono ?_; rintro e w4 ⟨rfl, hb⟩
  replace B := Lib.hid (Bx.then_below B.out hb); replace P := Lib.hid (P.out.keep hb); replace V := Lib.hid (V.out.below hb)
  clear hb
  go_wp2_with (first | ((with_reducible refine load_at ?_ ?_ n1 ?_ (fun _ => 1) (fun _ => 0) A 4 4 ?_ ?_); (· rfl); (· rfl); (· rfl); (· exact P.out)))
  refine (aw4 A _ V.out).mono ?_; rintro e w5 ⟨rfl, hb⟩
  replace B := Lib.hid (Bx.then_below B.out hb); replace P := Lib.hid (P.out.keep hb); replace V := Lib.hid (V.out.below hb)
  clear hb
  have hb := Bx.box_below w5 (fo 0 2 true 0 10 0 ⟨#[]⟩)
  replace B := Lib.hid (Bx.then_below B.out hb); replace P := Lib.hid (P.out.keep hb); replace V := Lib.hid (V.out.below hb)
  have K8 := Lib.hid (Bx.Blk.new w5 (fc 0 2 true 0 10 0 ⟨#[]⟩) 29)
  clear hb
  go_wp2_with (first | ((with_reducible refine load_at ?_ ?_ n1 ?_ (fun _ => 1) (fun _ => 0) A 4 4 ?_ ?_); (· rfl); (· rfl); (· rfl); (· exact P.out)))
  generalize hg : w5.alloc (fo 0 2 true 0 10 0 ⟨#[]⟩) = W5 at *
  clear hg
  generalize w5.heap.size = n8 at *
  refine (aw5 A _ V.out).mono ?_; rintro e w6 ⟨rfl, hb⟩
  replace B := Lib.hid (Bx.then_below B.out hb); replace P := Lib.hid (P.out.keep hb); replace V := Lib.hid (V.out.below hb)
  replace K8 := Lib.hid (K8.out.keep hb)
  clear hb
  have hb := Bx.box_below w6 (fo 0 0 false 0 0 0 ⟨#[]⟩)
  replace B := Lib.hid (Bx.then_below B.out hb); replace P := Lib.hid (P.out.keep hb); replace V := Lib.hid (V.out.below hb)
  replace K8 := Lib.hid (K8.out.keep hb)
  have K10 := Lib.hid (Bx.Blk.new w6 (fc 0 0 false 0 0 0 ⟨#[]⟩) 29)
  clear hb
  go_wp2_with (first | ((with_reducible refine load_at ?_ ?_ n1 ?_ (fun _ => 1) (fun _ => 0) A 4 4 ?_ ?_); (· rfl); (· rfl); (· rfl); (· exact P.out)))
  generalize hg : w6.alloc (fo 0 0 false 0 0 0 ⟨#[]⟩) = W6 at *
  clear hg
  generalize w6.heap.size = n10 at *
  clear K10
  refine (aw6 A _ V.out).mono ?_; rintro e w7 ⟨rfl, hb⟩
  replace B := Lib.hid (Bx.then_below B.out hb); replace P := Lib.hid (P.out.keep hb); replace V := Lib.hid (V.out.below hb)
  replace K8 := Lib.hid (K8.out.keep hb)
  clear hb
  have hb := Bx.box_below w7 (vo ⟨20, 128, 0⟩)
  replace B := Lib.hid (Bx.then_below B.out hb); replace P := Lib.hid (P.out.keep hb); replace V := Lib.hid (V.out.below hb)
  replace K8 := Lib.hid (K8.out.keep hb)
  have K12 := Lib.hid (Bx.Blk.new w7 (vc ⟨20, 128, 0⟩) 38)
  clear hb
  go_wp2_with (first | ((with_reducible refine load_at ?_ ?_ n1 ?_ (fun _ => 1) (fun _ => 0) A 4 4 ?_ ?_); (· rfl); (· rfl); (· rfl); (· exact P.out)))
  generalize hg : w7.alloc (vo ⟨20, 128, 0⟩) = W7 at *
  clear hg
  generalize w7.heap.size = n12 at *
  refine (aw7 A _ V.out).mono ?_; rintro e w8 ⟨rfl, hb⟩
  replace B := Lib.hid (Bx.then_below B.out hb); replace P := Lib.hid (P.out.keep hb); replace V := Lib.hid (V.out.below hb)
  replace K8 := Lib.hid (K8.out.keep hb)
  replace K12 := Lib.hid (K12.out.keep hb)
  clear hb
  go_wp2_with (first | ((with_reducible refine load_at ?_ ?_ n1 ?_ (fun _ => 1) (fun _ => 0) A 4 4 ?_ ?_); (· rfl); (· rfl); (· rfl); (· exact P.out)))
  refine (aw8 _).mono ?_; rintro e w9 ⟨rfl, hb⟩
  replace B := Lib.hid (Bx.then_below B.out hb); replace P := Lib.hid (P.out.keep hb); replace V := Lib.hid (V.out.below hb)
  replace K8 := Lib.hid (K8.out.keep hb)
  replace K12 := Lib.hid (K12.out.keep hb)
  clear hb
  obtain ⟨-, -, k2, -, k4, -, -⟩ := K8.out.all7
  obtain ⟨-, f1, -⟩ := K12.out.all3
  go_wp2_with (first | ((with_reducible refine load_at ?_ ?_ n1 ?_ (fun _ => 1) (fun _ => 0) A 4 4 ?_ ?_); (· rfl); (· rfl); (· rfl); (· exact P.out)))
  refine (aw9 A _ V.out).mono ?_; rintro e w10 ⟨rfl, hb⟩
  replace B := Lib.hid (Bx.then_below B.out hb); replace P := Lib.hid (P.out.keep hb); replace V := Lib.hid (V.out.below hb)
  clear hb
  go_wp2_with (first | ((with_reducible refine load_at ?_ ?_ n1 ?_ (fun _ => 1) (fun _ => 0) A 4 4 ?_ ?_); (· rfl); (· rfl); (· rfl); (· exact P.out)))
  refine (aw10 A _ V.out).mono ?_; rintro e w11 ⟨rfl, hb⟩
  replace B := Lib.hid (Bx.then_below B.out hb); replace P := Lib.hid (P.out.keep hb); replace V := Lib.hid (V.out.below hb)
  clear hb
  clear K8 K12 k2 k4 f1
  go_wp2_with (first | ((with_reducible refine load_at ?_ ?_ n1 ?_ (fun _ => 1) (fun _ => 0) A 4 4 ?_ ?_); (· rfl); (· rfl); (· rfl); (· exact P.out)))
  go_ret
  exact ⟨rfl, B.out⟩

end Mem
end Go.Proofs.Ytbighadkcmhplaa
