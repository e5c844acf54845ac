/-
  The law's bridge that stands alone.
-/
import Derived.Test.YtkjdnmlaehjmgaaEltF
import Derived.Test.YtkjdnmlaehjmgaaRspF
namespace Go.Proofs.Ytkjdnmlaehjmgaa
open Go.RowKit
namespace Elt
open Pre Crd Tre

/-- A bridge with all ports up, that heard nothing. -/
def aloC : Cd := { Cd.zero with up := true, cost := 10, rap := true }
def al0 : Td := ⟨7, ⟨0, 6, 1, 3⟩, ⟨0, 0, 0, 0⟩, ⟨0, 0, 0, 0⟩, -1, fun _ => Cd.zero⟩
def al7 : Td := ⟨7, ⟨0, 6, 1, 3⟩, ⟨0, 0, 0, 0⟩, ⟨0, 0, 0, 0⟩, -1, fun _ => aloC⟩

theorem build_at (w : World) : (Instr.build 31 #[(0, .int .u64 7), (1, .agg #[.int .i64 0, .int .i64 6, .int .i64 1, .int .i64 3]), (4, .int .i64 (-1))]).run Try.prog w = .ok (tdv al0) w := by kernel_rfl

set_option maxRecDepth 40000 in
set_option maxHeartbeats 8000000 in
theorem alone_any (w : World) : Calls Try.prog 26 #[.int .u64 7] w fun e w' => e = .returned (tdv al7) ∧ Below w.heap.size w w' := by
  have hal := zero_at
  have hbd := build_at
  have R0 : Hid (Bx.Fre (w.alloc (tdo Td.zero)) w.heap.size (tdl Td.zero)) := Lib.hid (Bx.Fre.new w (tdl Td.zero) 31)
  have bel := Lib.hid (Bx.box_below w (tdo Td.zero))
  replace R0 := Lib.hid (R0.out.more (tdo al0))
  have T1 : Hid (Bx.Fre ((w.alloc (tdo Td.zero)).alloc (tdo al0)) (w.heap.size + 1) (tdl al0)) := Lib.hid (Bx.Fre.new_at (W := (w.alloc (tdo Td.zero))) (k := w.heap.size + 1) (tdl al0) 31 (by simp))
  replace bel := Lib.hid (Bx.bel_box bel.out (tdo al0))
  go_enter Try.func26, Try.ntmps26
  go_wp2_with (first | ((with_reducible refine td_fresh ?_ ?_ (w.heap.size + 1) al0 ?_ ?_ (w.alloc (tdo Td.zero)) (tdl Td.zero) ?_ ?_ ?_ ?_); (· rfl); (· rfl); (· rfl); (· rfl); (· exact tdl_len _); (· rfl); (· first | rfl | (simp; done))) | ((with_reducible refine td_load ?_ ?_ (w.heap.size) ?_ Td.zero ?_ ?_); (· rfl); (· rfl); (· rfl); (· exact R0.out.blk)) | ((with_reducible refine cs_load ?_ ?_ (w.heap.size) ?_ Td.zero ?_ ?_); (· rfl); (· rfl); (· rfl); (· exact R0.out.blk)) | ((with_reducible refine td_load ?_ ?_ (w.heap.size + 1) ?_ al0 ?_ ?_); (· rfl); (· rfl); (· rfl); (· exact T1.out.blk)) | ((with_reducible refine cs_load ?_ ?_ (w.heap.size + 1) ?_ al0 ?_ ?_); (· rfl); (· rfl); (· rfl); (· exact T1.out.blk)))
  replace T1 := Lib.hid (T1.out.of (m := tdl (Td.mk 7 ⟨0, 6, 1, 3⟩ ⟨0, 0, 0, 0⟩ ⟨0, 0, 0, 0⟩ (-1) (mixN (fun _ => aloC) (fun _ => Cd.zero) 0))) (by rw [mix_none]; rfl))
  clear hal hbd
  go_loopg [8] 8 (fun g s8 wr => ∃ k : Nat, k + g = 8 ∧ s8 = .int .i64 k ∧ Aside (Bx.Fre wr w.heap.size (tdl Td.zero)) ∧ Aside (Bx.Fre wr (w.heap.size + 1) (tdl (Td.mk 7 ⟨0, 6, 1, 3⟩ ⟨0, 0, 0, 0⟩ ⟨0, 0, 0, 0⟩ (-1) (mixN (fun _ => aloC) (fun _ => Cd.zero) k)))) ∧ Aside (Below w.heap.size w wr))
  case atStart => exact ⟨0, by omega, rfl, R0.out, T1.out, bel.out⟩
  case round =>
    clear R0 T1 bel
    obtain ⟨k, hkg, rfl, R0, T1, bel⟩ := hrel
    cases gk with
    | zero =>
      have hkz : ¬ ((k : Int) < 8) := by omega
      obtain rfl : k = 8 := by omega
      replace T1 := Lib.hid (T1.out.of (m := tdl al7) (mix_all al7 (fun _ => aloC) (fun _ => Cd.zero)))
      go_wp2_with (first | ((with_reducible refine td_store ?_ ?_ (w.heap.size) al7 ?_ ?_ (tdl Td.zero) ?_ ?_ ?_); (· rfl); (· rfl); (· rfl); (· rfl); (· exact tdl_len _); (· exact R0.out.own)) | ((with_reducible refine td_load ?_ ?_ (w.heap.size + 1) ?_ al7 ?_ ?_); (· rfl); (· rfl); (· rfl); (· exact T1.out.blk)) | ((with_reducible refine cs_load ?_ ?_ (w.heap.size + 1) ?_ al7 ?_ ?_); (· rfl); (· rfl); (· rfl); (· exact T1.out.blk)))
      replace T1 := Lib.hid (T1.out.apart_at (k' := w.heap.size) (tdl al7) 0 (by omega))
      replace bel := Lib.hid (Bx.bel_put_at (k := w.heap.size) (tdl al7) 0 (by omega) bel.out)
      replace R0 := Lib.hid (R0.out.full (m := (tdl al7)) (by rw [tdl_len, tdl_len]))
      exact bodyPost_ret (v := tdv al7) (td_result Try.results26 rfl R0.out.blk) rfl ⟨rfl, bel.out⟩
    | succ g =>
      have hkz : (k : Int) < 8 := by omega
      have hk0 : (0 : Int) ≤ k := by omega
      have hk : k < 8 := by omega
      have T9 := T1
      replace R0 := Lib.hid (R0.out.apart_at (k' := w.heap.size + 1) (cdl aloC) (14 + k * 31) (by omega))
      replace bel := Lib.hid (Bx.bel_put_at (k := w.heap.size + 1) (cdl aloC) (14 + k * 31) (by omega) bel.out)
      replace T1 := Lib.hid ((Bx.Fre.put_at (cdl aloC) (14 + k * 31) T1.out).of (m := (tdl (Td.mk 7 ⟨0, 6, 1, 3⟩ ⟨0, 0, 0, 0⟩ ⟨0, 0, 0, 0⟩ (-1) (mixN (fun _ => aloC) (fun _ => Cd.zero) (k + 1))))) (set_port _ _ _ _ _ _ _ k hk aloC rfl))
      go_wp2_with (first | ((with_reducible refine cc_store ?_ ?_ (w.heap.size + 1) k hk ?_ aloC ?_ (Td.mk 7 ⟨0, 6, 1, 3⟩ ⟨0, 0, 0, 0⟩ ⟨0, 0, 0, 0⟩ (-1) (mixN (fun _ => aloC) (fun _ => Cd.zero) k)) ?_ ?_); (· rfl); (· rfl); (· rfl); (· rfl); (· exact T9.out)) | ((with_reducible refine td_load ?_ ?_ (w.heap.size) ?_ Td.zero ?_ ?_); (· rfl); (· rfl); (· rfl); (· exact R0.out.blk)) | ((with_reducible refine cs_load ?_ ?_ (w.heap.size) ?_ Td.zero ?_ ?_); (· rfl); (· rfl); (· rfl); (· exact R0.out.blk)) | ((with_reducible refine td_load ?_ ?_ (w.heap.size + 1) ?_ (Td.mk 7 ⟨0, 6, 1, 3⟩ ⟨0, 0, 0, 0⟩ ⟨0, 0, 0, 0⟩ (-1) (mixN (fun _ => aloC) (fun _ => Cd.zero) (k + 1))) ?_ ?_); (· rfl); (· rfl); (· rfl); (· exact T1.out.blk)) | ((with_reducible refine cs_load ?_ ?_ (w.heap.size + 1) ?_ (Td.mk 7 ⟨0, 6, 1, 3⟩ ⟨0, 0, 0, 0⟩ ⟨0, 0, 0, 0⟩ (-1) (mixN (fun _ => aloC) (fun _ => Cd.zero) (k + 1))) ?_ ?_); (· rfl); (· rfl); (· rfl); (· exact T1.out.blk)))
      go_roundg g
      case measure => omega
      case rel => exact ⟨k + 1, by omega, by go_num, R0.out, T1.out, bel.out⟩

end Elt
end Go.Proofs.Ytkjdnmlaehjmgaa
