/-
  The law's port that tells of its own bridge; awake.
-/
import Derived.Test.YtlaahomkgaaciaaRspE
import Derived.Deep.DeepCutAuto
namespace Go.Proofs.Ytlaahomkgaaciaa
open Go.RowKit
namespace Rsp
open Pre Crd

/-- A port that tells of its own bridge. -/
def someC (n : Nat) : Cd := ⟨true, false, false, 10, 1, ⟨n, 0, n, 1⟩, ⟨0, 6, 1, 3⟩, 3, 0, false, false, false, false, false, false, true, false, false, 0, 0, 0, 0, 0, 0, 0⟩
def b5 : Bd := msgB (someC 5)
def b7 : Bd := msgB (someC 7)
def x7 : Cd := recvC (someC 7) b5
def y7 : Cd := recvC x7 b5
def e5 : Cd := recvC (someC 5) b7
def edgeC : Cd := { Cd.zero with edge := true, rap := true }
def p5 : Cd := protC edgeC Bd.zero
theorem y7_is : y7 = x7 := by decide +kernel
theorem srt1 : sortI (someC 7) b5 = 1 := by decide +kernel
theorem srt2 : sortI x7 b5 = 2 := by decide +kernel
theorem srt3 : sortI (someC 5) b7 = 3 := by decide +kernel
theorem srt0 : sortI (someC 5) b5 = 0 := by decide +kernel
theorem x7_is : x7.info = 2 ∧ x7.v = ⟨5, 0, 5, 1⟩ ∧ x7.t.a = 1 ∧ x7.hrd = 3 := by decide +kernel
theorem b5_is : b5.k = 2 ∧ b5.ro = 3 ∧ b5.v = ⟨5, 0, 5, 1⟩ := by decide +kernel
theorem e5_is : e5.tel = true := by decide +kernel
theorem p5_is : p5.edge = false ∧ p5.rap = false ∧ p5.sen = 3 ∧ p5.qui = 3 := by decide +kernel

set_option maxRecDepth 40000 in
set_option maxHeartbeats 8000000 in
theorem some_any (n : Nat) (w : World) : Calls Try.prog 32 #[.int .u64 n] w fun e w' => e = .returned (cdv (someC n)) ∧ Below w.heap.size w w' := by
  have R0 := Lib.hid (Bx.Fre.new w (cdl Cd.zero) 28)
  have bel := Lib.hid (Bx.box_below w (cdo Cd.zero))
  have HO := Lib.hid (own_any n)
  have HD := Lib.hid (fun w => des_any ⟨n, 0, n, 0⟩ n 1 w)
  go_enter Try.func32, Try.ntmps32
  go_wp2_with fail
  refine (HO.out _).mono ?_; rintro e w1 ⟨rfl, hb⟩
  replace R0 := Lib.hid (R0.out.keep hb)
  replace bel := Lib.hid (Bx.then_below bel.out hb)
  clear hb
  go_wp2_with fail
  refine (HD.out _).mono ?_; rintro e w2 ⟨rfl, hb⟩
  replace R0 := Lib.hid (R0.out.keep hb)
  replace bel := Lib.hid (Bx.then_below bel.out hb)
  clear hb
  go_wp2_with (first | ((with_reducible refine cd_store ?_ ?_ (w.heap.size) (someC n) ?_ ?_ (cdl Cd.zero) ?_ ?_ ?_); (· rfl); (· rfl); (· rfl); (· rfl); (· rfl); (· exact R0.out.own)))
  exact bodyPost_ret (v := cdv (someC n)) (cd_result Try.results32 rfl (R0.out.full (m := cdl (someC n)) rfl).blk) rfl ⟨rfl, Bx.bel_put_at (k := w.heap.size) (cdl (someC n)) 0 (Nat.le_refl _) bel.out⟩

end Rsp
end Go.Proofs.Ytlaahomkgaaciaa
