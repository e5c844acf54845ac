/-
  The law's port that tells of its own bridge; awake.
-/
import Derived.Test.YtkjdnmlaehjmgaaRspE
import Derived.Deep.DeepCutAuto
namespace Go.Proofs.Ytkjdnmlaehjmgaa
open Go.RowKit
namespace Rsp
open Pre Crd

/-- A port that tells of its own bridge. -/
def someC (n : Nat) : Cd := ⟨true, false, false, 10, 1, ⟨n, 0, n, 1⟩, ⟨0, 6, 1, 3⟩, 3, 0, false, false, false, false, false, false, true, false, false, 0, 0, 0, 0, 0, 0, 0⟩
def b5 : Bd := msgB (someC 5)
def b7 : Bd := msgB (someC 7)
def x7 : Cd := recvC (someC 7) b5
def y7 : Cd := recvC x7 b5
def e5 : Cd := recvC (someC 5) b7
def edgeC : Cd := { Cd.zero with edge := true, rap := true }
def p5 : Cd := protC edgeC Bd.zero
theorem y7_is : y7 = x7 := by decide +kernel
theorem srt1 : sortI (someC 7) b5 = 1 := by decide +kernel
theorem srt2 : sortI x7 b5 = 2 := by decide +kernel
theorem srt3 : sortI (someC 5) b7 = 3 := by decide +kernel
theorem srt0 : sortI (someC 5) b5 = 0 := by decide +kernel
theorem x7_is : x7.info = 2 ∧ x7.v = ⟨5, 0, 5, 1⟩ ∧ x7.t.a = 1 ∧ x7.hrd = 3 := by decide +kernel
theorem b5_is : b5.k = 2 ∧ b5.ro = 3 ∧ b5.v = ⟨5, 0, 5, 1⟩ := by decide +kernel
theorem e5_is : e5.tel = true := by decide +kernel
theorem p5_is : p5.edge = false ∧ p5.rap = false ∧ p5.sen = 3 ∧ p5.qui = 3 := by decide +kernel

end Rsp
end Go.Proofs.Ytkjdnmlaehjmgaa
