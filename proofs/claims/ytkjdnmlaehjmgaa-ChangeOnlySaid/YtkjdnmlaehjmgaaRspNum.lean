/-
  What a port of the tree makes of a BPDU (plain).
-/
import Derived.Test.YtkjdnmlaehjmgaaCrd
namespace Go.Proofs.Ytkjdnmlaehjmgaa
open Go.RowKit
namespace Rsp
open Pre Crd

def rapB (b : Bd) : Bool := decide (b.k = 2)
def roleI (b : Bd) : Int := if rapB b = true then b.ro else 3
def goodI (b : Bd) : Int := if b.t.m < 1 ∨ b.t.m - 1 ≤ b.t.a then 0 else 3 * min (max b.t.h 1) 255
def oldT (t : Tm) : Tm := ⟨olderA t.a, t.m, t.h, t.d⟩
def repB (c : Cd) (b : Bd) : Bool := decide (c.info = 2) && decide (b.v = c.v) && decide (oldT b.t = c.t)
def fromB (c : Cd) (b : Bd) : Bool := decide (b.v.b = c.v.b) && decide (b.v.p = c.v.p)
def replB (c : Cd) (b : Bd) : Bool := if c.info = 0 then true else if c.info = 2 ∧ fromB c b = true then true else ltV b.v c.v
def sortD (c : Cd) (b : Bd) : Int := if repB c b = true then 2 else if replB c b = true then 1 else if ltV c.v b.v = true then 3 else 0
def sortI (c : Cd) (b : Bd) : Int := if roleI b = 3 then sortD c b else if roleI b = 2 ∨ roleI b = 1 then (if ltV b.v c.v = true then 0 else 4) else 0
/-- What is heard anew. -/
def anewC (c : Cd) (b : Bd) : Cd := { c with v := b.v, t := oldT b.t, info := if goodI b = 0 then 0 else 2, agd := false, agr := false, png := false, prd := false, syd := false }
def dispC (c : Cd) : Cd := { c with agd := false, st := 0, wai := max c.wai c.t.d }
def hearC (c : Cd) (b : Bd) : Cd := { c with prd := c.prd || (rapB b && b.pr), hrd := goodI b }
def worseC (c : Cd) (b : Bd) : Cd := if (rapB b && b.le && !c.edge) = true then dispC { c with tel := true } else { c with tel := true }
def agreeC (c : Cd) (b : Bd) : Cd := if (b.ag && decide (c.role = 3)) = true then { c with agd := true, png := false } else c
def recvC (c : Cd) (b : Bd) : Cd := if sortI c b = 1 then hearC (anewC c b) b else if sortI c b = 2 then hearC c b else if sortI c b = 3 then worseC c b else if sortI c b = 4 then agreeC c b else c
/-- What a port tells. -/
def msgB (c : Cd) : Bd := if c.rap = true then ⟨2, decide (0 < c.chg), c.png && decide (c.role = 3), c.role, decide (1 ≤ c.st), decide (c.st = 2), c.agr, false, c.v, c.t⟩ else ⟨0, decide (0 < c.chg), false, 0, false, false, false, c.ack, c.v, c.t⟩
def protC (c : Cd) (b : Bd) : Cd := if c.sen ≤ 0 ∧ c.rap ≠ rapB b then { c with edge := false, qui := 3, rap := rapB b, sen := 3 } else { c with edge := false, qui := 3 }

end Rsp
end Go.Proofs.Ytkjdnmlaehjmgaa
