/-
  One step of the law: an address is learnt, a tick, ports are flushed, a port's VLAN is forgotten.
-/
import Derived.Test.YtfnjgjehmddkcaaDoorTabJ
namespace Go.Proofs.YtfnjgjehmddkcaaDoor
open Go.RowKit
namespace Tab
open Oct

/-- What happens: its kind, the VLAN, the address, the port, the set of ports. -/
structure Ev where
  k : Int
  v : Int
  m : Nat
  p : Int
  s : Int

def stepL (most long : Int) (l : List En) (o : Ev) : List En :=
  if o.k = 0 then learnL most l o.v o.m o.p else if o.k = 1 then tickL long l else if o.k = 2 then l.filter (flushE (Por.low o.s)) else l.filter (lackE o.p o.v)
def stepE (most : Int) (l : List En) (o : Ev) : Int := if o.k = 0 then learnE most l o.v o.m o.p else 0
def stepN (most long : Int) (l : List En) (o : Ev) : Int := if o.k = 0 then 0 else (l.length : Int) - (stepL most long l o).length

def GivesS (A0 : Option Addr) (l0 : List En) (most long : Int) (l : List En) (n c : Int) (w : World) (e : Ending) (w' : World) : Prop :=
  ∃ A k, e = .returned (.tuple #[tv most long A l.length k, .int .i64 n, .int .i64 c]) ∧ ((A = A0 ∧ l = l0) ∨ ∀ b o, A = some ⟨b, o, none⟩ → w.heap.size ≤ b) ∧ Ents w' A l ∧ Below w.heap.size w w'

end Tab
end Go.Proofs.YtfnjgjehmddkcaaDoor
