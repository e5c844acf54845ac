/-
  No cell of these rows narrows 'for every input' (looked for: loops, veiled, ifaces, maps, wideKeys, modest, calm, conditions, laid).
  DERIVED. THE GIVEN ROWS OF THIS SEAT. 3 by the template 'for every input the law returns true; each argument reads behind the call as it read before'; 0 by the template 'total and deterministic' (their statements: YtakbmdamegjdeaaTotals.lean).
  GIVEN WITH THE SEED: the statements are not yours to turn. If you find one false, say at which input.
  Laid BY PROGRAM, IN A SANDBOX (cutbox-rows.mjs): the forced cells as the released guide's own fill.sh prints them over the translation f783793fb6145af0… (all of the seat's roots in one cut). By AI agents, Wed Nov 11 2026. No macro, syntax, notation, axiom, sorry.
-/
import Derived.Test.YtakbmdamegjdeaaChecked
import GoSem.Claim
import GoSem.ClaimJoined
import GoSem.ClaimMapViews
import Derived.JoinedTies
import Derived.KernelRfl
namespace Go.Proofs.Ytakbmdamegjdeaa
/- THE CELL 'sum', in the pinned program and in every row, IS THE sha256 OF THE DUMP (.gsa) THAT YtakbmdamegjdeaaProg.lean LOADS. Nothing in Lean hashes anything: it is a label: what it is worth is what the hold of that sum in a sandbox is worth. -/
noncomputable def Try.pinned : Pinned := { name := "ytakbmdamegjdeaa", sum := "f783793fb6145af0a662b82f4d9aecbae15670a617f83d95c2a29ddbe9a66c6e", checked := Try.checked }
namespace Rows
def none {H : Type} : Left H := { results := [], args := [] }

/-- 'tipstafflaw21.ClockSays': WHATEVER THE INPUT: true; the input reads as it did. -/
def clockSaysSpec : ChangeSpec := { name := "clockSays", fn := fun _ => fun
  | [d1, d2] => { results := [.lit (.bool true)], args := [d1, d2] }
  | _ => none }
def clockSaysRow : OpenClaim := { program := "ytakbmdamegjdeaa", sum := "f783793fb6145af0a662b82f4d9aecbae15670a617f83d95c2a29ddbe9a66c6e", func := "tipstaff/tipstafflaw21.ClockSays", spec := "clockSays", apart := false }
def ClockSaysSaid : Prop := clockSaysRow.holds Try.pinned (OpenSpec.ofChange clockSaysSpec)

/-- ITS FALSE NEIGHBOUR: 'it returns false'. Refute it at one input. -/
def clockSaysWrong : ChangeSpec := { name := "clockSays", fn := fun _ => fun
  | [d1, d2] => { results := [.lit (.bool false)], args := [d1, d2] }
  | _ => none }
def ClockSaysWrongFalsely : Prop := clockSaysRow.holds Try.pinned (OpenSpec.ofChange clockSaysWrong)

/-- 'tipstafflaw21.ClockAges': WHATEVER THE INPUT: true; the input reads as it did. -/
def clockAgesSpec : ChangeSpec := { name := "clockAges", fn := fun _ => fun
  | [d1, d2] => { results := [.lit (.bool true)], args := [d1, d2] }
  | _ => none }
def clockAgesRow : OpenClaim := { program := "ytakbmdamegjdeaa", sum := "f783793fb6145af0a662b82f4d9aecbae15670a617f83d95c2a29ddbe9a66c6e", func := "tipstaff/tipstafflaw21.ClockAges", spec := "clockAges", apart := false }
def ClockAgesSaid : Prop := clockAgesRow.holds Try.pinned (OpenSpec.ofChange clockAgesSpec)

/-- ITS FALSE NEIGHBOUR: 'it returns false'. Refute it at one input. -/
def clockAgesWrong : ChangeSpec := { name := "clockAges", fn := fun _ => fun
  | [d1, d2] => { results := [.lit (.bool false)], args := [d1, d2] }
  | _ => none }
def ClockAgesWrongFalsely : Prop := clockAgesRow.holds Try.pinned (OpenSpec.ofChange clockAgesWrong)

/-- 'tipstafflaw21.ClockForwards': WHATEVER THE INPUT: true; the input reads as it did. -/
def clockForwardsSpec : ChangeSpec := { name := "clockForwards", fn := fun _ => fun
  | [d1, d2] => { results := [.lit (.bool true)], args := [d1, d2] }
  | _ => none }
def clockForwardsRow : OpenClaim := { program := "ytakbmdamegjdeaa", sum := "f783793fb6145af0a662b82f4d9aecbae15670a617f83d95c2a29ddbe9a66c6e", func := "tipstaff/tipstafflaw21.ClockForwards", spec := "clockForwards", apart := false }
def ClockForwardsSaid : Prop := clockForwardsRow.holds Try.pinned (OpenSpec.ofChange clockForwardsSpec)

/-- ITS FALSE NEIGHBOUR: 'it returns false'. Refute it at one input. -/
def clockForwardsWrong : ChangeSpec := { name := "clockForwards", fn := fun _ => fun
  | [d1, d2] => { results := [.lit (.bool false)], args := [d1, d2] }
  | _ => none }
def ClockForwardsWrongFalsely : Prop := clockForwardsRow.holds Try.pinned (OpenSpec.ofChange clockForwardsWrong)

/- THE SECOND FORM. 'bulk': how many values and letters a reading holds, each counted each time it is reached (what is shared counts as often as it is met; a slice's spare places count too). A statement '..UptoSaid' is the law's where the arguments, and the package variables that the reading takes, are together of bulk at most 1048576: NARROWER than '..Said'. Prove '..Said' where nothing that the law and all that it calls make is longer than what came in: it says more and counts as full. Else prove '..UptoSaid'. A law counts once. -/
mutual
def uptoBulk {H : Type} : DataW H → Nat
  | .lit (.string bytes) => bytes.length + 1
  | .lit _ => 1
  | .nil => 1
  | .ptr d => uptoBulk d + 1
  | .slice elems spare => uptoBulkAll elems + uptoBulkAll spare + 1
  | .agg parts => uptoBulkAll parts + 1
  | .iface _ d => uptoBulk d + 1
  | .map entries => uptoBulkEntries entries + 1
  | .held _ => 1
def uptoBulkAll {H : Type} : List (DataW H) → Nat
  | [] => 0
  | d :: r => uptoBulk d + uptoBulkAll r
def uptoBulkEntries {H : Type} : List (Lit × DataW H) → Nat
  | [] => 0
  | x :: r => uptoBulkEntry x + uptoBulkEntries r
def uptoBulkEntry {H : Type} : Lit × DataW H → Nat
  | (.string bytes, d) => bytes.length + uptoBulk d + 1
  | (_, d) => uptoBulk d + 1
 end
def uptoSmall : (H : Type) → List (DataW H) → Bool := fun _ ds => decide (uptoBulkAll ds ≤ 1048576)
def OpenSpec.upto (s : _root_.Go.ChangeSpec) : _root_.Go.OpenSpec := { _root_.Go.OpenSpec.ofChange s with cond := some uptoSmall }

/-- 'tipstafflaw21.ClockSays', WHERE WHAT IT READS IS OF BULK AT MOST 1048576: true; the input reads as it did. -/
def clockSaysUptoRow : OpenClaim := { program := "ytakbmdamegjdeaa", sum := "f783793fb6145af0a662b82f4d9aecbae15670a617f83d95c2a29ddbe9a66c6e", func := "tipstaff/tipstafflaw21.ClockSays", spec := "clockSays", apart := false, narrowed := true }
def ClockSaysUptoSaid : Prop := clockSaysUptoRow.holds Try.pinned (OpenSpec.upto clockSaysSpec)

/-- 'tipstafflaw21.ClockAges', WHERE WHAT IT READS IS OF BULK AT MOST 1048576: true; the input reads as it did. -/
def clockAgesUptoRow : OpenClaim := { program := "ytakbmdamegjdeaa", sum := "f783793fb6145af0a662b82f4d9aecbae15670a617f83d95c2a29ddbe9a66c6e", func := "tipstaff/tipstafflaw21.ClockAges", spec := "clockAges", apart := false, narrowed := true }
def ClockAgesUptoSaid : Prop := clockAgesUptoRow.holds Try.pinned (OpenSpec.upto clockAgesSpec)

/-- 'tipstafflaw21.ClockForwards', WHERE WHAT IT READS IS OF BULK AT MOST 1048576: true; the input reads as it did. -/
def clockForwardsUptoRow : OpenClaim := { program := "ytakbmdamegjdeaa", sum := "f783793fb6145af0a662b82f4d9aecbae15670a617f83d95c2a29ddbe9a66c6e", func := "tipstaff/tipstafflaw21.ClockForwards", spec := "clockForwards", apart := false, narrowed := true }
def ClockForwardsUptoSaid : Prop := clockForwardsUptoRow.holds Try.pinned (OpenSpec.upto clockForwardsSpec)

end Rows
end Go.Proofs.Ytakbmdamegjdeaa
