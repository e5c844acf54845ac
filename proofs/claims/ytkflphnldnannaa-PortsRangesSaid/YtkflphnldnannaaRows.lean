/-
  No cell of these rows narrows 'for every input' (looked for: loops, veiled, ifaces, maps, wideKeys, modest, calm, conditions, laid).
  DERIVED. THE GIVEN ROWS OF THIS SEAT. 4 by the template 'for every input the law returns true; each argument reads behind the call as it read before'; 0 by the template 'total and deterministic' (their statements: YtkflphnldnannaaTotals.lean).
  GIVEN WITH THE SEED: the statements are not yours to turn. If you find one false, say at which input.
  Laid BY PROGRAM, IN A SANDBOX (cutbox-rows.mjs): the forced cells as the released guide's own fill.sh prints them over the translation 6a3b37be20e59dc2… (all of the seat's roots in one cut). By AI agents, Wed Nov 11 2026. No macro, syntax, notation, axiom, sorry.
-/
import Derived.Test.YtkflphnldnannaaChecked
import GoSem.Claim
import GoSem.ClaimJoined
import GoSem.ClaimMapViews
import Derived.JoinedTies
import Derived.KernelRfl
namespace Go.Proofs.Ytkflphnldnannaa
/- THE CELL 'sum', in the pinned program and in every row, IS THE sha256 OF THE DUMP (.gsa) THAT YtkflphnldnannaaProg.lean LOADS. Nothing in Lean hashes anything: it is a label: what it is worth is what the hold of that sum in a sandbox is worth. -/
noncomputable def Try.pinned : Pinned := { name := "ytkflphnldnannaa", sum := "6a3b37be20e59dc234e873ad1d97577b9852b1e6deeefc9be2a186788d7124a9", checked := Try.checked }
namespace Rows
def none {H : Type} : Left H := { results := [], args := [] }

/-- 'tipstafflaw13.PortsSays': WHATEVER THE INPUT: true; the input reads as it did. -/
def portsSaysSpec : ChangeSpec := { name := "portsSays", fn := fun _ => fun
  | [d1, d2, d3] => { results := [.lit (.bool true)], args := [d1, d2, d3] }
  | _ => none }
def portsSaysRow : OpenClaim := { program := "ytkflphnldnannaa", sum := "6a3b37be20e59dc234e873ad1d97577b9852b1e6deeefc9be2a186788d7124a9", func := "tipstaff/tipstafflaw13.PortsSays", spec := "portsSays", apart := false }
def PortsSaysSaid : Prop := portsSaysRow.holds Try.pinned (OpenSpec.ofChange portsSaysSpec)

/-- ITS FALSE NEIGHBOUR: 'it returns false'. Refute it at one input. -/
def portsSaysWrong : ChangeSpec := { name := "portsSays", fn := fun _ => fun
  | [d1, d2, d3] => { results := [.lit (.bool false)], args := [d1, d2, d3] }
  | _ => none }
def PortsSaysWrongFalsely : Prop := portsSaysRow.holds Try.pinned (OpenSpec.ofChange portsSaysWrong)

/-- 'tipstafflaw13.PortsBack': WHATEVER THE INPUT: true; the input reads as it did. -/
def portsBackSpec : ChangeSpec := { name := "portsBack", fn := fun _ => fun
  | [d1, d2, d3] => { results := [.lit (.bool true)], args := [d1, d2, d3] }
  | _ => none }
def portsBackRow : OpenClaim := { program := "ytkflphnldnannaa", sum := "6a3b37be20e59dc234e873ad1d97577b9852b1e6deeefc9be2a186788d7124a9", func := "tipstaff/tipstafflaw13.PortsBack", spec := "portsBack", apart := false }
def PortsBackSaid : Prop := portsBackRow.holds Try.pinned (OpenSpec.ofChange portsBackSpec)

/-- ITS FALSE NEIGHBOUR: 'it returns false'. Refute it at one input. -/
def portsBackWrong : ChangeSpec := { name := "portsBack", fn := fun _ => fun
  | [d1, d2, d3] => { results := [.lit (.bool false)], args := [d1, d2, d3] }
  | _ => none }
def PortsBackWrongFalsely : Prop := portsBackRow.holds Try.pinned (OpenSpec.ofChange portsBackWrong)

/-- 'tipstafflaw13.PortsRanges': WHATEVER THE INPUT: true; the input reads as it did. -/
def portsRangesSpec : ChangeSpec := { name := "portsRanges", fn := fun _ => fun
  | [d1, d2, d3] => { results := [.lit (.bool true)], args := [d1, d2, d3] }
  | _ => none }
def portsRangesRow : OpenClaim := { program := "ytkflphnldnannaa", sum := "6a3b37be20e59dc234e873ad1d97577b9852b1e6deeefc9be2a186788d7124a9", func := "tipstaff/tipstafflaw13.PortsRanges", spec := "portsRanges", apart := false }
def PortsRangesSaid : Prop := portsRangesRow.holds Try.pinned (OpenSpec.ofChange portsRangesSpec)

/-- ITS FALSE NEIGHBOUR: 'it returns false'. Refute it at one input. -/
def portsRangesWrong : ChangeSpec := { name := "portsRanges", fn := fun _ => fun
  | [d1, d2, d3] => { results := [.lit (.bool false)], args := [d1, d2, d3] }
  | _ => none }
def PortsRangesWrongFalsely : Prop := portsRangesRow.holds Try.pinned (OpenSpec.ofChange portsRangesWrong)

/-- 'tipstafflaw13.PortsLists': WHATEVER THE INPUT: true; the input reads as it did. -/
def portsListsSpec : ChangeSpec := { name := "portsLists", fn := fun _ => fun
  | [d] => { results := [.lit (.bool true)], args := [d] }
  | _ => none }
def portsListsRow : OpenClaim := { program := "ytkflphnldnannaa", sum := "6a3b37be20e59dc234e873ad1d97577b9852b1e6deeefc9be2a186788d7124a9", func := "tipstaff/tipstafflaw13.PortsLists", spec := "portsLists", apart := false }
def PortsListsSaid : Prop := portsListsRow.holds Try.pinned (OpenSpec.ofChange portsListsSpec)

/-- ITS FALSE NEIGHBOUR: 'it returns false'. Refute it at one input. -/
def portsListsWrong : ChangeSpec := { name := "portsLists", fn := fun _ => fun
  | [d] => { results := [.lit (.bool false)], args := [d] }
  | _ => none }
def PortsListsWrongFalsely : Prop := portsListsRow.holds Try.pinned (OpenSpec.ofChange portsListsWrong)

/- THE SECOND FORM. 'bulk': how many values and letters a reading holds, each counted each time it is reached (what is shared counts as often as it is met; a slice's spare places count too). A statement '..UptoSaid' is the law's where the arguments, and the package variables that the reading takes, are together of bulk at most 1048576: NARROWER than '..Said'. Prove '..Said' where nothing that the law and all that it calls make is longer than what came in: it says more and counts as full. Else prove '..UptoSaid'. A law counts once. -/
mutual
def uptoBulk {H : Type} : DataW H → Nat
  | .lit (.string bytes) => bytes.length + 1
  | .lit _ => 1
  | .nil => 1
  | .ptr d => uptoBulk d + 1
  | .slice elems spare => uptoBulkAll elems + uptoBulkAll spare + 1
  | .agg parts => uptoBulkAll parts + 1
  | .iface _ d => uptoBulk d + 1
  | .map entries => uptoBulkEntries entries + 1
  | .held _ => 1
def uptoBulkAll {H : Type} : List (DataW H) → Nat
  | [] => 0
  | d :: r => uptoBulk d + uptoBulkAll r
def uptoBulkEntries {H : Type} : List (Lit × DataW H) → Nat
  | [] => 0
  | x :: r => uptoBulkEntry x + uptoBulkEntries r
def uptoBulkEntry {H : Type} : Lit × DataW H → Nat
  | (.string bytes, d) => bytes.length + uptoBulk d + 1
  | (_, d) => uptoBulk d + 1
 end
def uptoSmall : (H : Type) → List (DataW H) → Bool := fun _ ds => decide (uptoBulkAll ds ≤ 1048576)
def OpenSpec.upto (s : _root_.Go.ChangeSpec) : _root_.Go.OpenSpec := { _root_.Go.OpenSpec.ofChange s with cond := some uptoSmall }

/-- 'tipstafflaw13.PortsSays', WHERE WHAT IT READS IS OF BULK AT MOST 1048576: true; the input reads as it did. -/
def portsSaysUptoRow : OpenClaim := { program := "ytkflphnldnannaa", sum := "6a3b37be20e59dc234e873ad1d97577b9852b1e6deeefc9be2a186788d7124a9", func := "tipstaff/tipstafflaw13.PortsSays", spec := "portsSays", apart := false, narrowed := true }
def PortsSaysUptoSaid : Prop := portsSaysUptoRow.holds Try.pinned (OpenSpec.upto portsSaysSpec)

/-- 'tipstafflaw13.PortsBack', WHERE WHAT IT READS IS OF BULK AT MOST 1048576: true; the input reads as it did. -/
def portsBackUptoRow : OpenClaim := { program := "ytkflphnldnannaa", sum := "6a3b37be20e59dc234e873ad1d97577b9852b1e6deeefc9be2a186788d7124a9", func := "tipstaff/tipstafflaw13.PortsBack", spec := "portsBack", apart := false, narrowed := true }
def PortsBackUptoSaid : Prop := portsBackUptoRow.holds Try.pinned (OpenSpec.upto portsBackSpec)

/-- 'tipstafflaw13.PortsRanges', WHERE WHAT IT READS IS OF BULK AT MOST 1048576: true; the input reads as it did. -/
def portsRangesUptoRow : OpenClaim := { program := "ytkflphnldnannaa", sum := "6a3b37be20e59dc234e873ad1d97577b9852b1e6deeefc9be2a186788d7124a9", func := "tipstaff/tipstafflaw13.PortsRanges", spec := "portsRanges", apart := false, narrowed := true }
def PortsRangesUptoSaid : Prop := portsRangesUptoRow.holds Try.pinned (OpenSpec.upto portsRangesSpec)

/-- 'tipstafflaw13.PortsLists', WHERE WHAT IT READS IS OF BULK AT MOST 1048576: true; the input reads as it did. -/
def portsListsUptoRow : OpenClaim := { program := "ytkflphnldnannaa", sum := "6a3b37be20e59dc234e873ad1d97577b9852b1e6deeefc9be2a186788d7124a9", func := "tipstaff/tipstafflaw13.PortsLists", spec := "portsLists", apart := false, narrowed := true }
def PortsListsUptoSaid : Prop := portsListsUptoRow.holds Try.pinned (OpenSpec.upto portsListsSpec)

end Rows
end Go.Proofs.Ytkflphnldnannaa
