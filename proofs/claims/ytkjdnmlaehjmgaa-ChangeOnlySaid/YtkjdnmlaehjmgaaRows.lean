/-
  No cell of these rows narrows 'for every input' (looked for: loops, veiled, ifaces, maps, wideKeys, modest, calm, conditions, laid).
  DERIVED. THE GIVEN ROWS OF THIS SEAT. 2 by the template 'for every input the law returns true; each argument reads behind the call as it read before'; 0 by the template 'total and deterministic' (their statements: YtkjdnmlaehjmgaaTotals.lean).
  GIVEN WITH THE SEED: the statements are not yours to turn. If you find one false, say at which input.
  Laid BY PROGRAM, IN A SANDBOX (cutbox-rows.mjs): the forced cells as the released guide's own fill.sh prints them over the translation 53cfe71ea69695f0… (all of the seat's roots in one cut). By AI agents, Wed Nov 11 2026. No macro, syntax, notation, axiom, sorry.
-/
import Derived.Test.YtkjdnmlaehjmgaaChecked
import GoSem.Claim
import GoSem.ClaimJoined
import GoSem.ClaimMapViews
import Derived.JoinedTies
import Derived.KernelRfl
namespace Go.Proofs.Ytkjdnmlaehjmgaa
/- THE CELL 'sum', in the pinned program and in every row, IS THE sha256 OF THE DUMP (.gsa) THAT YtkjdnmlaehjmgaaProg.lean LOADS. Nothing in Lean hashes anything: it is a label: what it is worth is what the hold of that sum in a sandbox is worth. -/
noncomputable def Try.pinned : Pinned := { name := "ytkjdnmlaehjmgaa", sum := "53cfe71ea69695f02a281aaa35bc833ed3cced4bfde1e5147c11ac0e47cf1bb3", checked := Try.checked }
namespace Rows
def none {H : Type} : Left H := { results := [], args := [] }

/-- 'tipstafflaw22.ChangeSays': WHATEVER THE INPUT: true; the input reads as it did. -/
def changeSaysSpec : ChangeSpec := { name := "changeSays", fn := fun _ => fun
  | [d1, d2, d3] => { results := [.lit (.bool true)], args := [d1, d2, d3] }
  | _ => none }
def changeSaysRow : OpenClaim := { program := "ytkjdnmlaehjmgaa", sum := "53cfe71ea69695f02a281aaa35bc833ed3cced4bfde1e5147c11ac0e47cf1bb3", func := "tipstaff/tipstafflaw22.ChangeSays", spec := "changeSays", unfollowed := true, recurses := true, apart := false }
def ChangeSaysSaid : Prop := changeSaysRow.holds Try.pinned (OpenSpec.ofChange changeSaysSpec)

/-- ITS FALSE NEIGHBOUR: 'it returns false'. Refute it at one input. -/
def changeSaysWrong : ChangeSpec := { name := "changeSays", fn := fun _ => fun
  | [d1, d2, d3] => { results := [.lit (.bool false)], args := [d1, d2, d3] }
  | _ => none }
def ChangeSaysWrongFalsely : Prop := changeSaysRow.holds Try.pinned (OpenSpec.ofChange changeSaysWrong)

/-- 'tipstafflaw22.ChangeOnly': WHATEVER THE INPUT: true; the input reads as it did. -/
def changeOnlySpec : ChangeSpec := { name := "changeOnly", fn := fun _ => fun
  | [d1, d2] => { results := [.lit (.bool true)], args := [d1, d2] }
  | _ => none }
def changeOnlyRow : OpenClaim := { program := "ytkjdnmlaehjmgaa", sum := "53cfe71ea69695f02a281aaa35bc833ed3cced4bfde1e5147c11ac0e47cf1bb3", func := "tipstaff/tipstafflaw22.ChangeOnly", spec := "changeOnly", unfollowed := true, recurses := true, apart := false }
def ChangeOnlySaid : Prop := changeOnlyRow.holds Try.pinned (OpenSpec.ofChange changeOnlySpec)

/-- ITS FALSE NEIGHBOUR: 'it returns false'. Refute it at one input. -/
def changeOnlyWrong : ChangeSpec := { name := "changeOnly", fn := fun _ => fun
  | [d1, d2] => { results := [.lit (.bool false)], args := [d1, d2] }
  | _ => none }
def ChangeOnlyWrongFalsely : Prop := changeOnlyRow.holds Try.pinned (OpenSpec.ofChange changeOnlyWrong)

/- THE SECOND FORM. 'bulk': how many values and letters a reading holds, each counted each time it is reached (what is shared counts as often as it is met; a slice's spare places count too). A statement '..UptoSaid' is the law's where the arguments, and the package variables that the reading takes, are together of bulk at most 1048576: NARROWER than '..Said'. Prove '..Said' where nothing that the law and all that it calls make is longer than what came in: it says more and counts as full. Else prove '..UptoSaid'. A law counts once. -/
mutual
def uptoBulk {H : Type} : DataW H → Nat
  | .lit (.string bytes) => bytes.length + 1
  | .lit _ => 1
  | .nil => 1
  | .ptr d => uptoBulk d + 1
  | .slice elems spare => uptoBulkAll elems + uptoBulkAll spare + 1
  | .agg parts => uptoBulkAll parts + 1
  | .iface _ d => uptoBulk d + 1
  | .map entries => uptoBulkEntries entries + 1
  | .held _ => 1
def uptoBulkAll {H : Type} : List (DataW H) → Nat
  | [] => 0
  | d :: r => uptoBulk d + uptoBulkAll r
def uptoBulkEntries {H : Type} : List (Lit × DataW H) → Nat
  | [] => 0
  | x :: r => uptoBulkEntry x + uptoBulkEntries r
def uptoBulkEntry {H : Type} : Lit × DataW H → Nat
  | (.string bytes, d) => bytes.length + uptoBulk d + 1
  | (_, d) => uptoBulk d + 1
 end
def uptoSmall : (H : Type) → List (DataW H) → Bool := fun _ ds => decide (uptoBulkAll ds ≤ 1048576)
def OpenSpec.upto (s : _root_.Go.ChangeSpec) : _root_.Go.OpenSpec := { _root_.Go.OpenSpec.ofChange s with cond := some uptoSmall }

/-- 'tipstafflaw22.ChangeSays', WHERE WHAT IT READS IS OF BULK AT MOST 1048576: true; the input reads as it did. -/
def changeSaysUptoRow : OpenClaim := { program := "ytkjdnmlaehjmgaa", sum := "53cfe71ea69695f02a281aaa35bc833ed3cced4bfde1e5147c11ac0e47cf1bb3", func := "tipstaff/tipstafflaw22.ChangeSays", spec := "changeSays", unfollowed := true, recurses := true, apart := false, narrowed := true }
def ChangeSaysUptoSaid : Prop := changeSaysUptoRow.holds Try.pinned (OpenSpec.upto changeSaysSpec)

/-- 'tipstafflaw22.ChangeOnly', WHERE WHAT IT READS IS OF BULK AT MOST 1048576: true; the input reads as it did. -/
def changeOnlyUptoRow : OpenClaim := { program := "ytkjdnmlaehjmgaa", sum := "53cfe71ea69695f02a281aaa35bc833ed3cced4bfde1e5147c11ac0e47cf1bb3", func := "tipstaff/tipstafflaw22.ChangeOnly", spec := "changeOnly", unfollowed := true, recurses := true, apart := false, narrowed := true }
def ChangeOnlyUptoSaid : Prop := changeOnlyUptoRow.holds Try.pinned (OpenSpec.upto changeOnlySpec)

end Rows
end Go.Proofs.Ytkjdnmlaehjmgaa
