/-
  No cell of these rows narrows 'for every input' (looked for: loops, veiled, ifaces, maps, wideKeys, modest, calm, conditions, laid).
  DERIVED. THE GIVEN ROWS OF THIS SEAT. 5 by the template 'for every input the law returns true; each argument reads behind the call as it read before'; 0 by the template 'total and deterministic' (their statements: YtjocabnhdifedaaTotals.lean).
  GIVEN WITH THE SEED: the statements are not yours to turn. If you find one false, say at which input.
  Laid BY PROGRAM, IN A SANDBOX (cutbox-rows.mjs): the forced cells as the released guide's own fill.sh prints them over the translation b17c6fa8fa94ded9… (all of the seat's roots in one cut). By AI agents, Wed Nov 11 2026. No macro, syntax, notation, axiom, sorry.
-/
import Derived.Test.YtjocabnhdifedaaChecked
import GoSem.Claim
import GoSem.ClaimJoined
import GoSem.ClaimMapViews
import Derived.JoinedTies
import Derived.KernelRfl
namespace Go.Proofs.Ytjocabnhdifedaa
/- THE CELL 'sum', in the pinned program and in every row, IS THE sha256 OF THE DUMP (.gsa) THAT YtjocabnhdifedaaProg.lean LOADS. Nothing in Lean hashes anything: it is a label: what it is worth is what the hold of that sum in a sandbox is worth. -/
noncomputable def Try.pinned : Pinned := { name := "ytjocabnhdifedaa", sum := "b17c6fa8fa94ded997208d50b50ecc27d6e371a7f76423fa9749e38a086eebbf", checked := Try.checked }
namespace Rows
def none {H : Type} : Left H := { results := [], args := [] }

/-- 'tipstafflaw09.AttrSays': WHATEVER THE INPUT: true; the input reads as it did. -/
def attrSaysSpec : ChangeSpec := { name := "attrSays", fn := fun _ => fun
  | [d1, d2, d3] => { results := [.lit (.bool true)], args := [d1, d2, d3] }
  | _ => none }
def attrSaysRow : OpenClaim := { program := "ytjocabnhdifedaa", sum := "b17c6fa8fa94ded997208d50b50ecc27d6e371a7f76423fa9749e38a086eebbf", func := "tipstaff/tipstafflaw09.AttrSays", spec := "attrSays", inPlace := ["internal/abi.NoEscape", "internal/bytealg.MakeNoZero"], apart := false }
def AttrSaysSaid : Prop := attrSaysRow.holds Try.pinned (OpenSpec.ofChange attrSaysSpec)

/-- ITS FALSE NEIGHBOUR: 'it returns false'. Refute it at one input. -/
def attrSaysWrong : ChangeSpec := { name := "attrSays", fn := fun _ => fun
  | [d1, d2, d3] => { results := [.lit (.bool false)], args := [d1, d2, d3] }
  | _ => none }
def AttrSaysWrongFalsely : Prop := attrSaysRow.holds Try.pinned (OpenSpec.ofChange attrSaysWrong)

/-- 'tipstafflaw09.AttrBack': WHATEVER THE INPUT: true; the input reads as it did. -/
def attrBackSpec : ChangeSpec := { name := "attrBack", fn := fun _ => fun
  | [d1, d2] => { results := [.lit (.bool true)], args := [d1, d2] }
  | _ => none }
def attrBackRow : OpenClaim := { program := "ytjocabnhdifedaa", sum := "b17c6fa8fa94ded997208d50b50ecc27d6e371a7f76423fa9749e38a086eebbf", func := "tipstaff/tipstafflaw09.AttrBack", spec := "attrBack", inPlace := ["internal/abi.NoEscape", "internal/bytealg.MakeNoZero"], apart := false }
def AttrBackSaid : Prop := attrBackRow.holds Try.pinned (OpenSpec.ofChange attrBackSpec)

/-- ITS FALSE NEIGHBOUR: 'it returns false'. Refute it at one input. -/
def attrBackWrong : ChangeSpec := { name := "attrBack", fn := fun _ => fun
  | [d1, d2] => { results := [.lit (.bool false)], args := [d1, d2] }
  | _ => none }
def AttrBackWrongFalsely : Prop := attrBackRow.holds Try.pinned (OpenSpec.ofChange attrBackWrong)

/-- 'tipstafflaw09.AttrJoins': WHATEVER THE INPUT: true; the input reads as it did. -/
def attrJoinsSpec : ChangeSpec := { name := "attrJoins", fn := fun _ => fun
  | [d1, d2, d3] => { results := [.lit (.bool true)], args := [d1, d2, d3] }
  | _ => none }
def attrJoinsRow : OpenClaim := { program := "ytjocabnhdifedaa", sum := "b17c6fa8fa94ded997208d50b50ecc27d6e371a7f76423fa9749e38a086eebbf", func := "tipstaff/tipstafflaw09.AttrJoins", spec := "attrJoins", inPlace := ["internal/abi.NoEscape", "internal/bytealg.MakeNoZero"], apart := false }
def AttrJoinsSaid : Prop := attrJoinsRow.holds Try.pinned (OpenSpec.ofChange attrJoinsSpec)

/-- ITS FALSE NEIGHBOUR: 'it returns false'. Refute it at one input. -/
def attrJoinsWrong : ChangeSpec := { name := "attrJoins", fn := fun _ => fun
  | [d1, d2, d3] => { results := [.lit (.bool false)], args := [d1, d2, d3] }
  | _ => none }
def AttrJoinsWrongFalsely : Prop := attrJoinsRow.holds Try.pinned (OpenSpec.ofChange attrJoinsWrong)

/-- 'tipstafflaw09.AttrSwaps': WHATEVER THE INPUT: true; the input reads as it did. -/
def attrSwapsSpec : ChangeSpec := { name := "attrSwaps", fn := fun _ => fun
  | [d1, d2] => { results := [.lit (.bool true)], args := [d1, d2] }
  | _ => none }
def attrSwapsRow : OpenClaim := { program := "ytjocabnhdifedaa", sum := "b17c6fa8fa94ded997208d50b50ecc27d6e371a7f76423fa9749e38a086eebbf", func := "tipstaff/tipstafflaw09.AttrSwaps", spec := "attrSwaps", inPlace := ["internal/abi.NoEscape", "internal/bytealg.MakeNoZero"], apart := false }
def AttrSwapsSaid : Prop := attrSwapsRow.holds Try.pinned (OpenSpec.ofChange attrSwapsSpec)

/-- ITS FALSE NEIGHBOUR: 'it returns false'. Refute it at one input. -/
def attrSwapsWrong : ChangeSpec := { name := "attrSwaps", fn := fun _ => fun
  | [d1, d2] => { results := [.lit (.bool false)], args := [d1, d2] }
  | _ => none }
def AttrSwapsWrongFalsely : Prop := attrSwapsRow.holds Try.pinned (OpenSpec.ofChange attrSwapsWrong)

/-- 'tipstafflaw09.AttrFinds': WHATEVER THE INPUT: true; the input reads as it did. -/
def attrFindsSpec : ChangeSpec := { name := "attrFinds", fn := fun _ => fun
  | [d1, d2] => { results := [.lit (.bool true)], args := [d1, d2] }
  | _ => none }
def attrFindsRow : OpenClaim := { program := "ytjocabnhdifedaa", sum := "b17c6fa8fa94ded997208d50b50ecc27d6e371a7f76423fa9749e38a086eebbf", func := "tipstaff/tipstafflaw09.AttrFinds", spec := "attrFinds", inPlace := ["internal/abi.NoEscape", "internal/bytealg.MakeNoZero"], apart := false }
def AttrFindsSaid : Prop := attrFindsRow.holds Try.pinned (OpenSpec.ofChange attrFindsSpec)

/-- ITS FALSE NEIGHBOUR: 'it returns false'. Refute it at one input. -/
def attrFindsWrong : ChangeSpec := { name := "attrFinds", fn := fun _ => fun
  | [d1, d2] => { results := [.lit (.bool false)], args := [d1, d2] }
  | _ => none }
def AttrFindsWrongFalsely : Prop := attrFindsRow.holds Try.pinned (OpenSpec.ofChange attrFindsWrong)

/- THE SECOND FORM. 'bulk': how many values and letters a reading holds, each counted each time it is reached (what is shared counts as often as it is met; a slice's spare places count too). A statement '..UptoSaid' is the law's where the arguments, and the package variables that the reading takes, are together of bulk at most 1048576: NARROWER than '..Said'. Prove '..Said' where nothing that the law and all that it calls make is longer than what came in: it says more and counts as full. Else prove '..UptoSaid'. A law counts once. -/
mutual
def uptoBulk {H : Type} : DataW H → Nat
  | .lit (.string bytes) => bytes.length + 1
  | .lit _ => 1
  | .nil => 1
  | .ptr d => uptoBulk d + 1
  | .slice elems spare => uptoBulkAll elems + uptoBulkAll spare + 1
  | .agg parts => uptoBulkAll parts + 1
  | .iface _ d => uptoBulk d + 1
  | .map entries => uptoBulkEntries entries + 1
  | .held _ => 1
def uptoBulkAll {H : Type} : List (DataW H) → Nat
  | [] => 0
  | d :: r => uptoBulk d + uptoBulkAll r
def uptoBulkEntries {H : Type} : List (Lit × DataW H) → Nat
  | [] => 0
  | x :: r => uptoBulkEntry x + uptoBulkEntries r
def uptoBulkEntry {H : Type} : Lit × DataW H → Nat
  | (.string bytes, d) => bytes.length + uptoBulk d + 1
  | (_, d) => uptoBulk d + 1
 end
def uptoSmall : (H : Type) → List (DataW H) → Bool := fun _ ds => decide (uptoBulkAll ds ≤ 1048576)
def OpenSpec.upto (s : _root_.Go.ChangeSpec) : _root_.Go.OpenSpec := { _root_.Go.OpenSpec.ofChange s with cond := some uptoSmall }

/-- 'tipstafflaw09.AttrSays', WHERE WHAT IT READS IS OF BULK AT MOST 1048576: true; the input reads as it did. -/
def attrSaysUptoRow : OpenClaim := { program := "ytjocabnhdifedaa", sum := "b17c6fa8fa94ded997208d50b50ecc27d6e371a7f76423fa9749e38a086eebbf", func := "tipstaff/tipstafflaw09.AttrSays", spec := "attrSays", inPlace := ["internal/abi.NoEscape", "internal/bytealg.MakeNoZero"], apart := false, narrowed := true }
def AttrSaysUptoSaid : Prop := attrSaysUptoRow.holds Try.pinned (OpenSpec.upto attrSaysSpec)

/-- 'tipstafflaw09.AttrBack', WHERE WHAT IT READS IS OF BULK AT MOST 1048576: true; the input reads as it did. -/
def attrBackUptoRow : OpenClaim := { program := "ytjocabnhdifedaa", sum := "b17c6fa8fa94ded997208d50b50ecc27d6e371a7f76423fa9749e38a086eebbf", func := "tipstaff/tipstafflaw09.AttrBack", spec := "attrBack", inPlace := ["internal/abi.NoEscape", "internal/bytealg.MakeNoZero"], apart := false, narrowed := true }
def AttrBackUptoSaid : Prop := attrBackUptoRow.holds Try.pinned (OpenSpec.upto attrBackSpec)

/-- 'tipstafflaw09.AttrJoins', WHERE WHAT IT READS IS OF BULK AT MOST 1048576: true; the input reads as it did. -/
def attrJoinsUptoRow : OpenClaim := { program := "ytjocabnhdifedaa", sum := "b17c6fa8fa94ded997208d50b50ecc27d6e371a7f76423fa9749e38a086eebbf", func := "tipstaff/tipstafflaw09.AttrJoins", spec := "attrJoins", inPlace := ["internal/abi.NoEscape", "internal/bytealg.MakeNoZero"], apart := false, narrowed := true }
def AttrJoinsUptoSaid : Prop := attrJoinsUptoRow.holds Try.pinned (OpenSpec.upto attrJoinsSpec)

/-- 'tipstafflaw09.AttrSwaps', WHERE WHAT IT READS IS OF BULK AT MOST 1048576: true; the input reads as it did. -/
def attrSwapsUptoRow : OpenClaim := { program := "ytjocabnhdifedaa", sum := "b17c6fa8fa94ded997208d50b50ecc27d6e371a7f76423fa9749e38a086eebbf", func := "tipstaff/tipstafflaw09.AttrSwaps", spec := "attrSwaps", inPlace := ["internal/abi.NoEscape", "internal/bytealg.MakeNoZero"], apart := false, narrowed := true }
def AttrSwapsUptoSaid : Prop := attrSwapsUptoRow.holds Try.pinned (OpenSpec.upto attrSwapsSpec)

/-- 'tipstafflaw09.AttrFinds', WHERE WHAT IT READS IS OF BULK AT MOST 1048576: true; the input reads as it did. -/
def attrFindsUptoRow : OpenClaim := { program := "ytjocabnhdifedaa", sum := "b17c6fa8fa94ded997208d50b50ecc27d6e371a7f76423fa9749e38a086eebbf", func := "tipstaff/tipstafflaw09.AttrFinds", spec := "attrFinds", inPlace := ["internal/abi.NoEscape", "internal/bytealg.MakeNoZero"], apart := false, narrowed := true }
def AttrFindsUptoSaid : Prop := attrFindsUptoRow.holds Try.pinned (OpenSpec.upto attrFindsSpec)

end Rows
end Go.Proofs.Ytjocabnhdifedaa
