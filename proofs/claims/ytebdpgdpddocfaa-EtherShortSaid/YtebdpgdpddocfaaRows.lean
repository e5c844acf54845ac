/-
  No cell of these rows narrows 'for every input' (looked for: loops, veiled, ifaces, maps, wideKeys, modest, calm, conditions, laid).
  DERIVED. THE GIVEN ROWS OF THIS SEAT. 5 by the template 'for every input the law returns true; each argument reads behind the call as it read before'; 0 by the template 'total and deterministic' (their statements: YtebdpgdpddocfaaTotals.lean).
  GIVEN WITH THE SEED: the statements are not yours to turn. If you find one false, say at which input.
  Laid BY PROGRAM, IN A SANDBOX (cutbox-rows.mjs): the forced cells as the released guide's own fill.sh prints them over the translation 133a204899c5b975… (all of the seat's roots in one cut). By AI agents, Wed Nov 11 2026. No macro, syntax, notation, axiom, sorry.
-/
import Derived.Test.YtebdpgdpddocfaaChecked
import GoSem.Claim
import GoSem.ClaimJoined
import GoSem.ClaimMapViews
import Derived.JoinedTies
import Derived.KernelRfl
namespace Go.Proofs.Ytebdpgdpddocfaa
/- THE CELL 'sum', in the pinned program and in every row, IS THE sha256 OF THE DUMP (.gsa) THAT YtebdpgdpddocfaaProg.lean LOADS. Nothing in Lean hashes anything: it is a label: what it is worth is what the hold of that sum in a sandbox is worth. -/
noncomputable def Try.pinned : Pinned := { name := "ytebdpgdpddocfaa", sum := "133a204899c5b9752ac99df72a27155599accee6bc52253172adec6f1917f9e9", checked := Try.checked }
namespace Rows
def none {H : Type} : Left H := { results := [], args := [] }

/-- 'tipstafflaw03.EtherSays': WHATEVER THE INPUT: true; the input reads as it did. -/
def etherSaysSpec : ChangeSpec := { name := "etherSays", fn := fun _ => fun
  | [d1, d2, d3] => { results := [.lit (.bool true)], args := [d1, d2, d3] }
  | _ => none }
def etherSaysRow : OpenClaim := { program := "ytebdpgdpddocfaa", sum := "133a204899c5b9752ac99df72a27155599accee6bc52253172adec6f1917f9e9", func := "tipstaff/tipstafflaw03.EtherSays", spec := "etherSays", apart := false }
def EtherSaysSaid : Prop := etherSaysRow.holds Try.pinned (OpenSpec.ofChange etherSaysSpec)

/-- ITS FALSE NEIGHBOUR: 'it returns false'. Refute it at one input. -/
def etherSaysWrong : ChangeSpec := { name := "etherSays", fn := fun _ => fun
  | [d1, d2, d3] => { results := [.lit (.bool false)], args := [d1, d2, d3] }
  | _ => none }
def EtherSaysWrongFalsely : Prop := etherSaysRow.holds Try.pinned (OpenSpec.ofChange etherSaysWrong)

/-- 'tipstafflaw03.EtherBack': WHATEVER THE INPUT: true; the input reads as it did. -/
def etherBackSpec : ChangeSpec := { name := "etherBack", fn := fun _ => fun
  | [d1, d2] => { results := [.lit (.bool true)], args := [d1, d2] }
  | _ => none }
def etherBackRow : OpenClaim := { program := "ytebdpgdpddocfaa", sum := "133a204899c5b9752ac99df72a27155599accee6bc52253172adec6f1917f9e9", func := "tipstaff/tipstafflaw03.EtherBack", spec := "etherBack", apart := false }
def EtherBackSaid : Prop := etherBackRow.holds Try.pinned (OpenSpec.ofChange etherBackSpec)

/-- ITS FALSE NEIGHBOUR: 'it returns false'. Refute it at one input. -/
def etherBackWrong : ChangeSpec := { name := "etherBack", fn := fun _ => fun
  | [d1, d2] => { results := [.lit (.bool false)], args := [d1, d2] }
  | _ => none }
def EtherBackWrongFalsely : Prop := etherBackRow.holds Try.pinned (OpenSpec.ofChange etherBackWrong)

/-- 'tipstafflaw03.EtherTags': WHATEVER THE INPUT: true; the input reads as it did. -/
def etherTagsSpec : ChangeSpec := { name := "etherTags", fn := fun _ => fun
  | [d1, d2, d3] => { results := [.lit (.bool true)], args := [d1, d2, d3] }
  | _ => none }
def etherTagsRow : OpenClaim := { program := "ytebdpgdpddocfaa", sum := "133a204899c5b9752ac99df72a27155599accee6bc52253172adec6f1917f9e9", func := "tipstaff/tipstafflaw03.EtherTags", spec := "etherTags", apart := false }
def EtherTagsSaid : Prop := etherTagsRow.holds Try.pinned (OpenSpec.ofChange etherTagsSpec)

/-- ITS FALSE NEIGHBOUR: 'it returns false'. Refute it at one input. -/
def etherTagsWrong : ChangeSpec := { name := "etherTags", fn := fun _ => fun
  | [d1, d2, d3] => { results := [.lit (.bool false)], args := [d1, d2, d3] }
  | _ => none }
def EtherTagsWrongFalsely : Prop := etherTagsRow.holds Try.pinned (OpenSpec.ofChange etherTagsWrong)

/-- 'tipstafflaw03.EtherShort': WHATEVER THE INPUT: true; the input reads as it did. -/
def etherShortSpec : ChangeSpec := { name := "etherShort", fn := fun _ => fun
  | [d1, d2] => { results := [.lit (.bool true)], args := [d1, d2] }
  | _ => none }
def etherShortRow : OpenClaim := { program := "ytebdpgdpddocfaa", sum := "133a204899c5b9752ac99df72a27155599accee6bc52253172adec6f1917f9e9", func := "tipstaff/tipstafflaw03.EtherShort", spec := "etherShort", inPlace := ["internal/abi.NoEscape", "internal/bytealg.MakeNoZero"], apart := false }
def EtherShortSaid : Prop := etherShortRow.holds Try.pinned (OpenSpec.ofChange etherShortSpec)

/-- ITS FALSE NEIGHBOUR: 'it returns false'. Refute it at one input. -/
def etherShortWrong : ChangeSpec := { name := "etherShort", fn := fun _ => fun
  | [d1, d2] => { results := [.lit (.bool false)], args := [d1, d2] }
  | _ => none }
def EtherShortWrongFalsely : Prop := etherShortRow.holds Try.pinned (OpenSpec.ofChange etherShortWrong)

/-- 'tipstafflaw03.EtherLong': WHATEVER THE INPUT: true; the input reads as it did. -/
def etherLongSpec : ChangeSpec := { name := "etherLong", fn := fun _ => fun
  | [d] => { results := [.lit (.bool true)], args := [d] }
  | _ => none }
def etherLongRow : OpenClaim := { program := "ytebdpgdpddocfaa", sum := "133a204899c5b9752ac99df72a27155599accee6bc52253172adec6f1917f9e9", func := "tipstaff/tipstafflaw03.EtherLong", spec := "etherLong", apart := false }
def EtherLongSaid : Prop := etherLongRow.holds Try.pinned (OpenSpec.ofChange etherLongSpec)

/-- ITS FALSE NEIGHBOUR: 'it returns false'. Refute it at one input. -/
def etherLongWrong : ChangeSpec := { name := "etherLong", fn := fun _ => fun
  | [d] => { results := [.lit (.bool false)], args := [d] }
  | _ => none }
def EtherLongWrongFalsely : Prop := etherLongRow.holds Try.pinned (OpenSpec.ofChange etherLongWrong)

/- THE SECOND FORM. 'bulk': how many values and letters a reading holds, each counted each time it is reached (what is shared counts as often as it is met; a slice's spare places count too). A statement '..UptoSaid' is the law's where the arguments, and the package variables that the reading takes, are together of bulk at most 1048576: NARROWER than '..Said'. Prove '..Said' where nothing that the law and all that it calls make is longer than what came in: it says more and counts as full. Else prove '..UptoSaid'. A law counts once. -/
mutual
def uptoBulk {H : Type} : DataW H → Nat
  | .lit (.string bytes) => bytes.length + 1
  | .lit _ => 1
  | .nil => 1
  | .ptr d => uptoBulk d + 1
  | .slice elems spare => uptoBulkAll elems + uptoBulkAll spare + 1
  | .agg parts => uptoBulkAll parts + 1
  | .iface _ d => uptoBulk d + 1
  | .map entries => uptoBulkEntries entries + 1
  | .held _ => 1
def uptoBulkAll {H : Type} : List (DataW H) → Nat
  | [] => 0
  | d :: r => uptoBulk d + uptoBulkAll r
def uptoBulkEntries {H : Type} : List (Lit × DataW H) → Nat
  | [] => 0
  | x :: r => uptoBulkEntry x + uptoBulkEntries r
def uptoBulkEntry {H : Type} : Lit × DataW H → Nat
  | (.string bytes, d) => bytes.length + uptoBulk d + 1
  | (_, d) => uptoBulk d + 1
 end
def uptoSmall : (H : Type) → List (DataW H) → Bool := fun _ ds => decide (uptoBulkAll ds ≤ 1048576)
def OpenSpec.upto (s : _root_.Go.ChangeSpec) : _root_.Go.OpenSpec := { _root_.Go.OpenSpec.ofChange s with cond := some uptoSmall }

/-- 'tipstafflaw03.EtherSays', WHERE WHAT IT READS IS OF BULK AT MOST 1048576: true; the input reads as it did. -/
def etherSaysUptoRow : OpenClaim := { program := "ytebdpgdpddocfaa", sum := "133a204899c5b9752ac99df72a27155599accee6bc52253172adec6f1917f9e9", func := "tipstaff/tipstafflaw03.EtherSays", spec := "etherSays", apart := false, narrowed := true }
def EtherSaysUptoSaid : Prop := etherSaysUptoRow.holds Try.pinned (OpenSpec.upto etherSaysSpec)

/-- 'tipstafflaw03.EtherBack', WHERE WHAT IT READS IS OF BULK AT MOST 1048576: true; the input reads as it did. -/
def etherBackUptoRow : OpenClaim := { program := "ytebdpgdpddocfaa", sum := "133a204899c5b9752ac99df72a27155599accee6bc52253172adec6f1917f9e9", func := "tipstaff/tipstafflaw03.EtherBack", spec := "etherBack", apart := false, narrowed := true }
def EtherBackUptoSaid : Prop := etherBackUptoRow.holds Try.pinned (OpenSpec.upto etherBackSpec)

/-- 'tipstafflaw03.EtherTags', WHERE WHAT IT READS IS OF BULK AT MOST 1048576: true; the input reads as it did. -/
def etherTagsUptoRow : OpenClaim := { program := "ytebdpgdpddocfaa", sum := "133a204899c5b9752ac99df72a27155599accee6bc52253172adec6f1917f9e9", func := "tipstaff/tipstafflaw03.EtherTags", spec := "etherTags", apart := false, narrowed := true }
def EtherTagsUptoSaid : Prop := etherTagsUptoRow.holds Try.pinned (OpenSpec.upto etherTagsSpec)

/-- 'tipstafflaw03.EtherShort', WHERE WHAT IT READS IS OF BULK AT MOST 1048576: true; the input reads as it did. -/
def etherShortUptoRow : OpenClaim := { program := "ytebdpgdpddocfaa", sum := "133a204899c5b9752ac99df72a27155599accee6bc52253172adec6f1917f9e9", func := "tipstaff/tipstafflaw03.EtherShort", spec := "etherShort", inPlace := ["internal/abi.NoEscape", "internal/bytealg.MakeNoZero"], apart := false, narrowed := true }
def EtherShortUptoSaid : Prop := etherShortUptoRow.holds Try.pinned (OpenSpec.upto etherShortSpec)

/-- 'tipstafflaw03.EtherLong', WHERE WHAT IT READS IS OF BULK AT MOST 1048576: true; the input reads as it did. -/
def etherLongUptoRow : OpenClaim := { program := "ytebdpgdpddocfaa", sum := "133a204899c5b9752ac99df72a27155599accee6bc52253172adec6f1917f9e9", func := "tipstaff/tipstafflaw03.EtherLong", spec := "etherLong", apart := false, narrowed := true }
def EtherLongUptoSaid : Prop := etherLongUptoRow.holds Try.pinned (OpenSpec.upto etherLongSpec)

end Rows
end Go.Proofs.Ytebdpgdpddocfaa
