/-
  No cell of these rows narrows 'for every input' (looked for: loops, veiled, ifaces, maps, wideKeys, modest, calm, conditions, laid).
  DERIVED. THE GIVEN ROWS OF THIS SEAT. 4 by the template 'for every input the law returns true; each argument reads behind the call as it read before'; 0 by the template 'total and deterministic' (their statements: YtmgjjcadeikdgaaTotals.lean).
  GIVEN WITH THE SEED: the statements are not yours to turn. If you find one false, say at which input.
  Laid BY PROGRAM, IN A SANDBOX (cutbox-rows.mjs): the forced cells as the released guide's own fill.sh prints them over the translation 450e60d3bceb9646… (all of the seat's roots in one cut). By AI agents, Wed Nov 11 2026. No macro, syntax, notation, axiom, sorry.
-/
import Derived.Test.YtmgjjcadeikdgaaChecked
import GoSem.Claim
import GoSem.ClaimJoined
import GoSem.ClaimMapViews
import Derived.JoinedTies
import Derived.KernelRfl
namespace Go.Proofs.Ytmgjjcadeikdgaa
/- THE CELL 'sum', in the pinned program and in every row, IS THE sha256 OF THE DUMP (.gsa) THAT YtmgjjcadeikdgaaProg.lean LOADS. Nothing in Lean hashes anything: it is a label: what it is worth is what the hold of that sum in a sandbox is worth. -/
noncomputable def Try.pinned : Pinned := { name := "ytmgjjcadeikdgaa", sum := "450e60d3bceb964611d783505dfdf08310792c422facf453edc3fd2f9c69bf96", checked := Try.checked }
namespace Rows
def none {H : Type} : Left H := { results := [], args := [] }

/-- 'tipstafflaw05.EapSays': WHATEVER THE INPUT: true; the input reads as it did. -/
def eapSaysSpec : ChangeSpec := { name := "eapSays", fn := fun _ => fun
  | [d1, d2, d3] => { results := [.lit (.bool true)], args := [d1, d2, d3] }
  | _ => none }
def eapSaysRow : OpenClaim := { program := "ytmgjjcadeikdgaa", sum := "450e60d3bceb964611d783505dfdf08310792c422facf453edc3fd2f9c69bf96", func := "tipstaff/tipstafflaw05.EapSays", spec := "eapSays", apart := false }
def EapSaysSaid : Prop := eapSaysRow.holds Try.pinned (OpenSpec.ofChange eapSaysSpec)

/-- ITS FALSE NEIGHBOUR: 'it returns false'. Refute it at one input. -/
def eapSaysWrong : ChangeSpec := { name := "eapSays", fn := fun _ => fun
  | [d1, d2, d3] => { results := [.lit (.bool false)], args := [d1, d2, d3] }
  | _ => none }
def EapSaysWrongFalsely : Prop := eapSaysRow.holds Try.pinned (OpenSpec.ofChange eapSaysWrong)

/-- 'tipstafflaw05.EapBack': WHATEVER THE INPUT: true; the input reads as it did. -/
def eapBackSpec : ChangeSpec := { name := "eapBack", fn := fun _ => fun
  | [d1, d2] => { results := [.lit (.bool true)], args := [d1, d2] }
  | _ => none }
def eapBackRow : OpenClaim := { program := "ytmgjjcadeikdgaa", sum := "450e60d3bceb964611d783505dfdf08310792c422facf453edc3fd2f9c69bf96", func := "tipstaff/tipstafflaw05.EapBack", spec := "eapBack", apart := false }
def EapBackSaid : Prop := eapBackRow.holds Try.pinned (OpenSpec.ofChange eapBackSpec)

/-- ITS FALSE NEIGHBOUR: 'it returns false'. Refute it at one input. -/
def eapBackWrong : ChangeSpec := { name := "eapBack", fn := fun _ => fun
  | [d1, d2] => { results := [.lit (.bool false)], args := [d1, d2] }
  | _ => none }
def EapBackWrongFalsely : Prop := eapBackRow.holds Try.pinned (OpenSpec.ofChange eapBackWrong)

/-- 'tipstafflaw05.EapRefuses': WHATEVER THE INPUT: true; the input reads as it did. -/
def eapRefusesSpec : ChangeSpec := { name := "eapRefuses", fn := fun _ => fun
  | [d1, d2, d3] => { results := [.lit (.bool true)], args := [d1, d2, d3] }
  | _ => none }
def eapRefusesRow : OpenClaim := { program := "ytmgjjcadeikdgaa", sum := "450e60d3bceb964611d783505dfdf08310792c422facf453edc3fd2f9c69bf96", func := "tipstaff/tipstafflaw05.EapRefuses", spec := "eapRefuses", apart := false }
def EapRefusesSaid : Prop := eapRefusesRow.holds Try.pinned (OpenSpec.ofChange eapRefusesSpec)

/-- ITS FALSE NEIGHBOUR: 'it returns false'. Refute it at one input. -/
def eapRefusesWrong : ChangeSpec := { name := "eapRefuses", fn := fun _ => fun
  | [d1, d2, d3] => { results := [.lit (.bool false)], args := [d1, d2, d3] }
  | _ => none }
def EapRefusesWrongFalsely : Prop := eapRefusesRow.holds Try.pinned (OpenSpec.ofChange eapRefusesWrong)

/-- 'tipstafflaw05.EapEnds': WHATEVER THE INPUT: true; the input reads as it did. -/
def eapEndsSpec : ChangeSpec := { name := "eapEnds", fn := fun _ => fun
  | [d1, d2] => { results := [.lit (.bool true)], args := [d1, d2] }
  | _ => none }
def eapEndsRow : OpenClaim := { program := "ytmgjjcadeikdgaa", sum := "450e60d3bceb964611d783505dfdf08310792c422facf453edc3fd2f9c69bf96", func := "tipstaff/tipstafflaw05.EapEnds", spec := "eapEnds", apart := false }
def EapEndsSaid : Prop := eapEndsRow.holds Try.pinned (OpenSpec.ofChange eapEndsSpec)

/-- ITS FALSE NEIGHBOUR: 'it returns false'. Refute it at one input. -/
def eapEndsWrong : ChangeSpec := { name := "eapEnds", fn := fun _ => fun
  | [d1, d2] => { results := [.lit (.bool false)], args := [d1, d2] }
  | _ => none }
def EapEndsWrongFalsely : Prop := eapEndsRow.holds Try.pinned (OpenSpec.ofChange eapEndsWrong)

/- THE SECOND FORM. 'bulk': how many values and letters a reading holds, each counted each time it is reached (what is shared counts as often as it is met; a slice's spare places count too). A statement '..UptoSaid' is the law's where the arguments, and the package variables that the reading takes, are together of bulk at most 1048576: NARROWER than '..Said'. Prove '..Said' where nothing that the law and all that it calls make is longer than what came in: it says more and counts as full. Else prove '..UptoSaid'. A law counts once. -/
mutual
def uptoBulk {H : Type} : DataW H → Nat
  | .lit (.string bytes) => bytes.length + 1
  | .lit _ => 1
  | .nil => 1
  | .ptr d => uptoBulk d + 1
  | .slice elems spare => uptoBulkAll elems + uptoBulkAll spare + 1
  | .agg parts => uptoBulkAll parts + 1
  | .iface _ d => uptoBulk d + 1
  | .map entries => uptoBulkEntries entries + 1
  | .held _ => 1
def uptoBulkAll {H : Type} : List (DataW H) → Nat
  | [] => 0
  | d :: r => uptoBulk d + uptoBulkAll r
def uptoBulkEntries {H : Type} : List (Lit × DataW H) → Nat
  | [] => 0
  | x :: r => uptoBulkEntry x + uptoBulkEntries r
def uptoBulkEntry {H : Type} : Lit × DataW H → Nat
  | (.string bytes, d) => bytes.length + uptoBulk d + 1
  | (_, d) => uptoBulk d + 1
 end
def uptoSmall : (H : Type) → List (DataW H) → Bool := fun _ ds => decide (uptoBulkAll ds ≤ 1048576)
def OpenSpec.upto (s : _root_.Go.ChangeSpec) : _root_.Go.OpenSpec := { _root_.Go.OpenSpec.ofChange s with cond := some uptoSmall }

/-- 'tipstafflaw05.EapSays', WHERE WHAT IT READS IS OF BULK AT MOST 1048576: true; the input reads as it did. -/
def eapSaysUptoRow : OpenClaim := { program := "ytmgjjcadeikdgaa", sum := "450e60d3bceb964611d783505dfdf08310792c422facf453edc3fd2f9c69bf96", func := "tipstaff/tipstafflaw05.EapSays", spec := "eapSays", apart := false, narrowed := true }
def EapSaysUptoSaid : Prop := eapSaysUptoRow.holds Try.pinned (OpenSpec.upto eapSaysSpec)

/-- 'tipstafflaw05.EapBack', WHERE WHAT IT READS IS OF BULK AT MOST 1048576: true; the input reads as it did. -/
def eapBackUptoRow : OpenClaim := { program := "ytmgjjcadeikdgaa", sum := "450e60d3bceb964611d783505dfdf08310792c422facf453edc3fd2f9c69bf96", func := "tipstaff/tipstafflaw05.EapBack", spec := "eapBack", apart := false, narrowed := true }
def EapBackUptoSaid : Prop := eapBackUptoRow.holds Try.pinned (OpenSpec.upto eapBackSpec)

/-- 'tipstafflaw05.EapRefuses', WHERE WHAT IT READS IS OF BULK AT MOST 1048576: true; the input reads as it did. -/
def eapRefusesUptoRow : OpenClaim := { program := "ytmgjjcadeikdgaa", sum := "450e60d3bceb964611d783505dfdf08310792c422facf453edc3fd2f9c69bf96", func := "tipstaff/tipstafflaw05.EapRefuses", spec := "eapRefuses", apart := false, narrowed := true }
def EapRefusesUptoSaid : Prop := eapRefusesUptoRow.holds Try.pinned (OpenSpec.upto eapRefusesSpec)

/-- 'tipstafflaw05.EapEnds', WHERE WHAT IT READS IS OF BULK AT MOST 1048576: true; the input reads as it did. -/
def eapEndsUptoRow : OpenClaim := { program := "ytmgjjcadeikdgaa", sum := "450e60d3bceb964611d783505dfdf08310792c422facf453edc3fd2f9c69bf96", func := "tipstaff/tipstafflaw05.EapEnds", spec := "eapEnds", apart := false, narrowed := true }
def EapEndsUptoSaid : Prop := eapEndsUptoRow.holds Try.pinned (OpenSpec.upto eapEndsSpec)

end Rows
end Go.Proofs.Ytmgjjcadeikdgaa
