/-
  NARROWER THAN 'FOR EVERY INPUT', by the rows' own cells (each row's printed sentence says how): DecideSays: laid · DecideOnly: laid · DecideFloods: laid.
  DERIVED. THE GIVEN ROWS OF THIS SEAT. 3 by the template 'for every input the law returns true; each argument reads behind the call as it read before'; 0 by the template 'total and deterministic' (their statements: YtmojegnflcokjaaDoorTotals.lean).
  GIVEN WITH THE SEED: the statements are not yours to turn. If you find one false, say at which input.
  Laid BY PROGRAM, IN A SANDBOX (cutbox-rows.mjs): the forced cells as the released guide's own fill.sh prints them over the translation f432cbc3fcb81340… (all of the seat's roots in one cut). By AI agents, Wed Nov 11 2026. No macro, syntax, notation, axiom, sorry.
-/
import Derived.Test.YtmojegnflcokjaaDoorChecked
import GoSem.Claim
import GoSem.ClaimJoined
import GoSem.ClaimMapViews
import Derived.JoinedTies
import Derived.KernelRfl
namespace Go.Proofs.YtmojegnflcokjaaDoor
/- THE CELL 'sum', in the pinned program and in every row, IS THE sha256 OF THE DUMP (.gsa) THAT YtmojegnflcokjaaDoorProg.lean LOADS. Nothing in Lean hashes anything: it is a label: what it is worth is what the hold of that sum in a sandbox is worth. -/
noncomputable def Tryd.pinned : Pinned := { name := "ytmojegnflcokjaadoor", sum := "f432cbc3fcb8134090b9f08c5af1e336db05ac011e404500cecae8021d34516a", checked := Tryd.checked }
namespace Rows
def none {H : Type} : Left H := { results := [], args := [] }

/- WHAT THE LISTED PACKAGE-LEVEL VARIABLES READ AS WHEN THE CALL BEGINS. Each datum BY PROGRAM (the guide's laid-datum.mjs) off the statement by which the dump's own 'gosem.cut.vars' lays the variable. In a bare row this is a premise. The card (YtmojegnflcokjaaDoorCards.lean) ties it to the program's text. -/
def laid_tipstaff_mac_reserved {H : Type} : DataW H := .agg [.lit (.int .u64 1652522221568), .lit (.int .u64 1652522221569), .lit (.int .u64 1652522221570), .lit (.int .u64 1652522221571), .lit (.int .u64 1652522221572), .lit (.int .u64 1652522221573), .lit (.int .u64 1652522221574), .lit (.int .u64 1652522221575), .lit (.int .u64 1652522221576), .lit (.int .u64 1652522221577), .lit (.int .u64 1652522221578), .lit (.int .u64 1652522221579), .lit (.int .u64 1652522221580), .lit (.int .u64 1652522221581), .lit (.int .u64 1652522221582), .lit (.int .u64 1652522221583)]

/-- 'tipstafflaw16.DecideSays': WHATEVER THE INPUT: true; the input reads as it did. -/
def decideSaysSpec : ChangeSpec := { name := "decideSays", fn := fun _ => fun
  | [d1, d2, d3] => { results := [.lit (.bool true)], args := [d1, d2, d3] }
  | _ => none }
def decideSaysRow : OpenClaim := { program := "ytmojegnflcokjaadoor", sum := "f432cbc3fcb8134090b9f08c5af1e336db05ac011e404500cecae8021d34516a", func := "tipstaff/tipstafflaw16.DecideSays", spec := "decideSays", inPlace := ["slices.overlaps[tipstaff/api.Entry]"], unfollowed := true, recurses := true, named := ["tipstaff/mac.reserved"], apart := false, laid := [("tipstaff/mac.reserved", laid_tipstaff_mac_reserved)] }
def DecideSaysSaid : Prop := decideSaysRow.holds Tryd.pinned (OpenSpec.ofChange decideSaysSpec)

/-- ITS FALSE NEIGHBOUR: 'it returns false'. Refute it at one input. -/
def decideSaysWrong : ChangeSpec := { name := "decideSays", fn := fun _ => fun
  | [d1, d2, d3] => { results := [.lit (.bool false)], args := [d1, d2, d3] }
  | _ => none }
def DecideSaysWrongFalsely : Prop := decideSaysRow.holds Tryd.pinned (OpenSpec.ofChange decideSaysWrong)

/-- 'tipstafflaw16.DecideOnly': WHATEVER THE INPUT: true; the input reads as it did. -/
def decideOnlySpec : ChangeSpec := { name := "decideOnly", fn := fun _ => fun
  | [d1, d2, d3] => { results := [.lit (.bool true)], args := [d1, d2, d3] }
  | _ => none }
def decideOnlyRow : OpenClaim := { program := "ytmojegnflcokjaadoor", sum := "f432cbc3fcb8134090b9f08c5af1e336db05ac011e404500cecae8021d34516a", func := "tipstaff/tipstafflaw16.DecideOnly", spec := "decideOnly", inPlace := ["slices.overlaps[tipstaff/api.Entry]"], unfollowed := true, recurses := true, named := ["tipstaff/mac.reserved"], apart := false, laid := [("tipstaff/mac.reserved", laid_tipstaff_mac_reserved)] }
def DecideOnlySaid : Prop := decideOnlyRow.holds Tryd.pinned (OpenSpec.ofChange decideOnlySpec)

/-- ITS FALSE NEIGHBOUR: 'it returns false'. Refute it at one input. -/
def decideOnlyWrong : ChangeSpec := { name := "decideOnly", fn := fun _ => fun
  | [d1, d2, d3] => { results := [.lit (.bool false)], args := [d1, d2, d3] }
  | _ => none }
def DecideOnlyWrongFalsely : Prop := decideOnlyRow.holds Tryd.pinned (OpenSpec.ofChange decideOnlyWrong)

/-- 'tipstafflaw16.DecideFloods': WHATEVER THE INPUT: true; the input reads as it did. -/
def decideFloodsSpec : ChangeSpec := { name := "decideFloods", fn := fun _ => fun
  | [d1, d2, d3] => { results := [.lit (.bool true)], args := [d1, d2, d3] }
  | _ => none }
def decideFloodsRow : OpenClaim := { program := "ytmojegnflcokjaadoor", sum := "f432cbc3fcb8134090b9f08c5af1e336db05ac011e404500cecae8021d34516a", func := "tipstaff/tipstafflaw16.DecideFloods", spec := "decideFloods", inPlace := ["slices.overlaps[tipstaff/api.Entry]"], unfollowed := true, recurses := true, named := ["tipstaff/mac.reserved"], apart := false, laid := [("tipstaff/mac.reserved", laid_tipstaff_mac_reserved)] }
def DecideFloodsSaid : Prop := decideFloodsRow.holds Tryd.pinned (OpenSpec.ofChange decideFloodsSpec)

/-- ITS FALSE NEIGHBOUR: 'it returns false'. Refute it at one input. -/
def decideFloodsWrong : ChangeSpec := { name := "decideFloods", fn := fun _ => fun
  | [d1, d2, d3] => { results := [.lit (.bool false)], args := [d1, d2, d3] }
  | _ => none }
def DecideFloodsWrongFalsely : Prop := decideFloodsRow.holds Tryd.pinned (OpenSpec.ofChange decideFloodsWrong)

/- THE SECOND FORM. 'bulk': how many values and letters a reading holds, each counted each time it is reached (what is shared counts as often as it is met; a slice's spare places count too). A statement '..UptoSaid' is the law's where the arguments, and the package variables that the reading takes, are together of bulk at most 1048576: NARROWER than '..Said'. Prove '..Said' where nothing that the law and all that it calls make is longer than what came in: it says more and counts as full. Else prove '..UptoSaid'. A law counts once. -/
mutual
def uptoBulk {H : Type} : DataW H → Nat
  | .lit (.string bytes) => bytes.length + 1
  | .lit _ => 1
  | .nil => 1
  | .ptr d => uptoBulk d + 1
  | .slice elems spare => uptoBulkAll elems + uptoBulkAll spare + 1
  | .agg parts => uptoBulkAll parts + 1
  | .iface _ d => uptoBulk d + 1
  | .map entries => uptoBulkEntries entries + 1
  | .held _ => 1
def uptoBulkAll {H : Type} : List (DataW H) → Nat
  | [] => 0
  | d :: r => uptoBulk d + uptoBulkAll r
def uptoBulkEntries {H : Type} : List (Lit × DataW H) → Nat
  | [] => 0
  | x :: r => uptoBulkEntry x + uptoBulkEntries r
def uptoBulkEntry {H : Type} : Lit × DataW H → Nat
  | (.string bytes, d) => bytes.length + uptoBulk d + 1
  | (_, d) => uptoBulk d + 1
 end
def uptoSmall : (H : Type) → List (DataW H) → Bool := fun _ ds => decide (uptoBulkAll ds ≤ 1048576)
def OpenSpec.upto (s : _root_.Go.ChangeSpec) : _root_.Go.OpenSpec := { _root_.Go.OpenSpec.ofChange s with cond := some uptoSmall }

/-- 'tipstafflaw16.DecideSays', WHERE WHAT IT READS IS OF BULK AT MOST 1048576: true; the input reads as it did. -/
def decideSaysUptoRow : OpenClaim := { program := "ytmojegnflcokjaadoor", sum := "f432cbc3fcb8134090b9f08c5af1e336db05ac011e404500cecae8021d34516a", func := "tipstaff/tipstafflaw16.DecideSays", spec := "decideSays", inPlace := ["slices.overlaps[tipstaff/api.Entry]"], unfollowed := true, recurses := true, named := ["tipstaff/mac.reserved"], apart := false, laid := [("tipstaff/mac.reserved", laid_tipstaff_mac_reserved)], narrowed := true }
def DecideSaysUptoSaid : Prop := decideSaysUptoRow.holds Tryd.pinned (OpenSpec.upto decideSaysSpec)

/-- 'tipstafflaw16.DecideOnly', WHERE WHAT IT READS IS OF BULK AT MOST 1048576: true; the input reads as it did. -/
def decideOnlyUptoRow : OpenClaim := { program := "ytmojegnflcokjaadoor", sum := "f432cbc3fcb8134090b9f08c5af1e336db05ac011e404500cecae8021d34516a", func := "tipstaff/tipstafflaw16.DecideOnly", spec := "decideOnly", inPlace := ["slices.overlaps[tipstaff/api.Entry]"], unfollowed := true, recurses := true, named := ["tipstaff/mac.reserved"], apart := false, laid := [("tipstaff/mac.reserved", laid_tipstaff_mac_reserved)], narrowed := true }
def DecideOnlyUptoSaid : Prop := decideOnlyUptoRow.holds Tryd.pinned (OpenSpec.upto decideOnlySpec)

/-- 'tipstafflaw16.DecideFloods', WHERE WHAT IT READS IS OF BULK AT MOST 1048576: true; the input reads as it did. -/
def decideFloodsUptoRow : OpenClaim := { program := "ytmojegnflcokjaadoor", sum := "f432cbc3fcb8134090b9f08c5af1e336db05ac011e404500cecae8021d34516a", func := "tipstaff/tipstafflaw16.DecideFloods", spec := "decideFloods", inPlace := ["slices.overlaps[tipstaff/api.Entry]"], unfollowed := true, recurses := true, named := ["tipstaff/mac.reserved"], apart := false, laid := [("tipstaff/mac.reserved", laid_tipstaff_mac_reserved)], narrowed := true }
def DecideFloodsUptoSaid : Prop := decideFloodsUptoRow.holds Tryd.pinned (OpenSpec.upto decideFloodsSpec)

end Rows
end Go.Proofs.YtmojegnflcokjaaDoor
