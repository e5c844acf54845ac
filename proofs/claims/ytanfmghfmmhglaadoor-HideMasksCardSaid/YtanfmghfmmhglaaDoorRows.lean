/-
  NARROWER THAN 'FOR EVERY INPUT', by the rows' own cells (each row's printed sentence says how): HideSays: laid · HideBack: laid · HideMasks: laid.
  DERIVED. THE GIVEN ROWS OF THIS SEAT. 3 by the template 'for every input the law returns true; each argument reads behind the call as it read before'; 0 by the template 'total and deterministic' (their statements: YtanfmghfmmhglaaDoorTotals.lean).
  GIVEN WITH THE SEED: the statements are not yours to turn. If you find one false, say at which input.
  Laid BY PROGRAM, IN A SANDBOX (cutbox-rows.mjs): the forced cells as the released guide's own fill.sh prints them over the translation fef12410cfbc5b42… (all of the seat's roots in one cut). By AI agents, Wed Nov 11 2026. No macro, syntax, notation, axiom, sorry.
-/
import Derived.Test.YtanfmghfmmhglaaDoorChecked
import GoSem.PinnedTables
import GoSem.Claim
import GoSem.ClaimJoined
import GoSem.ClaimMapViews
import Derived.JoinedTies
import Derived.KernelRfl
namespace Go.Proofs.YtanfmghfmmhglaaDoor
/- THE CELL 'sum', in the pinned program and in every row, IS THE sha256 OF THE DUMP (.gsa) THAT YtanfmghfmmhglaaDoorProg.lean LOADS. Nothing in Lean hashes anything: it is a label: what it is worth is what the hold of that sum in a sandbox is worth. -/
noncomputable def Tryd.pinned : Pinned := { name := "ytanfmghfmmhglaadoor", sum := "fef12410cfbc5b42995239a1c73a3648668711075ca8c113bcb4e8d50f8c33bc", checked := Tryd.checked }
namespace Rows
def none {H : Type} : Left H := { results := [], args := [] }

/- WHAT THE LISTED PACKAGE-LEVEL VARIABLES READ AS WHEN THE CALL BEGINS. Each datum BY PROGRAM (the guide's laid-datum.mjs) off the statement by which the dump's own 'gosem.cut.vars' lays the variable. In a bare row this is a premise. The card (YtanfmghfmmhglaaDoorCards.lean) ties it to the program's text. -/
def laid_unicode_utf8_acceptRanges {H : Type} : DataW H := .agg [.agg [.lit (.int .u8 128), .lit (.int .u8 191)], .agg [.lit (.int .u8 160), .lit (.int .u8 191)], .agg [.lit (.int .u8 128), .lit (.int .u8 159)], .agg [.lit (.int .u8 144), .lit (.int .u8 191)], .agg [.lit (.int .u8 128), .lit (.int .u8 143)], .agg [.lit (.int .u8 0), .lit (.int .u8 0)], .agg [.lit (.int .u8 0), .lit (.int .u8 0)], .agg [.lit (.int .u8 0), .lit (.int .u8 0)], .agg [.lit (.int .u8 0), .lit (.int .u8 0)], .agg [.lit (.int .u8 0), .lit (.int .u8 0)], .agg [.lit (.int .u8 0), .lit (.int .u8 0)], .agg [.lit (.int .u8 0), .lit (.int .u8 0)], .agg [.lit (.int .u8 0), .lit (.int .u8 0)], .agg [.lit (.int .u8 0), .lit (.int .u8 0)], .agg [.lit (.int .u8 0), .lit (.int .u8 0)], .agg [.lit (.int .u8 0), .lit (.int .u8 0)]]
def laid_tipstaff_digest_constants {H : Type} : DataW H := .agg [.lit (.int .u32 3614090360), .lit (.int .u32 3905402710), .lit (.int .u32 606105819), .lit (.int .u32 3250441966), .lit (.int .u32 4118548399), .lit (.int .u32 1200080426), .lit (.int .u32 2821735955), .lit (.int .u32 4249261313), .lit (.int .u32 1770035416), .lit (.int .u32 2336552879), .lit (.int .u32 4294925233), .lit (.int .u32 2304563134), .lit (.int .u32 1804603682), .lit (.int .u32 4254626195), .lit (.int .u32 2792965006), .lit (.int .u32 1236535329), .lit (.int .u32 4129170786), .lit (.int .u32 3225465664), .lit (.int .u32 643717713), .lit (.int .u32 3921069994), .lit (.int .u32 3593408605), .lit (.int .u32 38016083), .lit (.int .u32 3634488961), .lit (.int .u32 3889429448), .lit (.int .u32 568446438), .lit (.int .u32 3275163606), .lit (.int .u32 4107603335), .lit (.int .u32 1163531501), .lit (.int .u32 2850285829), .lit (.int .u32 4243563512), .lit (.int .u32 1735328473), .lit (.int .u32 2368359562), .lit (.int .u32 4294588738), .lit (.int .u32 2272392833), .lit (.int .u32 1839030562), .lit (.int .u32 4259657740), .lit (.int .u32 2763975236), .lit (.int .u32 1272893353), .lit (.int .u32 4139469664), .lit (.int .u32 3200236656), .lit (.int .u32 681279174), .lit (.int .u32 3936430074), .lit (.int .u32 3572445317), .lit (.int .u32 76029189), .lit (.int .u32 3654602809), .lit (.int .u32 3873151461), .lit (.int .u32 530742520), .lit (.int .u32 3299628645), .lit (.int .u32 4096336452), .lit (.int .u32 1126891415), .lit (.int .u32 2878612391), .lit (.int .u32 4237533241), .lit (.int .u32 1700485571), .lit (.int .u32 2399980690), .lit (.int .u32 4293915773), .lit (.int .u32 2240044497), .lit (.int .u32 1873313359), .lit (.int .u32 4264355552), .lit (.int .u32 2734768916), .lit (.int .u32 1309151649), .lit (.int .u32 4149444226), .lit (.int .u32 3174756917), .lit (.int .u32 718787259), .lit (.int .u32 3951481745)]
def laid_tipstaff_digest_turns {H : Type} : DataW H := .agg [.agg [.lit (.int .i64 7), .lit (.int .i64 12), .lit (.int .i64 17), .lit (.int .i64 22)], .agg [.lit (.int .i64 5), .lit (.int .i64 9), .lit (.int .i64 14), .lit (.int .i64 20)], .agg [.lit (.int .i64 4), .lit (.int .i64 11), .lit (.int .i64 16), .lit (.int .i64 23)], .agg [.lit (.int .i64 6), .lit (.int .i64 10), .lit (.int .i64 15), .lit (.int .i64 21)]]
/-- One of Go's own tables, pinned by name: the form's constant. -/
def laid_unicode_utf8_first : DataW Unit := Go.Pinned.utf8First

/-- 'tipstafflaw12.HideSays': WHATEVER THE INPUT: true; the input reads as it did. -/
def hideSaysSpec : ChangeSpec := { name := "hideSays", fn := fun _ => fun
  | [d1, d2, d3] => { results := [.lit (.bool true)], args := [d1, d2, d3] }
  | _ => none }
def hideSaysRow : OpenClaim := { program := "ytanfmghfmmhglaadoor", sum := "fef12410cfbc5b42995239a1c73a3648668711075ca8c113bcb4e8d50f8c33bc", func := "tipstaff/tipstafflaw12.HideSays", spec := "hideSays", inPlace := ["internal/abi.NoEscape", "internal/bytealg.MakeNoZero", "internal/bytealg.IndexByteString", "internal/bytealg.IndexString"], named := ["tipstaff/digest.turns", "tipstaff/digest.constants", "unicode/utf8.first", "unicode/utf8.acceptRanges", "internal/bytealg.MaxLen"], apart := false, laid := [("unicode/utf8.acceptRanges", laid_unicode_utf8_acceptRanges), ("tipstaff/digest.constants", laid_tipstaff_digest_constants), ("tipstaff/digest.turns", laid_tipstaff_digest_turns), ("unicode/utf8.first", laid_unicode_utf8_first)] }
def HideSaysSaid : Prop := hideSaysRow.holds Tryd.pinned (OpenSpec.ofChange hideSaysSpec)

/-- ITS FALSE NEIGHBOUR: 'it returns false'. Refute it at one input. -/
def hideSaysWrong : ChangeSpec := { name := "hideSays", fn := fun _ => fun
  | [d1, d2, d3] => { results := [.lit (.bool false)], args := [d1, d2, d3] }
  | _ => none }
def HideSaysWrongFalsely : Prop := hideSaysRow.holds Tryd.pinned (OpenSpec.ofChange hideSaysWrong)

/-- 'tipstafflaw12.HideBack': WHATEVER THE INPUT: true; the input reads as it did. -/
def hideBackSpec : ChangeSpec := { name := "hideBack", fn := fun _ => fun
  | [d1, d2, d3] => { results := [.lit (.bool true)], args := [d1, d2, d3] }
  | _ => none }
def hideBackRow : OpenClaim := { program := "ytanfmghfmmhglaadoor", sum := "fef12410cfbc5b42995239a1c73a3648668711075ca8c113bcb4e8d50f8c33bc", func := "tipstaff/tipstafflaw12.HideBack", spec := "hideBack", inPlace := ["internal/abi.NoEscape", "internal/bytealg.MakeNoZero", "internal/bytealg.IndexByteString", "internal/bytealg.IndexString"], named := ["tipstaff/digest.turns", "tipstaff/digest.constants", "unicode/utf8.first", "unicode/utf8.acceptRanges", "internal/bytealg.MaxLen"], apart := false, laid := [("unicode/utf8.acceptRanges", laid_unicode_utf8_acceptRanges), ("tipstaff/digest.constants", laid_tipstaff_digest_constants), ("tipstaff/digest.turns", laid_tipstaff_digest_turns), ("unicode/utf8.first", laid_unicode_utf8_first)] }
def HideBackSaid : Prop := hideBackRow.holds Tryd.pinned (OpenSpec.ofChange hideBackSpec)

/-- ITS FALSE NEIGHBOUR: 'it returns false'. Refute it at one input. -/
def hideBackWrong : ChangeSpec := { name := "hideBack", fn := fun _ => fun
  | [d1, d2, d3] => { results := [.lit (.bool false)], args := [d1, d2, d3] }
  | _ => none }
def HideBackWrongFalsely : Prop := hideBackRow.holds Tryd.pinned (OpenSpec.ofChange hideBackWrong)

/-- 'tipstafflaw12.HideMasks': WHATEVER THE INPUT: true; the input reads as it did. -/
def hideMasksSpec : ChangeSpec := { name := "hideMasks", fn := fun _ => fun
  | [d1, d2] => { results := [.lit (.bool true)], args := [d1, d2] }
  | _ => none }
def hideMasksRow : OpenClaim := { program := "ytanfmghfmmhglaadoor", sum := "fef12410cfbc5b42995239a1c73a3648668711075ca8c113bcb4e8d50f8c33bc", func := "tipstaff/tipstafflaw12.HideMasks", spec := "hideMasks", inPlace := ["internal/abi.NoEscape", "internal/bytealg.MakeNoZero", "internal/bytealg.IndexByteString", "internal/bytealg.IndexString"], named := ["tipstaff/digest.turns", "tipstaff/digest.constants", "unicode/utf8.first", "unicode/utf8.acceptRanges", "internal/bytealg.MaxLen"], apart := false, laid := [("unicode/utf8.acceptRanges", laid_unicode_utf8_acceptRanges), ("tipstaff/digest.constants", laid_tipstaff_digest_constants), ("tipstaff/digest.turns", laid_tipstaff_digest_turns), ("unicode/utf8.first", laid_unicode_utf8_first)] }
def HideMasksSaid : Prop := hideMasksRow.holds Tryd.pinned (OpenSpec.ofChange hideMasksSpec)

/-- ITS FALSE NEIGHBOUR: 'it returns false'. Refute it at one input. -/
def hideMasksWrong : ChangeSpec := { name := "hideMasks", fn := fun _ => fun
  | [d1, d2] => { results := [.lit (.bool false)], args := [d1, d2] }
  | _ => none }
def HideMasksWrongFalsely : Prop := hideMasksRow.holds Tryd.pinned (OpenSpec.ofChange hideMasksWrong)

/- THE SECOND FORM. 'bulk': how many values and letters a reading holds, each counted each time it is reached (what is shared counts as often as it is met; a slice's spare places count too). A statement '..UptoSaid' is the law's where the arguments, and the package variables that the reading takes, are together of bulk at most 1048576: NARROWER than '..Said'. Prove '..Said' where nothing that the law and all that it calls make is longer than what came in: it says more and counts as full. Else prove '..UptoSaid'. A law counts once. -/
mutual
def uptoBulk {H : Type} : DataW H → Nat
  | .lit (.string bytes) => bytes.length + 1
  | .lit _ => 1
  | .nil => 1
  | .ptr d => uptoBulk d + 1
  | .slice elems spare => uptoBulkAll elems + uptoBulkAll spare + 1
  | .agg parts => uptoBulkAll parts + 1
  | .iface _ d => uptoBulk d + 1
  | .map entries => uptoBulkEntries entries + 1
  | .held _ => 1
def uptoBulkAll {H : Type} : List (DataW H) → Nat
  | [] => 0
  | d :: r => uptoBulk d + uptoBulkAll r
def uptoBulkEntries {H : Type} : List (Lit × DataW H) → Nat
  | [] => 0
  | x :: r => uptoBulkEntry x + uptoBulkEntries r
def uptoBulkEntry {H : Type} : Lit × DataW H → Nat
  | (.string bytes, d) => bytes.length + uptoBulk d + 1
  | (_, d) => uptoBulk d + 1
 end
def uptoSmall : (H : Type) → List (DataW H) → Bool := fun _ ds => decide (uptoBulkAll ds ≤ 1048576)
def OpenSpec.upto (s : _root_.Go.ChangeSpec) : _root_.Go.OpenSpec := { _root_.Go.OpenSpec.ofChange s with cond := some uptoSmall }

/-- 'tipstafflaw12.HideSays', WHERE WHAT IT READS IS OF BULK AT MOST 1048576: true; the input reads as it did. -/
def hideSaysUptoRow : OpenClaim := { program := "ytanfmghfmmhglaadoor", sum := "fef12410cfbc5b42995239a1c73a3648668711075ca8c113bcb4e8d50f8c33bc", func := "tipstaff/tipstafflaw12.HideSays", spec := "hideSays", inPlace := ["internal/abi.NoEscape", "internal/bytealg.MakeNoZero", "internal/bytealg.IndexByteString", "internal/bytealg.IndexString"], named := ["tipstaff/digest.turns", "tipstaff/digest.constants", "unicode/utf8.first", "unicode/utf8.acceptRanges", "internal/bytealg.MaxLen"], apart := false, laid := [("unicode/utf8.acceptRanges", laid_unicode_utf8_acceptRanges), ("tipstaff/digest.constants", laid_tipstaff_digest_constants), ("tipstaff/digest.turns", laid_tipstaff_digest_turns), ("unicode/utf8.first", laid_unicode_utf8_first)], narrowed := true }
def HideSaysUptoSaid : Prop := hideSaysUptoRow.holds Tryd.pinned (OpenSpec.upto hideSaysSpec)

/-- 'tipstafflaw12.HideBack', WHERE WHAT IT READS IS OF BULK AT MOST 1048576: true; the input reads as it did. -/
def hideBackUptoRow : OpenClaim := { program := "ytanfmghfmmhglaadoor", sum := "fef12410cfbc5b42995239a1c73a3648668711075ca8c113bcb4e8d50f8c33bc", func := "tipstaff/tipstafflaw12.HideBack", spec := "hideBack", inPlace := ["internal/abi.NoEscape", "internal/bytealg.MakeNoZero", "internal/bytealg.IndexByteString", "internal/bytealg.IndexString"], named := ["tipstaff/digest.turns", "tipstaff/digest.constants", "unicode/utf8.first", "unicode/utf8.acceptRanges", "internal/bytealg.MaxLen"], apart := false, laid := [("unicode/utf8.acceptRanges", laid_unicode_utf8_acceptRanges), ("tipstaff/digest.constants", laid_tipstaff_digest_constants), ("tipstaff/digest.turns", laid_tipstaff_digest_turns), ("unicode/utf8.first", laid_unicode_utf8_first)], narrowed := true }
def HideBackUptoSaid : Prop := hideBackUptoRow.holds Tryd.pinned (OpenSpec.upto hideBackSpec)

/-- 'tipstafflaw12.HideMasks', WHERE WHAT IT READS IS OF BULK AT MOST 1048576: true; the input reads as it did. -/
def hideMasksUptoRow : OpenClaim := { program := "ytanfmghfmmhglaadoor", sum := "fef12410cfbc5b42995239a1c73a3648668711075ca8c113bcb4e8d50f8c33bc", func := "tipstaff/tipstafflaw12.HideMasks", spec := "hideMasks", inPlace := ["internal/abi.NoEscape", "internal/bytealg.MakeNoZero", "internal/bytealg.IndexByteString", "internal/bytealg.IndexString"], named := ["tipstaff/digest.turns", "tipstaff/digest.constants", "unicode/utf8.first", "unicode/utf8.acceptRanges", "internal/bytealg.MaxLen"], apart := false, laid := [("unicode/utf8.acceptRanges", laid_unicode_utf8_acceptRanges), ("tipstaff/digest.constants", laid_tipstaff_digest_constants), ("tipstaff/digest.turns", laid_tipstaff_digest_turns), ("unicode/utf8.first", laid_unicode_utf8_first)], narrowed := true }
def HideMasksUptoSaid : Prop := hideMasksUptoRow.holds Tryd.pinned (OpenSpec.upto hideMasksSpec)

end Rows
end Go.Proofs.YtanfmghfmmhglaaDoor
