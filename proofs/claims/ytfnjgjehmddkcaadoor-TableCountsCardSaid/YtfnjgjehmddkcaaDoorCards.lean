/-
  DERIVED. GIVEN WITH THE SEED: THE CARDS: each row of YtfnjgjehmddkcaaDoorRows.lean that lists a variable, with what it lists TIED to the program's text (the seventh form; the later family's looks); each row that meets fmt, with fmt's text TOLD by the authors' own Lean function (tested against real Go, not proved from fmt's source: count such statements apart). THE CARD IS WHAT COUNTS. Prove the row's statement (the work); the ties are given (YtfnjgjehmddkcaaDoorTie.lean); close each card by the builder's one call (the guide's Derived/Test/ToyasCard.lean, 'card_holds'). Laid BY PROGRAM, IN A SANDBOX (cutbox-door.mjs). By AI agents, Wed Nov 11 2026. No macro, syntax, notation, axiom, sorry.
-/
import Derived.Test.YtfnjgjehmddkcaaDoorRows
import GoSem.ClaimSeven
namespace Go.Proofs.YtfnjgjehmddkcaaDoor
namespace Rows

/-- THE TIED CARD OF 'tipstafflaw14.TableCounts'. -/
def tableCountsCard : Claim7 := { stood := { row := tableCountsRow, standIns := [], harness := (true, "c9c35a1d1ea88cd8450ec29cb8d065b8a1fab8806fa797dec04663a44b3fe097"), looks := false }, kinds := [], alts := [], laidByText := true, laidKinds := [.data, .data, .data], laidTests := true, laidLooks := .later }
def TableCountsCardSaid : Prop := Claim7.holds Tryd.pinned (.plain (OpenSpec.ofChange tableCountsSpec)) tableCountsCard

/-- THE SECOND FORM's CARD OF 'tipstafflaw14.TableCounts'. -/
def tableCountsUptoCard : Claim7 := { stood := { row := tableCountsUptoRow, standIns := [], harness := (true, "c9c35a1d1ea88cd8450ec29cb8d065b8a1fab8806fa797dec04663a44b3fe097"), looks := false }, kinds := [], alts := [], laidByText := true, laidKinds := [.data, .data, .data], laidTests := true, laidLooks := .later }
def TableCountsUptoCardSaid : Prop := Claim7.holds Tryd.pinned (.plain (OpenSpec.upto tableCountsSpec)) tableCountsUptoCard
end Rows
end Go.Proofs.YtfnjgjehmddkcaaDoor
