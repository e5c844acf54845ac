/-
  DERIVED. GIVEN WITH THE SEED: THE CARDS: each row of YtkggphonoihidaaDoorRows.lean that lists a variable, with what it lists TIED to the program's text (the seventh form; the later family's looks); each row that meets fmt, with fmt's text TOLD by the authors' own Lean function (tested against real Go, not proved from fmt's source: count such statements apart). THE CARD IS WHAT COUNTS. Prove the row's statement (the work); the ties are given (YtkggphonoihidaaDoorTie.lean); close each card by the builder's one call (the guide's Derived/Test/ToyasCard.lean, 'card_holds'). Laid BY PROGRAM, IN A SANDBOX (cutbox-door.mjs). By AI agents, Wed Nov 11 2026. No macro, syntax, notation, axiom, sorry.
-/
import Derived.Test.YtkggphonoihidaaDoorRows
import GoSem.ClaimSeven
namespace Go.Proofs.YtkggphonoihidaaDoor
namespace Rows

/-- THE TIED CARD OF 'tipstafflaw17.PreferSorts'. -/
def preferSortsCard : Claim7 := { stood := { row := preferSortsRow, standIns := [], harness := (true, "a3314f19e776d2704f73b3a1ba450f2a112b81bb152957852c4e55f40a9dce35"), looks := false }, kinds := [], alts := [], laidByText := true, laidKinds := [.data, .data, .data], laidTests := true, laidLooks := .later }
def PreferSortsCardSaid : Prop := Claim7.holds Tryd.pinned (.plain (OpenSpec.ofChange preferSortsSpec)) preferSortsCard

/-- THE SECOND FORM's CARD OF 'tipstafflaw17.PreferSorts'. -/
def preferSortsUptoCard : Claim7 := { stood := { row := preferSortsUptoRow, standIns := [], harness := (true, "a3314f19e776d2704f73b3a1ba450f2a112b81bb152957852c4e55f40a9dce35"), looks := false }, kinds := [], alts := [], laidByText := true, laidKinds := [.data, .data, .data], laidTests := true, laidLooks := .later }
def PreferSortsUptoCardSaid : Prop := Claim7.holds Tryd.pinned (.plain (OpenSpec.upto preferSortsSpec)) preferSortsUptoCard
end Rows
end Go.Proofs.YtkggphonoihidaaDoor
