/-
  DERIVED. GIVEN WITH THE SEED: THE CARDS: each row of YtjahkolecjpleaaDoorRows.lean that lists a variable, with what it lists TIED to the program's text (the seventh form; the later family's looks); each row that meets fmt, with fmt's text TOLD by the authors' own Lean function (tested against real Go, not proved from fmt's source: count such statements apart). THE CARD IS WHAT COUNTS. Prove the row's statement (the work); the ties are given (YtjahkolecjpleaaDoorTie.lean); close each card by the builder's one call (the guide's Derived/Test/ToyasCard.lean, 'card_holds'). Laid BY PROGRAM, IN A SANDBOX (cutbox-door.mjs). By AI agents, Wed Nov 11 2026. No macro, syntax, notation, axiom, sorry.
-/
import Derived.Test.YtjahkolecjpleaaDoorRows
import GoSem.ClaimSeven
namespace Go.Proofs.YtjahkolecjpleaaDoor
namespace Rows

/-- THE TIED CARD OF 'tipstafflaw08.KeyedSays'. -/
def keyedSaysCard : Claim7 := { stood := { row := keyedSaysRow, standIns := [], harness := (true, "d429f114629257f5ecd86d0649585e4e7f60a20e4f394364aad51379ccf60190"), looks := false }, kinds := [], alts := [], laidByText := true, laidKinds := [.data, .data], laidTests := true, laidLooks := .later }
def KeyedSaysCardSaid : Prop := Claim7.holds Tryd.pinned (.plain (OpenSpec.ofChange keyedSaysSpec)) keyedSaysCard

/-- THE TIED CARD OF 'tipstafflaw08.KeyedCuts'. -/
def keyedCutsCard : Claim7 := { stood := { row := keyedCutsRow, standIns := [], harness := (true, "d429f114629257f5ecd86d0649585e4e7f60a20e4f394364aad51379ccf60190"), looks := false }, kinds := [], alts := [], laidByText := true, laidKinds := [.data, .data], laidTests := true, laidLooks := .later }
def KeyedCutsCardSaid : Prop := Claim7.holds Tryd.pinned (.plain (OpenSpec.ofChange keyedCutsSpec)) keyedCutsCard

/-- THE TIED CARD OF 'tipstafflaw08.KeyedLong'. -/
def keyedLongCard : Claim7 := { stood := { row := keyedLongRow, standIns := [], harness := (true, "d429f114629257f5ecd86d0649585e4e7f60a20e4f394364aad51379ccf60190"), looks := false }, kinds := [], alts := [], laidByText := true, laidKinds := [.data, .data], laidTests := true, laidLooks := .later }
def KeyedLongCardSaid : Prop := Claim7.holds Tryd.pinned (.plain (OpenSpec.ofChange keyedLongSpec)) keyedLongCard

/-- THE SECOND FORM's CARD OF 'tipstafflaw08.KeyedSays'. -/
def keyedSaysUptoCard : Claim7 := { stood := { row := keyedSaysUptoRow, standIns := [], harness := (true, "d429f114629257f5ecd86d0649585e4e7f60a20e4f394364aad51379ccf60190"), looks := false }, kinds := [], alts := [], laidByText := true, laidKinds := [.data, .data], laidTests := true, laidLooks := .later }
def KeyedSaysUptoCardSaid : Prop := Claim7.holds Tryd.pinned (.plain (OpenSpec.upto keyedSaysSpec)) keyedSaysUptoCard

/-- THE SECOND FORM's CARD OF 'tipstafflaw08.KeyedCuts'. -/
def keyedCutsUptoCard : Claim7 := { stood := { row := keyedCutsUptoRow, standIns := [], harness := (true, "d429f114629257f5ecd86d0649585e4e7f60a20e4f394364aad51379ccf60190"), looks := false }, kinds := [], alts := [], laidByText := true, laidKinds := [.data, .data], laidTests := true, laidLooks := .later }
def KeyedCutsUptoCardSaid : Prop := Claim7.holds Tryd.pinned (.plain (OpenSpec.upto keyedCutsSpec)) keyedCutsUptoCard

/-- THE SECOND FORM's CARD OF 'tipstafflaw08.KeyedLong'. -/
def keyedLongUptoCard : Claim7 := { stood := { row := keyedLongUptoRow, standIns := [], harness := (true, "d429f114629257f5ecd86d0649585e4e7f60a20e4f394364aad51379ccf60190"), looks := false }, kinds := [], alts := [], laidByText := true, laidKinds := [.data, .data], laidTests := true, laidLooks := .later }
def KeyedLongUptoCardSaid : Prop := Claim7.holds Tryd.pinned (.plain (OpenSpec.upto keyedLongSpec)) keyedLongUptoCard
end Rows
end Go.Proofs.YtjahkolecjpleaaDoor
