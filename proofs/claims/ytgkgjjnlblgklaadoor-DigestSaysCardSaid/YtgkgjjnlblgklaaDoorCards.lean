/-
  DERIVED. GIVEN WITH THE SEED: THE CARDS: each row of YtgkgjjnlblgklaaDoorRows.lean that lists a variable, with what it lists TIED to the program's text (the seventh form; the later family's looks); each row that meets fmt, with fmt's text TOLD by the authors' own Lean function (tested against real Go, not proved from fmt's source: count such statements apart). THE CARD IS WHAT COUNTS. Prove the row's statement (the work); the ties are given (YtgkgjjnlblgklaaDoorTie.lean); close each card by the builder's one call (the guide's Derived/Test/ToyasCard.lean, 'card_holds'). Laid BY PROGRAM, IN A SANDBOX (cutbox-door.mjs). By AI agents, Wed Nov 11 2026. No macro, syntax, notation, axiom, sorry.
-/
import Derived.Test.YtgkgjjnlblgklaaDoorRows
import GoSem.ClaimSeven
namespace Go.Proofs.YtgkgjjnlblgklaaDoor
namespace Rows

/-- THE TIED CARD OF 'tipstafflaw07.DigestSays'. -/
def digestSaysCard : Claim7 := { stood := { row := digestSaysRow, standIns := [], harness := (true, "7ba4a0d205b57f309641270545712f45ee84e05932ee71d3b6bf99fca4085121"), looks := false }, kinds := [], alts := [], laidByText := true, laidKinds := [.data, .data], laidTests := true, laidLooks := .later }
def DigestSaysCardSaid : Prop := Claim7.holds Tryd.pinned (.plain (OpenSpec.ofChange digestSaysSpec)) digestSaysCard

/-- THE TIED CARD OF 'tipstafflaw07.DigestPads'. -/
def digestPadsCard : Claim7 := { stood := { row := digestPadsRow, standIns := [], harness := (true, "7ba4a0d205b57f309641270545712f45ee84e05932ee71d3b6bf99fca4085121"), looks := false }, kinds := [], alts := [], laidByText := true, laidKinds := [.data, .data], laidTests := true, laidLooks := .later }
def DigestPadsCardSaid : Prop := Claim7.holds Tryd.pinned (.plain (OpenSpec.ofChange digestPadsSpec)) digestPadsCard

/-- THE TIED CARD OF 'tipstafflaw07.DigestTurns'. -/
def digestTurnsCard : Claim7 := { stood := { row := digestTurnsRow, standIns := [], harness := (true, "7ba4a0d205b57f309641270545712f45ee84e05932ee71d3b6bf99fca4085121"), looks := false }, kinds := [], alts := [], laidByText := true, laidKinds := [.data, .data], laidTests := true, laidLooks := .later }
def DigestTurnsCardSaid : Prop := Claim7.holds Tryd.pinned (.plain (OpenSpec.ofChange digestTurnsSpec)) digestTurnsCard

/-- THE TIED CARD OF 'tipstafflaw07.DigestBlocks'. -/
def digestBlocksCard : Claim7 := { stood := { row := digestBlocksRow, standIns := [], harness := (true, "7ba4a0d205b57f309641270545712f45ee84e05932ee71d3b6bf99fca4085121"), looks := false }, kinds := [], alts := [], laidByText := true, laidKinds := [.data, .data], laidTests := true, laidLooks := .later }
def DigestBlocksCardSaid : Prop := Claim7.holds Tryd.pinned (.plain (OpenSpec.ofChange digestBlocksSpec)) digestBlocksCard

/-- THE SECOND FORM's CARD OF 'tipstafflaw07.DigestSays'. -/
def digestSaysUptoCard : Claim7 := { stood := { row := digestSaysUptoRow, standIns := [], harness := (true, "7ba4a0d205b57f309641270545712f45ee84e05932ee71d3b6bf99fca4085121"), looks := false }, kinds := [], alts := [], laidByText := true, laidKinds := [.data, .data], laidTests := true, laidLooks := .later }
def DigestSaysUptoCardSaid : Prop := Claim7.holds Tryd.pinned (.plain (OpenSpec.upto digestSaysSpec)) digestSaysUptoCard

/-- THE SECOND FORM's CARD OF 'tipstafflaw07.DigestPads'. -/
def digestPadsUptoCard : Claim7 := { stood := { row := digestPadsUptoRow, standIns := [], harness := (true, "7ba4a0d205b57f309641270545712f45ee84e05932ee71d3b6bf99fca4085121"), looks := false }, kinds := [], alts := [], laidByText := true, laidKinds := [.data, .data], laidTests := true, laidLooks := .later }
def DigestPadsUptoCardSaid : Prop := Claim7.holds Tryd.pinned (.plain (OpenSpec.upto digestPadsSpec)) digestPadsUptoCard

/-- THE SECOND FORM's CARD OF 'tipstafflaw07.DigestTurns'. -/
def digestTurnsUptoCard : Claim7 := { stood := { row := digestTurnsUptoRow, standIns := [], harness := (true, "7ba4a0d205b57f309641270545712f45ee84e05932ee71d3b6bf99fca4085121"), looks := false }, kinds := [], alts := [], laidByText := true, laidKinds := [.data, .data], laidTests := true, laidLooks := .later }
def DigestTurnsUptoCardSaid : Prop := Claim7.holds Tryd.pinned (.plain (OpenSpec.upto digestTurnsSpec)) digestTurnsUptoCard

/-- THE SECOND FORM's CARD OF 'tipstafflaw07.DigestBlocks'. -/
def digestBlocksUptoCard : Claim7 := { stood := { row := digestBlocksUptoRow, standIns := [], harness := (true, "7ba4a0d205b57f309641270545712f45ee84e05932ee71d3b6bf99fca4085121"), looks := false }, kinds := [], alts := [], laidByText := true, laidKinds := [.data, .data], laidTests := true, laidLooks := .later }
def DigestBlocksUptoCardSaid : Prop := Claim7.holds Tryd.pinned (.plain (OpenSpec.upto digestBlocksSpec)) digestBlocksUptoCard
end Rows
end Go.Proofs.YtgkgjjnlblgklaaDoor
