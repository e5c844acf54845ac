/-
  DERIVED. GIVEN WITH THE SEED: THE CARDS: each row of YtaeeonohakkgbaaDoorRows.lean that lists a variable, with what it lists TIED to the program's text (the seventh form; the later family's looks); each row that meets fmt, with fmt's text TOLD by the authors' own Lean function (tested against real Go, not proved from fmt's source: count such statements apart). THE CARD IS WHAT COUNTS. Prove the row's statement (the work); the ties are given (YtaeeonohakkgbaaDoorTie.lean); close each card by the builder's one call (the guide's Derived/Test/ToyasCard.lean, 'card_holds'). Laid BY PROGRAM, IN A SANDBOX (cutbox-door.mjs). By AI agents, Wed Nov 11 2026. No macro, syntax, notation, axiom, sorry.
-/
import Derived.Test.YtaeeonohakkgbaaDoorRows
import GoSem.ClaimSeven
namespace Go.Proofs.YtaeeonohakkgbaaDoor
namespace Rows

/-- THE TIED CARD OF 'tipstafflaw11.SignSays'. -/
def signSaysCard : Claim7 := { stood := { row := signSaysRow, standIns := [], harness := (true, "1beee94e67342d58a2972833843763909d4c26051eaff42d8ea9ef2bb718a9e8"), looks := false }, kinds := [], alts := [], laidByText := true, laidKinds := [.data, .data], laidTests := true, laidLooks := .later }
def SignSaysCardSaid : Prop := Claim7.holds Tryd.pinned (.plain (OpenSpec.ofChange signSaysSpec)) signSaysCard

/-- THE TIED CARD OF 'tipstafflaw11.SignPasses'. -/
def signPassesCard : Claim7 := { stood := { row := signPassesRow, standIns := [], harness := (true, "1beee94e67342d58a2972833843763909d4c26051eaff42d8ea9ef2bb718a9e8"), looks := false }, kinds := [], alts := [], laidByText := true, laidKinds := [.data, .data], laidTests := true, laidLooks := .later }
def SignPassesCardSaid : Prop := Claim7.holds Tryd.pinned (.plain (OpenSpec.ofChange signPassesSpec)) signPassesCard

/-- THE SECOND FORM's CARD OF 'tipstafflaw11.SignSays'. -/
def signSaysUptoCard : Claim7 := { stood := { row := signSaysUptoRow, standIns := [], harness := (true, "1beee94e67342d58a2972833843763909d4c26051eaff42d8ea9ef2bb718a9e8"), looks := false }, kinds := [], alts := [], laidByText := true, laidKinds := [.data, .data], laidTests := true, laidLooks := .later }
def SignSaysUptoCardSaid : Prop := Claim7.holds Tryd.pinned (.plain (OpenSpec.upto signSaysSpec)) signSaysUptoCard

/-- THE SECOND FORM's CARD OF 'tipstafflaw11.SignPasses'. -/
def signPassesUptoCard : Claim7 := { stood := { row := signPassesUptoRow, standIns := [], harness := (true, "1beee94e67342d58a2972833843763909d4c26051eaff42d8ea9ef2bb718a9e8"), looks := false }, kinds := [], alts := [], laidByText := true, laidKinds := [.data, .data], laidTests := true, laidLooks := .later }
def SignPassesUptoCardSaid : Prop := Claim7.holds Tryd.pinned (.plain (OpenSpec.upto signPassesSpec)) signPassesUptoCard
end Rows
end Go.Proofs.YtaeeonohakkgbaaDoor
