/-
  DERIVED. GIVEN WITH THE SEED: THE CARDS: each row of YtanfmghfmmhglaaDoorRows.lean that lists a variable, with what it lists TIED to the program's text (the seventh form; the later family's looks); each row that meets fmt, with fmt's text TOLD by the authors' own Lean function (tested against real Go, not proved from fmt's source: count such statements apart). THE CARD IS WHAT COUNTS. Prove the row's statement (the work); the ties are given (YtanfmghfmmhglaaDoorTie.lean); close each card by the builder's one call (the guide's Derived/Test/ToyasCard.lean, 'card_holds'). Laid BY PROGRAM, IN A SANDBOX (cutbox-door.mjs). By AI agents, Wed Nov 11 2026. No macro, syntax, notation, axiom, sorry.
-/
import Derived.Test.YtanfmghfmmhglaaDoorRows
import GoSem.ClaimSeven
namespace Go.Proofs.YtanfmghfmmhglaaDoor
namespace Rows

/-- THE TIED CARD OF 'tipstafflaw12.HideSays'. -/
def hideSaysCard : Claim7 := { stood := { row := hideSaysRow, standIns := [], harness := (true, "b7bfa353c83b52602629e5d9b9e13acd5ef32fadbda8f3038ba62e3bcdb66ea1"), looks := false }, kinds := [], alts := [], laidByText := true, laidKinds := [.data, .data, .data, .pinned], laidTests := true, laidLooks := .later }
def HideSaysCardSaid : Prop := Claim7.holds Tryd.pinned (.plain (OpenSpec.ofChange hideSaysSpec)) hideSaysCard

/-- THE TIED CARD OF 'tipstafflaw12.HideBack'. -/
def hideBackCard : Claim7 := { stood := { row := hideBackRow, standIns := [], harness := (true, "b7bfa353c83b52602629e5d9b9e13acd5ef32fadbda8f3038ba62e3bcdb66ea1"), looks := false }, kinds := [], alts := [], laidByText := true, laidKinds := [.data, .data, .data, .pinned], laidTests := true, laidLooks := .later }
def HideBackCardSaid : Prop := Claim7.holds Tryd.pinned (.plain (OpenSpec.ofChange hideBackSpec)) hideBackCard

/-- THE TIED CARD OF 'tipstafflaw12.HideMasks'. -/
def hideMasksCard : Claim7 := { stood := { row := hideMasksRow, standIns := [], harness := (true, "b7bfa353c83b52602629e5d9b9e13acd5ef32fadbda8f3038ba62e3bcdb66ea1"), looks := false }, kinds := [], alts := [], laidByText := true, laidKinds := [.data, .data, .data, .pinned], laidTests := true, laidLooks := .later }
def HideMasksCardSaid : Prop := Claim7.holds Tryd.pinned (.plain (OpenSpec.ofChange hideMasksSpec)) hideMasksCard

/-- THE SECOND FORM's CARD OF 'tipstafflaw12.HideSays'. -/
def hideSaysUptoCard : Claim7 := { stood := { row := hideSaysUptoRow, standIns := [], harness := (true, "b7bfa353c83b52602629e5d9b9e13acd5ef32fadbda8f3038ba62e3bcdb66ea1"), looks := false }, kinds := [], alts := [], laidByText := true, laidKinds := [.data, .data, .data, .pinned], laidTests := true, laidLooks := .later }
def HideSaysUptoCardSaid : Prop := Claim7.holds Tryd.pinned (.plain (OpenSpec.upto hideSaysSpec)) hideSaysUptoCard

/-- THE SECOND FORM's CARD OF 'tipstafflaw12.HideBack'. -/
def hideBackUptoCard : Claim7 := { stood := { row := hideBackUptoRow, standIns := [], harness := (true, "b7bfa353c83b52602629e5d9b9e13acd5ef32fadbda8f3038ba62e3bcdb66ea1"), looks := false }, kinds := [], alts := [], laidByText := true, laidKinds := [.data, .data, .data, .pinned], laidTests := true, laidLooks := .later }
def HideBackUptoCardSaid : Prop := Claim7.holds Tryd.pinned (.plain (OpenSpec.upto hideBackSpec)) hideBackUptoCard

/-- THE SECOND FORM's CARD OF 'tipstafflaw12.HideMasks'. -/
def hideMasksUptoCard : Claim7 := { stood := { row := hideMasksUptoRow, standIns := [], harness := (true, "b7bfa353c83b52602629e5d9b9e13acd5ef32fadbda8f3038ba62e3bcdb66ea1"), looks := false }, kinds := [], alts := [], laidByText := true, laidKinds := [.data, .data, .data, .pinned], laidTests := true, laidLooks := .later }
def HideMasksUptoCardSaid : Prop := Claim7.holds Tryd.pinned (.plain (OpenSpec.upto hideMasksSpec)) hideMasksUptoCard
end Rows
end Go.Proofs.YtanfmghfmmhglaaDoor
