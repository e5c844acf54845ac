/-
  DERIVED. GIVEN WITH THE SEED: THE CARDS: each row of YtmojegnflcokjaaDoorRows.lean that lists a variable, with what it lists TIED to the program's text (the seventh form; the later family's looks); each row that meets fmt, with fmt's text TOLD by the authors' own Lean function (tested against real Go, not proved from fmt's source: count such statements apart). THE CARD IS WHAT COUNTS. Prove the row's statement (the work); the ties are given (YtmojegnflcokjaaDoorTie.lean); close each card by the builder's one call (the guide's Derived/Test/ToyasCard.lean, 'card_holds'). Laid BY PROGRAM, IN A SANDBOX (cutbox-door.mjs). By AI agents, Wed Nov 11 2026. No macro, syntax, notation, axiom, sorry.
-/
import Derived.Test.YtmojegnflcokjaaDoorRows
import GoSem.ClaimSeven
namespace Go.Proofs.YtmojegnflcokjaaDoor
namespace Rows

/-- THE TIED CARD OF 'tipstafflaw16.DecideSays'. -/
def decideSaysCard : Claim7 := { stood := { row := decideSaysRow, standIns := [], harness := (true, "5c1bfcdfd95053845e32390f360df3982300a24190150b88325e0a316580b9ac"), looks := false }, kinds := [], alts := [], laidByText := true, laidKinds := [.data], laidTests := true, laidLooks := .later }
def DecideSaysCardSaid : Prop := Claim7.holds Tryd.pinned (.plain (OpenSpec.ofChange decideSaysSpec)) decideSaysCard

/-- THE TIED CARD OF 'tipstafflaw16.DecideOnly'. -/
def decideOnlyCard : Claim7 := { stood := { row := decideOnlyRow, standIns := [], harness := (true, "5c1bfcdfd95053845e32390f360df3982300a24190150b88325e0a316580b9ac"), looks := false }, kinds := [], alts := [], laidByText := true, laidKinds := [.data], laidTests := true, laidLooks := .later }
def DecideOnlyCardSaid : Prop := Claim7.holds Tryd.pinned (.plain (OpenSpec.ofChange decideOnlySpec)) decideOnlyCard

/-- THE TIED CARD OF 'tipstafflaw16.DecideFloods'. -/
def decideFloodsCard : Claim7 := { stood := { row := decideFloodsRow, standIns := [], harness := (true, "5c1bfcdfd95053845e32390f360df3982300a24190150b88325e0a316580b9ac"), looks := false }, kinds := [], alts := [], laidByText := true, laidKinds := [.data], laidTests := true, laidLooks := .later }
def DecideFloodsCardSaid : Prop := Claim7.holds Tryd.pinned (.plain (OpenSpec.ofChange decideFloodsSpec)) decideFloodsCard

/-- THE SECOND FORM's CARD OF 'tipstafflaw16.DecideSays'. -/
def decideSaysUptoCard : Claim7 := { stood := { row := decideSaysUptoRow, standIns := [], harness := (true, "5c1bfcdfd95053845e32390f360df3982300a24190150b88325e0a316580b9ac"), looks := false }, kinds := [], alts := [], laidByText := true, laidKinds := [.data], laidTests := true, laidLooks := .later }
def DecideSaysUptoCardSaid : Prop := Claim7.holds Tryd.pinned (.plain (OpenSpec.upto decideSaysSpec)) decideSaysUptoCard

/-- THE SECOND FORM's CARD OF 'tipstafflaw16.DecideOnly'. -/
def decideOnlyUptoCard : Claim7 := { stood := { row := decideOnlyUptoRow, standIns := [], harness := (true, "5c1bfcdfd95053845e32390f360df3982300a24190150b88325e0a316580b9ac"), looks := false }, kinds := [], alts := [], laidByText := true, laidKinds := [.data], laidTests := true, laidLooks := .later }
def DecideOnlyUptoCardSaid : Prop := Claim7.holds Tryd.pinned (.plain (OpenSpec.upto decideOnlySpec)) decideOnlyUptoCard

/-- THE SECOND FORM's CARD OF 'tipstafflaw16.DecideFloods'. -/
def decideFloodsUptoCard : Claim7 := { stood := { row := decideFloodsUptoRow, standIns := [], harness := (true, "5c1bfcdfd95053845e32390f360df3982300a24190150b88325e0a316580b9ac"), looks := false }, kinds := [], alts := [], laidByText := true, laidKinds := [.data], laidTests := true, laidLooks := .later }
def DecideFloodsUptoCardSaid : Prop := Claim7.holds Tryd.pinned (.plain (OpenSpec.upto decideFloodsSpec)) decideFloodsUptoCard
end Rows
end Go.Proofs.YtmojegnflcokjaaDoor
