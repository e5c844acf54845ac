/-
  DERIVED. GIVEN WITH THE SEED: THE CARDS: each row of YtjljfigppbahfaaDoorRows.lean that lists a variable, with what it lists TIED to the program's text (the seventh form; the later family's looks); each row that meets fmt, with fmt's text TOLD by the authors' own Lean function (tested against real Go, not proved from fmt's source: count such statements apart). THE CARD IS WHAT COUNTS. Prove the row's statement (the work); the ties are given (YtjljfigppbahfaaDoorTie.lean); close each card by the builder's one call (the guide's Derived/Test/ToyasCard.lean, 'card_holds'). Laid BY PROGRAM, IN A SANDBOX (cutbox-door.mjs). By AI agents, Wed Nov 11 2026. No macro, syntax, notation, axiom, sorry.
-/
import Derived.Test.YtjljfigppbahfaaDoorRows
import GoSem.ClaimSeven
namespace Go.Proofs.YtjljfigppbahfaaDoor
namespace Rows

/-- THE TIED CARD OF 'tipstafflaw02.MacSays'. -/
def macSaysCard : Claim7 := { stood := { row := macSaysRow, standIns := [], harness := (true, "743f2da30beee43ff0581f8e3dccf719f9d4ccff61d6048ccb7ca917874b0564"), looks := false }, kinds := [], alts := [], laidByText := true, laidKinds := [.data, .data, .pinned], laidTests := true, laidLooks := .later }
def MacSaysCardSaid : Prop := Claim7.holds Tryd.pinned (.plain (OpenSpec.ofChange macSaysSpec)) macSaysCard

/-- THE TIED CARD OF 'tipstafflaw02.MacBack'. -/
def macBackCard : Claim7 := { stood := { row := macBackRow, standIns := [], harness := (true, "743f2da30beee43ff0581f8e3dccf719f9d4ccff61d6048ccb7ca917874b0564"), looks := false }, kinds := [], alts := [], laidByText := true, laidKinds := [.data, .data, .pinned], laidTests := true, laidLooks := .later }
def MacBackCardSaid : Prop := Claim7.holds Tryd.pinned (.plain (OpenSpec.ofChange macBackSpec)) macBackCard

/-- THE TIED CARD OF 'tipstafflaw02.MacMakers'. -/
def macMakersCard : Claim7 := { stood := { row := macMakersRow, standIns := [], harness := (true, "743f2da30beee43ff0581f8e3dccf719f9d4ccff61d6048ccb7ca917874b0564"), looks := false }, kinds := [], alts := [], laidByText := true, laidKinds := [.data, .data, .pinned], laidTests := true, laidLooks := .later }
def MacMakersCardSaid : Prop := Claim7.holds Tryd.pinned (.plain (OpenSpec.ofChange macMakersSpec)) macMakersCard

/-- THE TIED CARD OF 'tipstafflaw02.MacOrder'. -/
def macOrderCard : Claim7 := { stood := { row := macOrderRow, standIns := [], harness := (true, "743f2da30beee43ff0581f8e3dccf719f9d4ccff61d6048ccb7ca917874b0564"), looks := false }, kinds := [], alts := [], laidByText := true, laidKinds := [.data, .data, .pinned], laidTests := true, laidLooks := .later }
def MacOrderCardSaid : Prop := Claim7.holds Tryd.pinned (.plain (OpenSpec.ofChange macOrderSpec)) macOrderCard

/-- THE SECOND FORM's CARD OF 'tipstafflaw02.MacSays'. -/
def macSaysUptoCard : Claim7 := { stood := { row := macSaysUptoRow, standIns := [], harness := (true, "743f2da30beee43ff0581f8e3dccf719f9d4ccff61d6048ccb7ca917874b0564"), looks := false }, kinds := [], alts := [], laidByText := true, laidKinds := [.data, .data, .pinned], laidTests := true, laidLooks := .later }
def MacSaysUptoCardSaid : Prop := Claim7.holds Tryd.pinned (.plain (OpenSpec.upto macSaysSpec)) macSaysUptoCard

/-- THE SECOND FORM's CARD OF 'tipstafflaw02.MacBack'. -/
def macBackUptoCard : Claim7 := { stood := { row := macBackUptoRow, standIns := [], harness := (true, "743f2da30beee43ff0581f8e3dccf719f9d4ccff61d6048ccb7ca917874b0564"), looks := false }, kinds := [], alts := [], laidByText := true, laidKinds := [.data, .data, .pinned], laidTests := true, laidLooks := .later }
def MacBackUptoCardSaid : Prop := Claim7.holds Tryd.pinned (.plain (OpenSpec.upto macBackSpec)) macBackUptoCard

/-- THE SECOND FORM's CARD OF 'tipstafflaw02.MacMakers'. -/
def macMakersUptoCard : Claim7 := { stood := { row := macMakersUptoRow, standIns := [], harness := (true, "743f2da30beee43ff0581f8e3dccf719f9d4ccff61d6048ccb7ca917874b0564"), looks := false }, kinds := [], alts := [], laidByText := true, laidKinds := [.data, .data, .pinned], laidTests := true, laidLooks := .later }
def MacMakersUptoCardSaid : Prop := Claim7.holds Tryd.pinned (.plain (OpenSpec.upto macMakersSpec)) macMakersUptoCard

/-- THE SECOND FORM's CARD OF 'tipstafflaw02.MacOrder'. -/
def macOrderUptoCard : Claim7 := { stood := { row := macOrderUptoRow, standIns := [], harness := (true, "743f2da30beee43ff0581f8e3dccf719f9d4ccff61d6048ccb7ca917874b0564"), looks := false }, kinds := [], alts := [], laidByText := true, laidKinds := [.data, .data, .pinned], laidTests := true, laidLooks := .later }
def MacOrderUptoCardSaid : Prop := Claim7.holds Tryd.pinned (.plain (OpenSpec.upto macOrderSpec)) macOrderUptoCard
end Rows
end Go.Proofs.YtjljfigppbahfaaDoor
