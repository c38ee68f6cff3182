/-
  DERIVED. GIVEN WITH THE SEED: THE CARDS: each row of YtgmmcmfnniaekaaDoorRows.lean that lists a variable, with what it lists TIED to the program's text (the seventh form; the later family's looks); each row that meets fmt, with fmt's text TOLD by the authors' own Lean function (tested against real Go, not proved from fmt's source: count such statements apart). THE CARD IS WHAT COUNTS. Prove the row's statement (the work); the ties are given (YtgmmcmfnniaekaaDoorTie.lean); close each card by the builder's one call (the guide's Derived/Test/ToyasCard.lean, 'card_holds'). Laid BY PROGRAM, IN A SANDBOX (cutbox-door.mjs). By AI agents, Wed Nov 11 2026. No macro, syntax, notation, axiom, sorry.
-/
import Derived.Test.YtgmmcmfnniaekaaDoorRows
import GoSem.ClaimSeven
namespace Go.Proofs.YtgmmcmfnniaekaaDoor
namespace Rows

/-- THE TIED CARD OF 'analemmalaw07.NameStrings'. -/
def nameStringsCard : Claim7 := { stood := { row := nameStringsRow, standIns := [], harness := (true, "55be51361bf44fe452d4df79f6f34cb6bb7bd881843ba86f2334ca581725e583"), looks := false }, kinds := [], alts := [], laidByText := true, laidKinds := [.data, .data, .pinned], laidTests := true, laidLooks := .later }
def NameStringsCardSaid : Prop := Claim7.holds Tryd.pinned (.plain (OpenSpec.ofChange nameStringsSpec)) nameStringsCard

/-- THE TIED CARD OF 'analemmalaw07.NameParts'. -/
def namePartsCard : Claim7 := { stood := { row := namePartsRow, standIns := [], harness := (true, "55be51361bf44fe452d4df79f6f34cb6bb7bd881843ba86f2334ca581725e583"), looks := false }, kinds := [], alts := [], laidByText := true, laidKinds := [.data, .data, .pinned], laidTests := true, laidLooks := .later }
def NamePartsCardSaid : Prop := Claim7.holds Tryd.pinned (.plain (OpenSpec.ofChange namePartsSpec)) namePartsCard

/-- THE TIED CARD OF 'analemmalaw07.NameBytes'. -/
def nameBytesCard : Claim7 := { stood := { row := nameBytesRow, standIns := [], harness := (true, "55be51361bf44fe452d4df79f6f34cb6bb7bd881843ba86f2334ca581725e583"), looks := false }, kinds := [], alts := [], laidByText := true, laidKinds := [.data, .data, .pinned], laidTests := true, laidLooks := .later }
def NameBytesCardSaid : Prop := Claim7.holds Tryd.pinned (.plain (OpenSpec.ofChange nameBytesSpec)) nameBytesCard

/-- THE TIED CARD OF 'analemmalaw07.NameAmong'. -/
def nameAmongCard : Claim7 := { stood := { row := nameAmongRow, standIns := [], harness := (true, "55be51361bf44fe452d4df79f6f34cb6bb7bd881843ba86f2334ca581725e583"), looks := false }, kinds := [], alts := [], laidByText := true, laidKinds := [.data, .data, .pinned], laidTests := true, laidLooks := .later }
def NameAmongCardSaid : Prop := Claim7.holds Tryd.pinned (.plain (OpenSpec.ofChange nameAmongSpec)) nameAmongCard

/-- THE TIED CARD OF 'analemmalaw12.LinklineReads'. -/
def linklineReadsCard : Claim7 := { stood := { row := linklineReadsRow, standIns := [], harness := (true, "55be51361bf44fe452d4df79f6f34cb6bb7bd881843ba86f2334ca581725e583"), looks := false }, kinds := [], alts := [], laidByText := true, laidKinds := [.data, .data, .pinned], laidTests := true, laidLooks := .later }
def LinklineReadsCardSaid : Prop := Claim7.holds Tryd.pinned (.plain (OpenSpec.ofChange linklineReadsSpec)) linklineReadsCard

/-- THE TIED CARD OF 'analemmalaw12.LinklinePrints'. -/
def linklinePrintsCard : Claim7 := { stood := { row := linklinePrintsRow, standIns := [], harness := (true, "55be51361bf44fe452d4df79f6f34cb6bb7bd881843ba86f2334ca581725e583"), looks := false }, kinds := [], alts := [], laidByText := true, laidKinds := [.data, .data, .pinned], laidTests := true, laidLooks := .later }
def LinklinePrintsCardSaid : Prop := Claim7.holds Tryd.pinned (.plain (OpenSpec.ofChange linklinePrintsSpec)) linklinePrintsCard

/-- THE TIED CARD OF 'analemmalaw12.LinklineBack'. -/
def linklineBackCard : Claim7 := { stood := { row := linklineBackRow, standIns := [], harness := (true, "55be51361bf44fe452d4df79f6f34cb6bb7bd881843ba86f2334ca581725e583"), looks := false }, kinds := [], alts := [], laidByText := true, laidKinds := [.data, .data, .pinned], laidTests := true, laidLooks := .later }
def LinklineBackCardSaid : Prop := Claim7.holds Tryd.pinned (.plain (OpenSpec.ofChange linklineBackSpec)) linklineBackCard

/-- THE TIED CARD OF 'analemmalaw12.LinklineNames'. -/
def linklineNamesCard : Claim7 := { stood := { row := linklineNamesRow, standIns := [], harness := (true, "55be51361bf44fe452d4df79f6f34cb6bb7bd881843ba86f2334ca581725e583"), looks := false }, kinds := [], alts := [], laidByText := true, laidKinds := [.data, .data, .pinned], laidTests := true, laidLooks := .later }
def LinklineNamesCardSaid : Prop := Claim7.holds Tryd.pinned (.plain (OpenSpec.ofChange linklineNamesSpec)) linklineNamesCard

/-- THE TIED CARD OF 'analemmalaw12.LinklineNumbers'. -/
def linklineNumbersCard : Claim7 := { stood := { row := linklineNumbersRow, standIns := [], harness := (true, "55be51361bf44fe452d4df79f6f34cb6bb7bd881843ba86f2334ca581725e583"), looks := false }, kinds := [], alts := [], laidByText := true, laidKinds := [.data, .data, .pinned], laidTests := true, laidLooks := .later }
def LinklineNumbersCardSaid : Prop := Claim7.holds Tryd.pinned (.plain (OpenSpec.ofChange linklineNumbersSpec)) linklineNumbersCard

/-- THE SECOND FORM's CARD OF 'analemmalaw07.NameStrings'. -/
def nameStringsUptoCard : Claim7 := { stood := { row := nameStringsUptoRow, standIns := [], harness := (true, "55be51361bf44fe452d4df79f6f34cb6bb7bd881843ba86f2334ca581725e583"), looks := false }, kinds := [], alts := [], laidByText := true, laidKinds := [.data, .data, .pinned], laidTests := true, laidLooks := .later }
def NameStringsUptoCardSaid : Prop := Claim7.holds Tryd.pinned (.plain (OpenSpec.upto nameStringsSpec)) nameStringsUptoCard

/-- THE SECOND FORM's CARD OF 'analemmalaw07.NameParts'. -/
def namePartsUptoCard : Claim7 := { stood := { row := namePartsUptoRow, standIns := [], harness := (true, "55be51361bf44fe452d4df79f6f34cb6bb7bd881843ba86f2334ca581725e583"), looks := false }, kinds := [], alts := [], laidByText := true, laidKinds := [.data, .data, .pinned], laidTests := true, laidLooks := .later }
def NamePartsUptoCardSaid : Prop := Claim7.holds Tryd.pinned (.plain (OpenSpec.upto namePartsSpec)) namePartsUptoCard

/-- THE SECOND FORM's CARD OF 'analemmalaw07.NameBytes'. -/
def nameBytesUptoCard : Claim7 := { stood := { row := nameBytesUptoRow, standIns := [], harness := (true, "55be51361bf44fe452d4df79f6f34cb6bb7bd881843ba86f2334ca581725e583"), looks := false }, kinds := [], alts := [], laidByText := true, laidKinds := [.data, .data, .pinned], laidTests := true, laidLooks := .later }
def NameBytesUptoCardSaid : Prop := Claim7.holds Tryd.pinned (.plain (OpenSpec.upto nameBytesSpec)) nameBytesUptoCard

/-- THE SECOND FORM's CARD OF 'analemmalaw07.NameAmong'. -/
def nameAmongUptoCard : Claim7 := { stood := { row := nameAmongUptoRow, standIns := [], harness := (true, "55be51361bf44fe452d4df79f6f34cb6bb7bd881843ba86f2334ca581725e583"), looks := false }, kinds := [], alts := [], laidByText := true, laidKinds := [.data, .data, .pinned], laidTests := true, laidLooks := .later }
def NameAmongUptoCardSaid : Prop := Claim7.holds Tryd.pinned (.plain (OpenSpec.upto nameAmongSpec)) nameAmongUptoCard

/-- THE SECOND FORM's CARD OF 'analemmalaw12.LinklineReads'. -/
def linklineReadsUptoCard : Claim7 := { stood := { row := linklineReadsUptoRow, standIns := [], harness := (true, "55be51361bf44fe452d4df79f6f34cb6bb7bd881843ba86f2334ca581725e583"), looks := false }, kinds := [], alts := [], laidByText := true, laidKinds := [.data, .data, .pinned], laidTests := true, laidLooks := .later }
def LinklineReadsUptoCardSaid : Prop := Claim7.holds Tryd.pinned (.plain (OpenSpec.upto linklineReadsSpec)) linklineReadsUptoCard

/-- THE SECOND FORM's CARD OF 'analemmalaw12.LinklinePrints'. -/
def linklinePrintsUptoCard : Claim7 := { stood := { row := linklinePrintsUptoRow, standIns := [], harness := (true, "55be51361bf44fe452d4df79f6f34cb6bb7bd881843ba86f2334ca581725e583"), looks := false }, kinds := [], alts := [], laidByText := true, laidKinds := [.data, .data, .pinned], laidTests := true, laidLooks := .later }
def LinklinePrintsUptoCardSaid : Prop := Claim7.holds Tryd.pinned (.plain (OpenSpec.upto linklinePrintsSpec)) linklinePrintsUptoCard

/-- THE SECOND FORM's CARD OF 'analemmalaw12.LinklineBack'. -/
def linklineBackUptoCard : Claim7 := { stood := { row := linklineBackUptoRow, standIns := [], harness := (true, "55be51361bf44fe452d4df79f6f34cb6bb7bd881843ba86f2334ca581725e583"), looks := false }, kinds := [], alts := [], laidByText := true, laidKinds := [.data, .data, .pinned], laidTests := true, laidLooks := .later }
def LinklineBackUptoCardSaid : Prop := Claim7.holds Tryd.pinned (.plain (OpenSpec.upto linklineBackSpec)) linklineBackUptoCard

/-- THE SECOND FORM's CARD OF 'analemmalaw12.LinklineNames'. -/
def linklineNamesUptoCard : Claim7 := { stood := { row := linklineNamesUptoRow, standIns := [], harness := (true, "55be51361bf44fe452d4df79f6f34cb6bb7bd881843ba86f2334ca581725e583"), looks := false }, kinds := [], alts := [], laidByText := true, laidKinds := [.data, .data, .pinned], laidTests := true, laidLooks := .later }
def LinklineNamesUptoCardSaid : Prop := Claim7.holds Tryd.pinned (.plain (OpenSpec.upto linklineNamesSpec)) linklineNamesUptoCard

/-- THE SECOND FORM's CARD OF 'analemmalaw12.LinklineNumbers'. -/
def linklineNumbersUptoCard : Claim7 := { stood := { row := linklineNumbersUptoRow, standIns := [], harness := (true, "55be51361bf44fe452d4df79f6f34cb6bb7bd881843ba86f2334ca581725e583"), looks := false }, kinds := [], alts := [], laidByText := true, laidKinds := [.data, .data, .pinned], laidTests := true, laidLooks := .later }
def LinklineNumbersUptoCardSaid : Prop := Claim7.holds Tryd.pinned (.plain (OpenSpec.upto linklineNumbersSpec)) linklineNumbersUptoCard
end Rows
end Go.Proofs.YtgmmcmfnniaekaaDoor
