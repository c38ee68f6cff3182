/-
  DERIVED. GIVEN WITH THE SEED: THE CARDS: each row of YtcohbcdhcmajiaaDoorRows.lean that lists a variable, with what it lists TIED to the program's text (the seventh form; the later family's looks); each row that meets fmt, with fmt's text TOLD by the authors' own Lean function (tested against real Go, not proved from fmt's source: count such statements apart). THE CARD IS WHAT COUNTS. Prove the row's statement (the work); the ties are given (YtcohbcdhcmajiaaDoorTie.lean); close each card by the builder's one call (the guide's Derived/Test/ToyasCard.lean, 'card_holds'). Laid BY PROGRAM, IN A SANDBOX (cutbox-door.mjs). By AI agents, Wed Nov 11 2026. No macro, syntax, notation, axiom, sorry.
-/
import Derived.Test.YtcohbcdhcmajiaaDoorRows
import GoSem.ClaimSeven
namespace Go.Proofs.YtcohbcdhcmajiaaDoor
namespace Rows

/-- THE TIED CARD OF 'analemmalaw21.FormatAbbrs'. -/
def formatAbbrsCard : Claim7 := { stood := { row := formatAbbrsRow, standIns := [], harness := (true, "c1fef55df271935d790ce385bca6521ce46385c4bc5871539119f5fefb597674"), looks := false }, kinds := [], alts := [], laidByText := true, laidKinds := [.data, .data, .pinned], laidTests := true, laidLooks := .later }
def FormatAbbrsCardSaid : Prop := Claim7.holds Tryd.pinned (.plain (OpenSpec.ofChange formatAbbrsSpec)) formatAbbrsCard

/-- THE TIED CARD OF 'analemmalaw21.FormatChecks'. -/
def formatChecksCard : Claim7 := { stood := { row := formatChecksRow, standIns := [], harness := (true, "c1fef55df271935d790ce385bca6521ce46385c4bc5871539119f5fefb597674"), looks := false }, kinds := [], alts := [], laidByText := true, laidKinds := [.data, .data, .pinned], laidTests := true, laidLooks := .later }
def FormatChecksCardSaid : Prop := Claim7.holds Tryd.pinned (.plain (OpenSpec.ofChange formatChecksSpec)) formatChecksCard

/-- THE TIED CARD OF 'analemmalaw21.FormatStates'. -/
def formatStatesCard : Claim7 := { stood := { row := formatStatesRow, standIns := [], harness := (true, "c1fef55df271935d790ce385bca6521ce46385c4bc5871539119f5fefb597674"), looks := false }, kinds := [], alts := [], laidByText := true, laidKinds := [.data, .data, .pinned], laidTests := true, laidLooks := .later }
def FormatStatesCardSaid : Prop := Claim7.holds Tryd.pinned (.plain (OpenSpec.ofChange formatStatesSpec)) formatStatesCard

/-- THE TIED CARD OF 'analemmalaw21.FormatNumbers'. -/
def formatNumbersCard : Claim7 := { stood := { row := formatNumbersRow, standIns := [], harness := (true, "c1fef55df271935d790ce385bca6521ce46385c4bc5871539119f5fefb597674"), looks := false }, kinds := [], alts := [], laidByText := true, laidKinds := [.data, .data, .pinned], laidTests := true, laidLooks := .later }
def FormatNumbersCardSaid : Prop := Claim7.holds Tryd.pinned (.plain (OpenSpec.ofChange formatNumbersSpec)) formatNumbersCard

/-- THE TIED CARD OF 'analemmalaw21.FormatKinds'. -/
def formatKindsCard : Claim7 := { stood := { row := formatKindsRow, standIns := [], harness := (true, "c1fef55df271935d790ce385bca6521ce46385c4bc5871539119f5fefb597674"), looks := false }, kinds := [], alts := [], laidByText := true, laidKinds := [.data, .data, .pinned], laidTests := true, laidLooks := .later }
def FormatKindsCardSaid : Prop := Claim7.holds Tryd.pinned (.plain (OpenSpec.ofChange formatKindsSpec)) formatKindsCard

/-- THE TIED CARD OF 'analemmalaw21.FormatRefuses'. -/
def formatRefusesCard : Claim7 := { stood := { row := formatRefusesRow, standIns := [], harness := (true, "c1fef55df271935d790ce385bca6521ce46385c4bc5871539119f5fefb597674"), looks := false }, kinds := [], alts := [], laidByText := true, laidKinds := [.data, .data, .pinned], laidTests := true, laidLooks := .later }
def FormatRefusesCardSaid : Prop := Claim7.holds Tryd.pinned (.plain (OpenSpec.ofChange formatRefusesSpec)) formatRefusesCard

/-- THE TIED CARD OF 'analemmalaw22.UntilEnds'. -/
def untilEndsCard : Claim7 := { stood := { row := untilEndsRow, standIns := [], harness := (true, "c1fef55df271935d790ce385bca6521ce46385c4bc5871539119f5fefb597674"), looks := false }, kinds := [], alts := [], laidByText := true, laidKinds := [.data], laidTests := true, laidLooks := .later }
def UntilEndsCardSaid : Prop := Claim7.holds Tryd.pinned (.plain (OpenSpec.ofChange untilEndsSpec)) untilEndsCard

/-- THE TIED CARD OF 'analemmalaw22.UntilInstants'. -/
def untilInstantsCard : Claim7 := { stood := { row := untilInstantsRow, standIns := [], harness := (true, "c1fef55df271935d790ce385bca6521ce46385c4bc5871539119f5fefb597674"), looks := false }, kinds := [], alts := [], laidByText := true, laidKinds := [.data], laidTests := true, laidLooks := .later }
def UntilInstantsCardSaid : Prop := Claim7.holds Tryd.pinned (.plain (OpenSpec.ofChange untilInstantsSpec)) untilInstantsCard

/-- THE TIED CARD OF 'analemmalaw22.UntilNear'. -/
def untilNearCard : Claim7 := { stood := { row := untilNearRow, standIns := [], harness := (true, "c1fef55df271935d790ce385bca6521ce46385c4bc5871539119f5fefb597674"), looks := false }, kinds := [], alts := [], laidByText := true, laidKinds := [.data], laidTests := true, laidLooks := .later }
def UntilNearCardSaid : Prop := Claim7.holds Tryd.pinned (.plain (OpenSpec.ofChange untilNearSpec)) untilNearCard

/-- THE TIED CARD OF 'analemmalaw22.UntilShift'. -/
def untilShiftCard : Claim7 := { stood := { row := untilShiftRow, standIns := [], harness := (true, "c1fef55df271935d790ce385bca6521ce46385c4bc5871539119f5fefb597674"), looks := false }, kinds := [], alts := [], laidByText := true, laidKinds := [.data], laidTests := true, laidLooks := .later }
def UntilShiftCardSaid : Prop := Claim7.holds Tryd.pinned (.plain (OpenSpec.ofChange untilShiftSpec)) untilShiftCard

/-- THE TIED CARD OF 'analemmalaw22.UntilOrder'. -/
def untilOrderCard : Claim7 := { stood := { row := untilOrderRow, standIns := [], harness := (true, "c1fef55df271935d790ce385bca6521ce46385c4bc5871539119f5fefb597674"), looks := false }, kinds := [], alts := [], laidByText := true, laidKinds := [.data], laidTests := true, laidLooks := .later }
def UntilOrderCardSaid : Prop := Claim7.holds Tryd.pinned (.plain (OpenSpec.ofChange untilOrderSpec)) untilOrderCard

/-- THE TIED CARD OF 'analemmalaw22.UntilRefuses'. -/
def untilRefusesCard : Claim7 := { stood := { row := untilRefusesRow, standIns := [], harness := (true, "c1fef55df271935d790ce385bca6521ce46385c4bc5871539119f5fefb597674"), looks := false }, kinds := [], alts := [], laidByText := true, laidKinds := [.data], laidTests := true, laidLooks := .later }
def UntilRefusesCardSaid : Prop := Claim7.holds Tryd.pinned (.plain (OpenSpec.ofChange untilRefusesSpec)) untilRefusesCard

/-- THE SECOND FORM's CARD OF 'analemmalaw21.FormatAbbrs'. -/
def formatAbbrsUptoCard : Claim7 := { stood := { row := formatAbbrsUptoRow, standIns := [], harness := (true, "c1fef55df271935d790ce385bca6521ce46385c4bc5871539119f5fefb597674"), looks := false }, kinds := [], alts := [], laidByText := true, laidKinds := [.data, .data, .pinned], laidTests := true, laidLooks := .later }
def FormatAbbrsUptoCardSaid : Prop := Claim7.holds Tryd.pinned (.plain (OpenSpec.upto formatAbbrsSpec)) formatAbbrsUptoCard

/-- THE SECOND FORM's CARD OF 'analemmalaw21.FormatChecks'. -/
def formatChecksUptoCard : Claim7 := { stood := { row := formatChecksUptoRow, standIns := [], harness := (true, "c1fef55df271935d790ce385bca6521ce46385c4bc5871539119f5fefb597674"), looks := false }, kinds := [], alts := [], laidByText := true, laidKinds := [.data, .data, .pinned], laidTests := true, laidLooks := .later }
def FormatChecksUptoCardSaid : Prop := Claim7.holds Tryd.pinned (.plain (OpenSpec.upto formatChecksSpec)) formatChecksUptoCard

/-- THE SECOND FORM's CARD OF 'analemmalaw21.FormatStates'. -/
def formatStatesUptoCard : Claim7 := { stood := { row := formatStatesUptoRow, standIns := [], harness := (true, "c1fef55df271935d790ce385bca6521ce46385c4bc5871539119f5fefb597674"), looks := false }, kinds := [], alts := [], laidByText := true, laidKinds := [.data, .data, .pinned], laidTests := true, laidLooks := .later }
def FormatStatesUptoCardSaid : Prop := Claim7.holds Tryd.pinned (.plain (OpenSpec.upto formatStatesSpec)) formatStatesUptoCard

/-- THE SECOND FORM's CARD OF 'analemmalaw21.FormatNumbers'. -/
def formatNumbersUptoCard : Claim7 := { stood := { row := formatNumbersUptoRow, standIns := [], harness := (true, "c1fef55df271935d790ce385bca6521ce46385c4bc5871539119f5fefb597674"), looks := false }, kinds := [], alts := [], laidByText := true, laidKinds := [.data, .data, .pinned], laidTests := true, laidLooks := .later }
def FormatNumbersUptoCardSaid : Prop := Claim7.holds Tryd.pinned (.plain (OpenSpec.upto formatNumbersSpec)) formatNumbersUptoCard

/-- THE SECOND FORM's CARD OF 'analemmalaw21.FormatKinds'. -/
def formatKindsUptoCard : Claim7 := { stood := { row := formatKindsUptoRow, standIns := [], harness := (true, "c1fef55df271935d790ce385bca6521ce46385c4bc5871539119f5fefb597674"), looks := false }, kinds := [], alts := [], laidByText := true, laidKinds := [.data, .data, .pinned], laidTests := true, laidLooks := .later }
def FormatKindsUptoCardSaid : Prop := Claim7.holds Tryd.pinned (.plain (OpenSpec.upto formatKindsSpec)) formatKindsUptoCard

/-- THE SECOND FORM's CARD OF 'analemmalaw21.FormatRefuses'. -/
def formatRefusesUptoCard : Claim7 := { stood := { row := formatRefusesUptoRow, standIns := [], harness := (true, "c1fef55df271935d790ce385bca6521ce46385c4bc5871539119f5fefb597674"), looks := false }, kinds := [], alts := [], laidByText := true, laidKinds := [.data, .data, .pinned], laidTests := true, laidLooks := .later }
def FormatRefusesUptoCardSaid : Prop := Claim7.holds Tryd.pinned (.plain (OpenSpec.upto formatRefusesSpec)) formatRefusesUptoCard

/-- THE SECOND FORM's CARD OF 'analemmalaw22.UntilEnds'. -/
def untilEndsUptoCard : Claim7 := { stood := { row := untilEndsUptoRow, standIns := [], harness := (true, "c1fef55df271935d790ce385bca6521ce46385c4bc5871539119f5fefb597674"), looks := false }, kinds := [], alts := [], laidByText := true, laidKinds := [.data], laidTests := true, laidLooks := .later }
def UntilEndsUptoCardSaid : Prop := Claim7.holds Tryd.pinned (.plain (OpenSpec.upto untilEndsSpec)) untilEndsUptoCard

/-- THE SECOND FORM's CARD OF 'analemmalaw22.UntilInstants'. -/
def untilInstantsUptoCard : Claim7 := { stood := { row := untilInstantsUptoRow, standIns := [], harness := (true, "c1fef55df271935d790ce385bca6521ce46385c4bc5871539119f5fefb597674"), looks := false }, kinds := [], alts := [], laidByText := true, laidKinds := [.data], laidTests := true, laidLooks := .later }
def UntilInstantsUptoCardSaid : Prop := Claim7.holds Tryd.pinned (.plain (OpenSpec.upto untilInstantsSpec)) untilInstantsUptoCard

/-- THE SECOND FORM's CARD OF 'analemmalaw22.UntilNear'. -/
def untilNearUptoCard : Claim7 := { stood := { row := untilNearUptoRow, standIns := [], harness := (true, "c1fef55df271935d790ce385bca6521ce46385c4bc5871539119f5fefb597674"), looks := false }, kinds := [], alts := [], laidByText := true, laidKinds := [.data], laidTests := true, laidLooks := .later }
def UntilNearUptoCardSaid : Prop := Claim7.holds Tryd.pinned (.plain (OpenSpec.upto untilNearSpec)) untilNearUptoCard

/-- THE SECOND FORM's CARD OF 'analemmalaw22.UntilShift'. -/
def untilShiftUptoCard : Claim7 := { stood := { row := untilShiftUptoRow, standIns := [], harness := (true, "c1fef55df271935d790ce385bca6521ce46385c4bc5871539119f5fefb597674"), looks := false }, kinds := [], alts := [], laidByText := true, laidKinds := [.data], laidTests := true, laidLooks := .later }
def UntilShiftUptoCardSaid : Prop := Claim7.holds Tryd.pinned (.plain (OpenSpec.upto untilShiftSpec)) untilShiftUptoCard

/-- THE SECOND FORM's CARD OF 'analemmalaw22.UntilOrder'. -/
def untilOrderUptoCard : Claim7 := { stood := { row := untilOrderUptoRow, standIns := [], harness := (true, "c1fef55df271935d790ce385bca6521ce46385c4bc5871539119f5fefb597674"), looks := false }, kinds := [], alts := [], laidByText := true, laidKinds := [.data], laidTests := true, laidLooks := .later }
def UntilOrderUptoCardSaid : Prop := Claim7.holds Tryd.pinned (.plain (OpenSpec.upto untilOrderSpec)) untilOrderUptoCard

/-- THE SECOND FORM's CARD OF 'analemmalaw22.UntilRefuses'. -/
def untilRefusesUptoCard : Claim7 := { stood := { row := untilRefusesUptoRow, standIns := [], harness := (true, "c1fef55df271935d790ce385bca6521ce46385c4bc5871539119f5fefb597674"), looks := false }, kinds := [], alts := [], laidByText := true, laidKinds := [.data], laidTests := true, laidLooks := .later }
def UntilRefusesUptoCardSaid : Prop := Claim7.holds Tryd.pinned (.plain (OpenSpec.upto untilRefusesSpec)) untilRefusesUptoCard
end Rows
end Go.Proofs.YtcohbcdhcmajiaaDoor
