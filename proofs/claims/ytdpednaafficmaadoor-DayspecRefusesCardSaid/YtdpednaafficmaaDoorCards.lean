/-
  DERIVED. GIVEN WITH THE SEED: THE CARDS: each row of YtdpednaafficmaaDoorRows.lean that lists a variable, with what it lists TIED to the program's text (the seventh form; the later family's looks); each row that meets fmt, with fmt's text TOLD by the authors' own Lean function (tested against real Go, not proved from fmt's source: count such statements apart). THE CARD IS WHAT COUNTS. Prove the row's statement (the work); the ties are given (YtdpednaafficmaaDoorTie.lean); close each card by the builder's one call (the guide's Derived/Test/ToyasCard.lean, 'card_holds'). Laid BY PROGRAM, IN A SANDBOX (cutbox-door.mjs). By AI agents, Wed Nov 11 2026. No macro, syntax, notation, axiom, sorry.
-/
import Derived.Test.YtdpednaafficmaaDoorRows
import GoSem.ClaimSeven
namespace Go.Proofs.YtdpednaafficmaaDoor
namespace Rows

/-- THE TIED CARD OF 'analemmalaw09.DayspecReads'. -/
def dayspecReadsCard : Claim7 := { stood := { row := dayspecReadsRow, standIns := [], harness := (true, "10de6619059ba256ba67ccc001536f721c98e4b73b60b6f67cb9e3d18b1eb450"), looks := false }, kinds := [], alts := [], laidByText := true, laidKinds := [.data, .data, .data, .data, .data, .data, .data, .pinned, .pinned], laidTests := true, laidLooks := .later }
def DayspecReadsCardSaid : Prop := Claim7.holds Tryd.pinned (.plain (OpenSpec.ofChange dayspecReadsSpec)) dayspecReadsCard

/-- THE TIED CARD OF 'analemmalaw09.DayspecBack'. -/
def dayspecBackCard : Claim7 := { stood := { row := dayspecBackRow, standIns := [], harness := (true, "10de6619059ba256ba67ccc001536f721c98e4b73b60b6f67cb9e3d18b1eb450"), looks := false }, kinds := [], alts := [], laidByText := true, laidKinds := [.data, .data, .data, .data, .data, .data, .data, .pinned, .pinned], laidTests := true, laidLooks := .later }
def DayspecBackCardSaid : Prop := Claim7.holds Tryd.pinned (.plain (OpenSpec.ofChange dayspecBackSpec)) dayspecBackCard

/-- THE TIED CARD OF 'analemmalaw09.DayspecWords'. -/
def dayspecWordsCard : Claim7 := { stood := { row := dayspecWordsRow, standIns := [], harness := (true, "10de6619059ba256ba67ccc001536f721c98e4b73b60b6f67cb9e3d18b1eb450"), looks := false }, kinds := [], alts := [], laidByText := true, laidKinds := [.data, .data, .data, .data, .data, .data, .data, .pinned, .pinned], laidTests := true, laidLooks := .later }
def DayspecWordsCardSaid : Prop := Claim7.holds Tryd.pinned (.plain (OpenSpec.ofChange dayspecWordsSpec)) dayspecWordsCard

/-- THE TIED CARD OF 'analemmalaw09.DayspecRefuses'. -/
def dayspecRefusesCard : Claim7 := { stood := { row := dayspecRefusesRow, standIns := [], harness := (true, "10de6619059ba256ba67ccc001536f721c98e4b73b60b6f67cb9e3d18b1eb450"), looks := false }, kinds := [], alts := [], laidByText := true, laidKinds := [.data, .data, .data, .data, .data, .data, .data, .pinned, .pinned], laidTests := true, laidLooks := .later }
def DayspecRefusesCardSaid : Prop := Claim7.holds Tryd.pinned (.plain (OpenSpec.ofChange dayspecRefusesSpec)) dayspecRefusesCard

/-- THE TIED CARD OF 'analemmalaw39.PoolAbbrs'. -/
def poolAbbrsCard : Claim7 := { stood := { row := poolAbbrsRow, standIns := [], harness := (true, "10de6619059ba256ba67ccc001536f721c98e4b73b60b6f67cb9e3d18b1eb450"), looks := false }, kinds := [], alts := [], laidByText := true, laidKinds := [.data, .data, .data, .data, .pinned], laidTests := true, laidLooks := .later }
def PoolAbbrsCardSaid : Prop := Claim7.holds Tryd.pinned (.plain (OpenSpec.ofChange poolAbbrsSpec)) poolAbbrsCard

/-- THE TIED CARD OF 'analemmalaw39.PoolTypes'. -/
def poolTypesCard : Claim7 := { stood := { row := poolTypesRow, standIns := [], harness := (true, "10de6619059ba256ba67ccc001536f721c98e4b73b60b6f67cb9e3d18b1eb450"), looks := false }, kinds := [], alts := [], laidByText := true, laidKinds := [.data, .data, .data, .data, .pinned], laidTests := true, laidLooks := .later }
def PoolTypesCardSaid : Prop := Claim7.holds Tryd.pinned (.plain (OpenSpec.ofChange poolTypesSpec)) poolTypesCard

/-- THE TIED CARD OF 'analemmalaw39.PoolFound'. -/
def poolFoundCard : Claim7 := { stood := { row := poolFoundRow, standIns := [], harness := (true, "10de6619059ba256ba67ccc001536f721c98e4b73b60b6f67cb9e3d18b1eb450"), looks := false }, kinds := [], alts := [], laidByText := true, laidKinds := [.data, .data, .data, .data, .pinned], laidTests := true, laidLooks := .later }
def PoolFoundCardSaid : Prop := Claim7.holds Tryd.pinned (.plain (OpenSpec.ofChange poolFoundSpec)) poolFoundCard

/-- THE TIED CARD OF 'analemmalaw39.PoolOrder'. -/
def poolOrderCard : Claim7 := { stood := { row := poolOrderRow, standIns := [], harness := (true, "10de6619059ba256ba67ccc001536f721c98e4b73b60b6f67cb9e3d18b1eb450"), looks := false }, kinds := [], alts := [], laidByText := true, laidKinds := [.data, .data, .data, .data, .pinned], laidTests := true, laidLooks := .later }
def PoolOrderCardSaid : Prop := Claim7.holds Tryd.pinned (.plain (OpenSpec.ofChange poolOrderSpec)) poolOrderCard

/-- THE TIED CARD OF 'analemmalaw39.PoolRefuses'. -/
def poolRefusesCard : Claim7 := { stood := { row := poolRefusesRow, standIns := [], harness := (true, "10de6619059ba256ba67ccc001536f721c98e4b73b60b6f67cb9e3d18b1eb450"), looks := false }, kinds := [], alts := [], laidByText := true, laidKinds := [.data, .data, .data, .data, .pinned], laidTests := true, laidLooks := .later }
def PoolRefusesCardSaid : Prop := Claim7.holds Tryd.pinned (.plain (OpenSpec.ofChange poolRefusesSpec)) poolRefusesCard

/-- THE TIED CARD OF 'analemmalaw39.PoolDifferent'. -/
def poolDifferentCard : Claim7 := { stood := { row := poolDifferentRow, standIns := [], harness := (true, "10de6619059ba256ba67ccc001536f721c98e4b73b60b6f67cb9e3d18b1eb450"), looks := false }, kinds := [], alts := [], laidByText := true, laidKinds := [.data, .data, .data, .data, .pinned], laidTests := true, laidLooks := .later }
def PoolDifferentCardSaid : Prop := Claim7.holds Tryd.pinned (.plain (OpenSpec.ofChange poolDifferentSpec)) poolDifferentCard

/-- THE SECOND FORM's CARD OF 'analemmalaw09.DayspecReads'. -/
def dayspecReadsUptoCard : Claim7 := { stood := { row := dayspecReadsUptoRow, standIns := [], harness := (true, "10de6619059ba256ba67ccc001536f721c98e4b73b60b6f67cb9e3d18b1eb450"), looks := false }, kinds := [], alts := [], laidByText := true, laidKinds := [.data, .data, .data, .data, .data, .data, .data, .pinned, .pinned], laidTests := true, laidLooks := .later }
def DayspecReadsUptoCardSaid : Prop := Claim7.holds Tryd.pinned (.plain (OpenSpec.upto dayspecReadsSpec)) dayspecReadsUptoCard

/-- THE SECOND FORM's CARD OF 'analemmalaw09.DayspecBack'. -/
def dayspecBackUptoCard : Claim7 := { stood := { row := dayspecBackUptoRow, standIns := [], harness := (true, "10de6619059ba256ba67ccc001536f721c98e4b73b60b6f67cb9e3d18b1eb450"), looks := false }, kinds := [], alts := [], laidByText := true, laidKinds := [.data, .data, .data, .data, .data, .data, .data, .pinned, .pinned], laidTests := true, laidLooks := .later }
def DayspecBackUptoCardSaid : Prop := Claim7.holds Tryd.pinned (.plain (OpenSpec.upto dayspecBackSpec)) dayspecBackUptoCard

/-- THE SECOND FORM's CARD OF 'analemmalaw09.DayspecWords'. -/
def dayspecWordsUptoCard : Claim7 := { stood := { row := dayspecWordsUptoRow, standIns := [], harness := (true, "10de6619059ba256ba67ccc001536f721c98e4b73b60b6f67cb9e3d18b1eb450"), looks := false }, kinds := [], alts := [], laidByText := true, laidKinds := [.data, .data, .data, .data, .data, .data, .data, .pinned, .pinned], laidTests := true, laidLooks := .later }
def DayspecWordsUptoCardSaid : Prop := Claim7.holds Tryd.pinned (.plain (OpenSpec.upto dayspecWordsSpec)) dayspecWordsUptoCard

/-- THE SECOND FORM's CARD OF 'analemmalaw09.DayspecRefuses'. -/
def dayspecRefusesUptoCard : Claim7 := { stood := { row := dayspecRefusesUptoRow, standIns := [], harness := (true, "10de6619059ba256ba67ccc001536f721c98e4b73b60b6f67cb9e3d18b1eb450"), looks := false }, kinds := [], alts := [], laidByText := true, laidKinds := [.data, .data, .data, .data, .data, .data, .data, .pinned, .pinned], laidTests := true, laidLooks := .later }
def DayspecRefusesUptoCardSaid : Prop := Claim7.holds Tryd.pinned (.plain (OpenSpec.upto dayspecRefusesSpec)) dayspecRefusesUptoCard

/-- THE SECOND FORM's CARD OF 'analemmalaw39.PoolAbbrs'. -/
def poolAbbrsUptoCard : Claim7 := { stood := { row := poolAbbrsUptoRow, standIns := [], harness := (true, "10de6619059ba256ba67ccc001536f721c98e4b73b60b6f67cb9e3d18b1eb450"), looks := false }, kinds := [], alts := [], laidByText := true, laidKinds := [.data, .data, .data, .data, .pinned], laidTests := true, laidLooks := .later }
def PoolAbbrsUptoCardSaid : Prop := Claim7.holds Tryd.pinned (.plain (OpenSpec.upto poolAbbrsSpec)) poolAbbrsUptoCard

/-- THE SECOND FORM's CARD OF 'analemmalaw39.PoolTypes'. -/
def poolTypesUptoCard : Claim7 := { stood := { row := poolTypesUptoRow, standIns := [], harness := (true, "10de6619059ba256ba67ccc001536f721c98e4b73b60b6f67cb9e3d18b1eb450"), looks := false }, kinds := [], alts := [], laidByText := true, laidKinds := [.data, .data, .data, .data, .pinned], laidTests := true, laidLooks := .later }
def PoolTypesUptoCardSaid : Prop := Claim7.holds Tryd.pinned (.plain (OpenSpec.upto poolTypesSpec)) poolTypesUptoCard

/-- THE SECOND FORM's CARD OF 'analemmalaw39.PoolFound'. -/
def poolFoundUptoCard : Claim7 := { stood := { row := poolFoundUptoRow, standIns := [], harness := (true, "10de6619059ba256ba67ccc001536f721c98e4b73b60b6f67cb9e3d18b1eb450"), looks := false }, kinds := [], alts := [], laidByText := true, laidKinds := [.data, .data, .data, .data, .pinned], laidTests := true, laidLooks := .later }
def PoolFoundUptoCardSaid : Prop := Claim7.holds Tryd.pinned (.plain (OpenSpec.upto poolFoundSpec)) poolFoundUptoCard

/-- THE SECOND FORM's CARD OF 'analemmalaw39.PoolOrder'. -/
def poolOrderUptoCard : Claim7 := { stood := { row := poolOrderUptoRow, standIns := [], harness := (true, "10de6619059ba256ba67ccc001536f721c98e4b73b60b6f67cb9e3d18b1eb450"), looks := false }, kinds := [], alts := [], laidByText := true, laidKinds := [.data, .data, .data, .data, .pinned], laidTests := true, laidLooks := .later }
def PoolOrderUptoCardSaid : Prop := Claim7.holds Tryd.pinned (.plain (OpenSpec.upto poolOrderSpec)) poolOrderUptoCard

/-- THE SECOND FORM's CARD OF 'analemmalaw39.PoolRefuses'. -/
def poolRefusesUptoCard : Claim7 := { stood := { row := poolRefusesUptoRow, standIns := [], harness := (true, "10de6619059ba256ba67ccc001536f721c98e4b73b60b6f67cb9e3d18b1eb450"), looks := false }, kinds := [], alts := [], laidByText := true, laidKinds := [.data, .data, .data, .data, .pinned], laidTests := true, laidLooks := .later }
def PoolRefusesUptoCardSaid : Prop := Claim7.holds Tryd.pinned (.plain (OpenSpec.upto poolRefusesSpec)) poolRefusesUptoCard

/-- THE SECOND FORM's CARD OF 'analemmalaw39.PoolDifferent'. -/
def poolDifferentUptoCard : Claim7 := { stood := { row := poolDifferentUptoRow, standIns := [], harness := (true, "10de6619059ba256ba67ccc001536f721c98e4b73b60b6f67cb9e3d18b1eb450"), looks := false }, kinds := [], alts := [], laidByText := true, laidKinds := [.data, .data, .data, .data, .pinned], laidTests := true, laidLooks := .later }
def PoolDifferentUptoCardSaid : Prop := Claim7.holds Tryd.pinned (.plain (OpenSpec.upto poolDifferentSpec)) poolDifferentUptoCard
end Rows
end Go.Proofs.YtdpednaafficmaaDoor
