/-
  DERIVED. GIVEN WITH THE SEED: THE CARDS: each row of YtdpjkapaphelhaaDoorRows.lean that lists a variable, with what it lists TIED to the program's text (the seventh form; the later family's looks); each row that meets fmt, with fmt's text TOLD by the authors' own Lean function (tested against real Go, not proved from fmt's source: count such statements apart). THE CARD IS WHAT COUNTS. Prove the row's statement (the work); the ties are given (YtdpjkapaphelhaaDoorTie.lean); close each card by the builder's one call (the guide's Derived/Test/ToyasCard.lean, 'card_holds'). Laid BY PROGRAM, IN A SANDBOX (cutbox-door.mjs). By AI agents, Wed Nov 11 2026. No macro, syntax, notation, axiom, sorry.
-/
import Derived.Test.YtdpjkapaphelhaaDoorRows
import GoSem.ClaimSeven
namespace Go.Proofs.YtdpjkapaphelhaaDoor
namespace Rows

/-- THE TIED CARD OF 'analemmalaw04.OffsetParses'. -/
def offsetParsesCard : Claim7 := { stood := { row := offsetParsesRow, standIns := [], harness := (true, "38a70d1a0312baffcc61798f298c12f54c66e19d191d23c13af200027e41be97"), looks := false }, kinds := [], alts := [], laidByText := true, laidKinds := [.data, .data, .data, .data], laidTests := true, laidLooks := .later }
def OffsetParsesCardSaid : Prop := Claim7.holds Tryd.pinned (.plain (OpenSpec.ofChange offsetParsesSpec)) offsetParsesCard

/-- THE TIED CARD OF 'analemmalaw04.OffsetPrints'. -/
def offsetPrintsCard : Claim7 := { stood := { row := offsetPrintsRow, standIns := [], harness := (true, "38a70d1a0312baffcc61798f298c12f54c66e19d191d23c13af200027e41be97"), looks := false }, kinds := [], alts := [], laidByText := true, laidKinds := [.data, .data, .data, .data], laidTests := true, laidLooks := .later }
def OffsetPrintsCardSaid : Prop := Claim7.holds Tryd.pinned (.plain (OpenSpec.ofChange offsetPrintsSpec)) offsetPrintsCard

/-- THE TIED CARD OF 'analemmalaw04.OffsetBack'. -/
def offsetBackCard : Claim7 := { stood := { row := offsetBackRow, standIns := [], harness := (true, "38a70d1a0312baffcc61798f298c12f54c66e19d191d23c13af200027e41be97"), looks := false }, kinds := [], alts := [], laidByText := true, laidKinds := [.data, .data, .data, .data], laidTests := true, laidLooks := .later }
def OffsetBackCardSaid : Prop := Claim7.holds Tryd.pinned (.plain (OpenSpec.ofChange offsetBackSpec)) offsetBackCard

/-- THE TIED CARD OF 'analemmalaw04.OffsetFields'. -/
def offsetFieldsCard : Claim7 := { stood := { row := offsetFieldsRow, standIns := [], harness := (true, "38a70d1a0312baffcc61798f298c12f54c66e19d191d23c13af200027e41be97"), looks := false }, kinds := [], alts := [], laidByText := true, laidKinds := [.data, .data, .data, .data], laidTests := true, laidLooks := .later }
def OffsetFieldsCardSaid : Prop := Claim7.holds Tryd.pinned (.plain (OpenSpec.ofChange offsetFieldsSpec)) offsetFieldsCard

/-- THE TIED CARD OF 'analemmalaw04.OffsetOrder'. -/
def offsetOrderCard : Claim7 := { stood := { row := offsetOrderRow, standIns := [], harness := (true, "38a70d1a0312baffcc61798f298c12f54c66e19d191d23c13af200027e41be97"), looks := false }, kinds := [], alts := [], laidByText := true, laidKinds := [.data, .data, .data, .data], laidTests := true, laidLooks := .later }
def OffsetOrderCardSaid : Prop := Claim7.holds Tryd.pinned (.plain (OpenSpec.ofChange offsetOrderSpec)) offsetOrderCard

/-- THE TIED CARD OF 'analemmalaw04.OffsetSpoilt'. -/
def offsetSpoiltCard : Claim7 := { stood := { row := offsetSpoiltRow, standIns := [], harness := (true, "38a70d1a0312baffcc61798f298c12f54c66e19d191d23c13af200027e41be97"), looks := false }, kinds := [], alts := [], laidByText := true, laidKinds := [.data, .data, .data, .data], laidTests := true, laidLooks := .later }
def OffsetSpoiltCardSaid : Prop := Claim7.holds Tryd.pinned (.plain (OpenSpec.ofChange offsetSpoiltSpec)) offsetSpoiltCard

/-- THE TIED CARD OF 'analemmalaw04.OffsetRefuses'. -/
def offsetRefusesCard : Claim7 := { stood := { row := offsetRefusesRow, standIns := [], harness := (true, "38a70d1a0312baffcc61798f298c12f54c66e19d191d23c13af200027e41be97"), looks := false }, kinds := [], alts := [], laidByText := true, laidKinds := [.data, .data, .data, .data], laidTests := true, laidLooks := .later }
def OffsetRefusesCardSaid : Prop := Claim7.holds Tryd.pinned (.plain (OpenSpec.ofChange offsetRefusesSpec)) offsetRefusesCard

/-- THE TIED CARD OF 'analemmalaw08.WordFinds'. -/
def wordFindsCard : Claim7 := { stood := { row := wordFindsRow, standIns := [], harness := (true, "38a70d1a0312baffcc61798f298c12f54c66e19d191d23c13af200027e41be97"), looks := false }, kinds := [], alts := [], laidByText := true, laidKinds := [.data, .data, .data, .data], laidTests := true, laidLooks := .later }
def WordFindsCardSaid : Prop := Claim7.holds Tryd.pinned (.plain (OpenSpec.ofChange wordFindsSpec)) wordFindsCard

/-- THE TIED CARD OF 'analemmalaw08.WordTexts'. -/
def wordTextsCard : Claim7 := { stood := { row := wordTextsRow, standIns := [], harness := (true, "38a70d1a0312baffcc61798f298c12f54c66e19d191d23c13af200027e41be97"), looks := false }, kinds := [], alts := [], laidByText := true, laidKinds := [.data, .data, .data, .data], laidTests := true, laidLooks := .later }
def WordTextsCardSaid : Prop := Claim7.holds Tryd.pinned (.plain (OpenSpec.ofChange wordTextsSpec)) wordTextsCard

/-- THE TIED CARD OF 'analemmalaw08.WordBack'. -/
def wordBackCard : Claim7 := { stood := { row := wordBackRow, standIns := [], harness := (true, "38a70d1a0312baffcc61798f298c12f54c66e19d191d23c13af200027e41be97"), looks := false }, kinds := [], alts := [], laidByText := true, laidKinds := [.data, .data, .data, .data], laidTests := true, laidLooks := .later }
def WordBackCardSaid : Prop := Claim7.holds Tryd.pinned (.plain (OpenSpec.ofChange wordBackSpec)) wordBackCard

/-- THE TIED CARD OF 'analemmalaw08.WordShort'. -/
def wordShortCard : Claim7 := { stood := { row := wordShortRow, standIns := [], harness := (true, "38a70d1a0312baffcc61798f298c12f54c66e19d191d23c13af200027e41be97"), looks := false }, kinds := [], alts := [], laidByText := true, laidKinds := [.data, .data, .data, .data], laidTests := true, laidLooks := .later }
def WordShortCardSaid : Prop := Claim7.holds Tryd.pinned (.plain (OpenSpec.ofChange wordShortSpec)) wordShortCard

/-- THE TIED CARD OF 'analemmalaw08.WordMore'. -/
def wordMoreCard : Claim7 := { stood := { row := wordMoreRow, standIns := [], harness := (true, "38a70d1a0312baffcc61798f298c12f54c66e19d191d23c13af200027e41be97"), looks := false }, kinds := [], alts := [], laidByText := true, laidKinds := [.data, .data, .data, .data], laidTests := true, laidLooks := .later }
def WordMoreCardSaid : Prop := Claim7.holds Tryd.pinned (.plain (OpenSpec.ofChange wordMoreSpec)) wordMoreCard

/-- THE TIED CARD OF 'analemmalaw08.WordOne'. -/
def wordOneCard : Claim7 := { stood := { row := wordOneRow, standIns := [], harness := (true, "38a70d1a0312baffcc61798f298c12f54c66e19d191d23c13af200027e41be97"), looks := false }, kinds := [], alts := [], laidByText := true, laidKinds := [.data, .data, .data, .data], laidTests := true, laidLooks := .later }
def WordOneCardSaid : Prop := Claim7.holds Tryd.pinned (.plain (OpenSpec.ofChange wordOneSpec)) wordOneCard

/-- THE TIED CARD OF 'analemmalaw08.WordNumbers'. -/
def wordNumbersCard : Claim7 := { stood := { row := wordNumbersRow, standIns := [], harness := (true, "38a70d1a0312baffcc61798f298c12f54c66e19d191d23c13af200027e41be97"), looks := false }, kinds := [], alts := [], laidByText := true, laidKinds := [.data, .data, .data, .data], laidTests := true, laidLooks := .later }
def WordNumbersCardSaid : Prop := Claim7.holds Tryd.pinned (.plain (OpenSpec.ofChange wordNumbersSpec)) wordNumbersCard

/-- THE SECOND FORM's CARD OF 'analemmalaw04.OffsetParses'. -/
def offsetParsesUptoCard : Claim7 := { stood := { row := offsetParsesUptoRow, standIns := [], harness := (true, "38a70d1a0312baffcc61798f298c12f54c66e19d191d23c13af200027e41be97"), looks := false }, kinds := [], alts := [], laidByText := true, laidKinds := [.data, .data, .data, .data], laidTests := true, laidLooks := .later }
def OffsetParsesUptoCardSaid : Prop := Claim7.holds Tryd.pinned (.plain (OpenSpec.upto offsetParsesSpec)) offsetParsesUptoCard

/-- THE SECOND FORM's CARD OF 'analemmalaw04.OffsetPrints'. -/
def offsetPrintsUptoCard : Claim7 := { stood := { row := offsetPrintsUptoRow, standIns := [], harness := (true, "38a70d1a0312baffcc61798f298c12f54c66e19d191d23c13af200027e41be97"), looks := false }, kinds := [], alts := [], laidByText := true, laidKinds := [.data, .data, .data, .data], laidTests := true, laidLooks := .later }
def OffsetPrintsUptoCardSaid : Prop := Claim7.holds Tryd.pinned (.plain (OpenSpec.upto offsetPrintsSpec)) offsetPrintsUptoCard

/-- THE SECOND FORM's CARD OF 'analemmalaw04.OffsetBack'. -/
def offsetBackUptoCard : Claim7 := { stood := { row := offsetBackUptoRow, standIns := [], harness := (true, "38a70d1a0312baffcc61798f298c12f54c66e19d191d23c13af200027e41be97"), looks := false }, kinds := [], alts := [], laidByText := true, laidKinds := [.data, .data, .data, .data], laidTests := true, laidLooks := .later }
def OffsetBackUptoCardSaid : Prop := Claim7.holds Tryd.pinned (.plain (OpenSpec.upto offsetBackSpec)) offsetBackUptoCard

/-- THE SECOND FORM's CARD OF 'analemmalaw04.OffsetFields'. -/
def offsetFieldsUptoCard : Claim7 := { stood := { row := offsetFieldsUptoRow, standIns := [], harness := (true, "38a70d1a0312baffcc61798f298c12f54c66e19d191d23c13af200027e41be97"), looks := false }, kinds := [], alts := [], laidByText := true, laidKinds := [.data, .data, .data, .data], laidTests := true, laidLooks := .later }
def OffsetFieldsUptoCardSaid : Prop := Claim7.holds Tryd.pinned (.plain (OpenSpec.upto offsetFieldsSpec)) offsetFieldsUptoCard

/-- THE SECOND FORM's CARD OF 'analemmalaw04.OffsetOrder'. -/
def offsetOrderUptoCard : Claim7 := { stood := { row := offsetOrderUptoRow, standIns := [], harness := (true, "38a70d1a0312baffcc61798f298c12f54c66e19d191d23c13af200027e41be97"), looks := false }, kinds := [], alts := [], laidByText := true, laidKinds := [.data, .data, .data, .data], laidTests := true, laidLooks := .later }
def OffsetOrderUptoCardSaid : Prop := Claim7.holds Tryd.pinned (.plain (OpenSpec.upto offsetOrderSpec)) offsetOrderUptoCard

/-- THE SECOND FORM's CARD OF 'analemmalaw04.OffsetSpoilt'. -/
def offsetSpoiltUptoCard : Claim7 := { stood := { row := offsetSpoiltUptoRow, standIns := [], harness := (true, "38a70d1a0312baffcc61798f298c12f54c66e19d191d23c13af200027e41be97"), looks := false }, kinds := [], alts := [], laidByText := true, laidKinds := [.data, .data, .data, .data], laidTests := true, laidLooks := .later }
def OffsetSpoiltUptoCardSaid : Prop := Claim7.holds Tryd.pinned (.plain (OpenSpec.upto offsetSpoiltSpec)) offsetSpoiltUptoCard

/-- THE SECOND FORM's CARD OF 'analemmalaw04.OffsetRefuses'. -/
def offsetRefusesUptoCard : Claim7 := { stood := { row := offsetRefusesUptoRow, standIns := [], harness := (true, "38a70d1a0312baffcc61798f298c12f54c66e19d191d23c13af200027e41be97"), looks := false }, kinds := [], alts := [], laidByText := true, laidKinds := [.data, .data, .data, .data], laidTests := true, laidLooks := .later }
def OffsetRefusesUptoCardSaid : Prop := Claim7.holds Tryd.pinned (.plain (OpenSpec.upto offsetRefusesSpec)) offsetRefusesUptoCard

/-- THE SECOND FORM's CARD OF 'analemmalaw08.WordFinds'. -/
def wordFindsUptoCard : Claim7 := { stood := { row := wordFindsUptoRow, standIns := [], harness := (true, "38a70d1a0312baffcc61798f298c12f54c66e19d191d23c13af200027e41be97"), looks := false }, kinds := [], alts := [], laidByText := true, laidKinds := [.data, .data, .data, .data], laidTests := true, laidLooks := .later }
def WordFindsUptoCardSaid : Prop := Claim7.holds Tryd.pinned (.plain (OpenSpec.upto wordFindsSpec)) wordFindsUptoCard

/-- THE SECOND FORM's CARD OF 'analemmalaw08.WordTexts'. -/
def wordTextsUptoCard : Claim7 := { stood := { row := wordTextsUptoRow, standIns := [], harness := (true, "38a70d1a0312baffcc61798f298c12f54c66e19d191d23c13af200027e41be97"), looks := false }, kinds := [], alts := [], laidByText := true, laidKinds := [.data, .data, .data, .data], laidTests := true, laidLooks := .later }
def WordTextsUptoCardSaid : Prop := Claim7.holds Tryd.pinned (.plain (OpenSpec.upto wordTextsSpec)) wordTextsUptoCard

/-- THE SECOND FORM's CARD OF 'analemmalaw08.WordBack'. -/
def wordBackUptoCard : Claim7 := { stood := { row := wordBackUptoRow, standIns := [], harness := (true, "38a70d1a0312baffcc61798f298c12f54c66e19d191d23c13af200027e41be97"), looks := false }, kinds := [], alts := [], laidByText := true, laidKinds := [.data, .data, .data, .data], laidTests := true, laidLooks := .later }
def WordBackUptoCardSaid : Prop := Claim7.holds Tryd.pinned (.plain (OpenSpec.upto wordBackSpec)) wordBackUptoCard

/-- THE SECOND FORM's CARD OF 'analemmalaw08.WordShort'. -/
def wordShortUptoCard : Claim7 := { stood := { row := wordShortUptoRow, standIns := [], harness := (true, "38a70d1a0312baffcc61798f298c12f54c66e19d191d23c13af200027e41be97"), looks := false }, kinds := [], alts := [], laidByText := true, laidKinds := [.data, .data, .data, .data], laidTests := true, laidLooks := .later }
def WordShortUptoCardSaid : Prop := Claim7.holds Tryd.pinned (.plain (OpenSpec.upto wordShortSpec)) wordShortUptoCard

/-- THE SECOND FORM's CARD OF 'analemmalaw08.WordMore'. -/
def wordMoreUptoCard : Claim7 := { stood := { row := wordMoreUptoRow, standIns := [], harness := (true, "38a70d1a0312baffcc61798f298c12f54c66e19d191d23c13af200027e41be97"), looks := false }, kinds := [], alts := [], laidByText := true, laidKinds := [.data, .data, .data, .data], laidTests := true, laidLooks := .later }
def WordMoreUptoCardSaid : Prop := Claim7.holds Tryd.pinned (.plain (OpenSpec.upto wordMoreSpec)) wordMoreUptoCard

/-- THE SECOND FORM's CARD OF 'analemmalaw08.WordOne'. -/
def wordOneUptoCard : Claim7 := { stood := { row := wordOneUptoRow, standIns := [], harness := (true, "38a70d1a0312baffcc61798f298c12f54c66e19d191d23c13af200027e41be97"), looks := false }, kinds := [], alts := [], laidByText := true, laidKinds := [.data, .data, .data, .data], laidTests := true, laidLooks := .later }
def WordOneUptoCardSaid : Prop := Claim7.holds Tryd.pinned (.plain (OpenSpec.upto wordOneSpec)) wordOneUptoCard

/-- THE SECOND FORM's CARD OF 'analemmalaw08.WordNumbers'. -/
def wordNumbersUptoCard : Claim7 := { stood := { row := wordNumbersUptoRow, standIns := [], harness := (true, "38a70d1a0312baffcc61798f298c12f54c66e19d191d23c13af200027e41be97"), looks := false }, kinds := [], alts := [], laidByText := true, laidKinds := [.data, .data, .data, .data], laidTests := true, laidLooks := .later }
def WordNumbersUptoCardSaid : Prop := Claim7.holds Tryd.pinned (.plain (OpenSpec.upto wordNumbersSpec)) wordNumbersUptoCard
end Rows
end Go.Proofs.YtdpjkapaphelhaaDoor
