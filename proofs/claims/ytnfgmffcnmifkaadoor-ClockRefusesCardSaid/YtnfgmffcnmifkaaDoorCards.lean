/-
  DERIVED. GIVEN WITH THE SEED: THE CARDS: each row of YtnfgmffcnmifkaaDoorRows.lean that lists a variable, with what it lists TIED to the program's text (the seventh form; the later family's looks); each row that meets fmt, with fmt's text TOLD by the authors' own Lean function (tested against real Go, not proved from fmt's source: count such statements apart). THE CARD IS WHAT COUNTS. Prove the row's statement (the work); the ties are given (YtnfgmffcnmifkaaDoorTie.lean); close each card by the builder's one call (the guide's Derived/Test/ToyasCard.lean, 'card_holds'). Laid BY PROGRAM, IN A SANDBOX (cutbox-door.mjs). By AI agents, Wed Nov 11 2026. No macro, syntax, notation, axiom, sorry.
-/
import Derived.Test.YtnfgmffcnmifkaaDoorRows
import GoSem.ClaimSeven
namespace Go.Proofs.YtnfgmffcnmifkaaDoor
namespace Rows

/-- THE TIED CARD OF 'analemmalaw06.ClockStrings'. -/
def clockStringsCard : Claim7 := { stood := { row := clockStringsRow, standIns := [], harness := (true, "f973407176e5b1bd1ab3fe04ffba32926ecb8c77fc0fb233c57ff108a9a346c7"), looks := false }, kinds := [], alts := [], laidByText := true, laidKinds := [.data, .data, .data, .data, .data], laidTests := true, laidLooks := .later }
def ClockStringsCardSaid : Prop := Claim7.holds Tryd.pinned (.plain (OpenSpec.ofChange clockStringsSpec)) clockStringsCard

/-- THE TIED CARD OF 'analemmalaw06.ClockTimes'. -/
def clockTimesCard : Claim7 := { stood := { row := clockTimesRow, standIns := [], harness := (true, "f973407176e5b1bd1ab3fe04ffba32926ecb8c77fc0fb233c57ff108a9a346c7"), looks := false }, kinds := [], alts := [], laidByText := true, laidKinds := [.data, .data, .data, .data, .data], laidTests := true, laidLooks := .later }
def ClockTimesCardSaid : Prop := Claim7.holds Tryd.pinned (.plain (OpenSpec.ofChange clockTimesSpec)) clockTimesCard

/-- THE TIED CARD OF 'analemmalaw06.ClockBack'. -/
def clockBackCard : Claim7 := { stood := { row := clockBackRow, standIns := [], harness := (true, "f973407176e5b1bd1ab3fe04ffba32926ecb8c77fc0fb233c57ff108a9a346c7"), looks := false }, kinds := [], alts := [], laidByText := true, laidKinds := [.data, .data, .data, .data, .data], laidTests := true, laidLooks := .later }
def ClockBackCardSaid : Prop := Claim7.holds Tryd.pinned (.plain (OpenSpec.ofChange clockBackSpec)) clockBackCard

/-- THE TIED CARD OF 'analemmalaw06.ClockReads'. -/
def clockReadsCard : Claim7 := { stood := { row := clockReadsRow, standIns := [], harness := (true, "f973407176e5b1bd1ab3fe04ffba32926ecb8c77fc0fb233c57ff108a9a346c7"), looks := false }, kinds := [], alts := [], laidByText := true, laidKinds := [.data, .data, .data, .data, .data], laidTests := true, laidLooks := .later }
def ClockReadsCardSaid : Prop := Claim7.holds Tryd.pinned (.plain (OpenSpec.ofChange clockReadsSpec)) clockReadsCard

/-- THE TIED CARD OF 'analemmalaw06.ClockLetters'. -/
def clockLettersCard : Claim7 := { stood := { row := clockLettersRow, standIns := [], harness := (true, "f973407176e5b1bd1ab3fe04ffba32926ecb8c77fc0fb233c57ff108a9a346c7"), looks := false }, kinds := [], alts := [], laidByText := true, laidKinds := [.data, .data, .data, .data, .data], laidTests := true, laidLooks := .later }
def ClockLettersCardSaid : Prop := Claim7.holds Tryd.pinned (.plain (OpenSpec.ofChange clockLettersSpec)) clockLettersCard

/-- THE TIED CARD OF 'analemmalaw06.ClockRefuses'. -/
def clockRefusesCard : Claim7 := { stood := { row := clockRefusesRow, standIns := [], harness := (true, "f973407176e5b1bd1ab3fe04ffba32926ecb8c77fc0fb233c57ff108a9a346c7"), looks := false }, kinds := [], alts := [], laidByText := true, laidKinds := [.data, .data, .data, .data, .data], laidTests := true, laidLooks := .later }
def ClockRefusesCardSaid : Prop := Claim7.holds Tryd.pinned (.plain (OpenSpec.ofChange clockRefusesSpec)) clockRefusesCard

/-- THE SECOND FORM's CARD OF 'analemmalaw06.ClockStrings'. -/
def clockStringsUptoCard : Claim7 := { stood := { row := clockStringsUptoRow, standIns := [], harness := (true, "f973407176e5b1bd1ab3fe04ffba32926ecb8c77fc0fb233c57ff108a9a346c7"), looks := false }, kinds := [], alts := [], laidByText := true, laidKinds := [.data, .data, .data, .data, .data], laidTests := true, laidLooks := .later }
def ClockStringsUptoCardSaid : Prop := Claim7.holds Tryd.pinned (.plain (OpenSpec.upto clockStringsSpec)) clockStringsUptoCard

/-- THE SECOND FORM's CARD OF 'analemmalaw06.ClockTimes'. -/
def clockTimesUptoCard : Claim7 := { stood := { row := clockTimesUptoRow, standIns := [], harness := (true, "f973407176e5b1bd1ab3fe04ffba32926ecb8c77fc0fb233c57ff108a9a346c7"), looks := false }, kinds := [], alts := [], laidByText := true, laidKinds := [.data, .data, .data, .data, .data], laidTests := true, laidLooks := .later }
def ClockTimesUptoCardSaid : Prop := Claim7.holds Tryd.pinned (.plain (OpenSpec.upto clockTimesSpec)) clockTimesUptoCard

/-- THE SECOND FORM's CARD OF 'analemmalaw06.ClockBack'. -/
def clockBackUptoCard : Claim7 := { stood := { row := clockBackUptoRow, standIns := [], harness := (true, "f973407176e5b1bd1ab3fe04ffba32926ecb8c77fc0fb233c57ff108a9a346c7"), looks := false }, kinds := [], alts := [], laidByText := true, laidKinds := [.data, .data, .data, .data, .data], laidTests := true, laidLooks := .later }
def ClockBackUptoCardSaid : Prop := Claim7.holds Tryd.pinned (.plain (OpenSpec.upto clockBackSpec)) clockBackUptoCard

/-- THE SECOND FORM's CARD OF 'analemmalaw06.ClockReads'. -/
def clockReadsUptoCard : Claim7 := { stood := { row := clockReadsUptoRow, standIns := [], harness := (true, "f973407176e5b1bd1ab3fe04ffba32926ecb8c77fc0fb233c57ff108a9a346c7"), looks := false }, kinds := [], alts := [], laidByText := true, laidKinds := [.data, .data, .data, .data, .data], laidTests := true, laidLooks := .later }
def ClockReadsUptoCardSaid : Prop := Claim7.holds Tryd.pinned (.plain (OpenSpec.upto clockReadsSpec)) clockReadsUptoCard

/-- THE SECOND FORM's CARD OF 'analemmalaw06.ClockLetters'. -/
def clockLettersUptoCard : Claim7 := { stood := { row := clockLettersUptoRow, standIns := [], harness := (true, "f973407176e5b1bd1ab3fe04ffba32926ecb8c77fc0fb233c57ff108a9a346c7"), looks := false }, kinds := [], alts := [], laidByText := true, laidKinds := [.data, .data, .data, .data, .data], laidTests := true, laidLooks := .later }
def ClockLettersUptoCardSaid : Prop := Claim7.holds Tryd.pinned (.plain (OpenSpec.upto clockLettersSpec)) clockLettersUptoCard

/-- THE SECOND FORM's CARD OF 'analemmalaw06.ClockRefuses'. -/
def clockRefusesUptoCard : Claim7 := { stood := { row := clockRefusesUptoRow, standIns := [], harness := (true, "f973407176e5b1bd1ab3fe04ffba32926ecb8c77fc0fb233c57ff108a9a346c7"), looks := false }, kinds := [], alts := [], laidByText := true, laidKinds := [.data, .data, .data, .data, .data], laidTests := true, laidLooks := .later }
def ClockRefusesUptoCardSaid : Prop := Claim7.holds Tryd.pinned (.plain (OpenSpec.upto clockRefusesSpec)) clockRefusesUptoCard
end Rows
end Go.Proofs.YtnfgmffcnmifkaaDoor
