/-
  DERIVED. GIVEN WITH THE SEED: THE CARDS: each row of YtolljjmpomjbaabDoorRows.lean that lists a variable, with what it lists TIED to the program's text (the seventh form; the later family's looks); each row that meets fmt, with fmt's text TOLD by the authors' own Lean function (tested against real Go, not proved from fmt's source: count such statements apart). THE CARD IS WHAT COUNTS. Prove the row's statement (the work); the ties are given (YtolljjmpomjbaabDoorTie.lean); close each card by the builder's one call (the guide's Derived/Test/ToyasCard.lean, 'card_holds'). Laid BY PROGRAM, IN A SANDBOX (cutbox-door.mjs). By AI agents, Wed Nov 11 2026. No macro, syntax, notation, axiom, sorry.
-/
import Derived.Test.YtolljjmpomjbaabDoorRows
import GoSem.ClaimSeven
namespace Go.Proofs.YtolljjmpomjbaabDoor
namespace Rows

/-- THE TIED CARD OF 'analemmalaw01.CivilSeconds'. -/
def civilSecondsCard : Claim7 := { stood := { row := civilSecondsRow, standIns := [], harness := (true, "08992921a291c63f6397d8f92b382589aeb406c1e253768acf746167ac6613ef"), looks := false }, kinds := [], alts := [], laidByText := true, laidKinds := [.data], laidTests := true, laidLooks := .later }
def CivilSecondsCardSaid : Prop := Claim7.holds Tryd.pinned (.plain (OpenSpec.ofChange civilSecondsSpec)) civilSecondsCard

/-- THE TIED CARD OF 'analemmalaw01.CivilRefuses'. -/
def civilRefusesCard : Claim7 := { stood := { row := civilRefusesRow, standIns := [], harness := (true, "08992921a291c63f6397d8f92b382589aeb406c1e253768acf746167ac6613ef"), looks := false }, kinds := [], alts := [], laidByText := true, laidKinds := [.data], laidTests := true, laidLooks := .later }
def CivilRefusesCardSaid : Prop := Claim7.holds Tryd.pinned (.plain (OpenSpec.ofChange civilRefusesSpec)) civilRefusesCard

/-- THE SECOND FORM's CARD OF 'analemmalaw01.CivilSeconds'. -/
def civilSecondsUptoCard : Claim7 := { stood := { row := civilSecondsUptoRow, standIns := [], harness := (true, "08992921a291c63f6397d8f92b382589aeb406c1e253768acf746167ac6613ef"), looks := false }, kinds := [], alts := [], laidByText := true, laidKinds := [.data], laidTests := true, laidLooks := .later }
def CivilSecondsUptoCardSaid : Prop := Claim7.holds Tryd.pinned (.plain (OpenSpec.upto civilSecondsSpec)) civilSecondsUptoCard

/-- THE SECOND FORM's CARD OF 'analemmalaw01.CivilRefuses'. -/
def civilRefusesUptoCard : Claim7 := { stood := { row := civilRefusesUptoRow, standIns := [], harness := (true, "08992921a291c63f6397d8f92b382589aeb406c1e253768acf746167ac6613ef"), looks := false }, kinds := [], alts := [], laidByText := true, laidKinds := [.data], laidTests := true, laidLooks := .later }
def CivilRefusesUptoCardSaid : Prop := Claim7.holds Tryd.pinned (.plain (OpenSpec.upto civilRefusesSpec)) civilRefusesUptoCard
end Rows
end Go.Proofs.YtolljjmpomjbaabDoor
