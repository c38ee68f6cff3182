/-
  What the listed table gives: the cells of the table of package civil.
-/
import Derived.Test.YtljbgkfoljjgbaaDoorCivil
import Derived.Test.YtljbgkfoljjgbaaDoorTie
import Derived.Test.YtljbgkfoljjgbaaDoorCards
import Derived.ProofKit
import Derived.OpenShut
import Derived.Lib.LaidTab
import Derived.LaidMore
import Derived.MakeChecks
import Derived.Handed
namespace Go.Proofs.YtljbgkfoljjgbaaDoor
open Go.ChangeShapes Go.WideShapes Go.ChangeAt Go.RowKit

theorem own : ownKnob Tryd.prog.godebug = none := by kernel_rfl
theorem gBefore : Tryd.prog.globalNamed "analemma/civil.before" = some 0 := by kernel_rfl
theorem tBefore : (Tryd.prog.globals[0]?).map (·.type) = some 58 := by kernel_rfl
theorem cInt : Tryd.prog.cellsOf 3 = 1 := by kernel_rfl
theorem cBefore : Tryd.prog.cellsOf 58 = 13 := by kernel_rfl

/-- The door's own heap meets the condition. -/
theorem door_met (os : Os) (args : Array Value) : laidMetH Tryd.prog [("analemma/civil.before", Rows.laid_analemma_civil_before)] ((World.doorLaid Tryd.prog 400 os).forCall (fun _ _ => 0) ⟨#[], args, []⟩).memory :=
  laidMetH_of_parts3 (fuel := 8) (laidMet_of_run' 8 (by kernel_rfl) (by kernel_rfl)) (by kernel_rfl) (by kernel_rfl)
theorem tab_of_laid {W : World} (h : laidMetH Tryd.prog [("analemma/civil.before", Rows.laid_analemma_civil_before)] W) : Tab W := by
  rw [MakeChecks.laidMetH_plain _ _ _ (by kernel_rfl)] at h
  have hT : Lib.TabIs Tryd.prog W "analemma/civil.before" .i64 befL :=
    Lib.tabIs_of_head gBefore tBefore Tryd.underlying58 Tryd.underlying3 cInt cBefore h
  intro i hi
  exact hT.cell gBefore i hi
end Go.Proofs.YtljbgkfoljjgbaaDoor
