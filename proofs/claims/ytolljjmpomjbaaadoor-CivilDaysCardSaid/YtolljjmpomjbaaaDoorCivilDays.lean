/-
  The walk of CivilDays.
-/
import Derived.Test.YtolljjmpomjbaaaDoorCivilRefB
import Derived.Test.YtolljjmpomjbaaaDoorCivilW
namespace Go.Proofs.YtolljjmpomjbaaaDoor
set_option linter.unusedVariables false
set_option linter.unusedSimpArgs false
open Go.RowKit

set_option maxRecDepth 100000 in
set_option maxHeartbeats 1000000 in
theorem civilDays_walk (n : Int) (wn : (Lit.int .i64 n).wf = true) (w : World) (hT : Tab w) :
    Calls Tryd.prog 4 #[.int .i64 n] w fun e w' => e = .returned (.bool true) ∧ Grown w w' := by
  obtain ⟨b1, b2⟩ := bounds_i64 wn
  by_cases h : -730485719528 ≤ n ∧ n ≤ 730484280837
  · obtain ⟨h1, h2⟩ := h
    go_enter Tryd.func4, Tryd.ntmps4
    go_wp2_with (first | (go_at_call 16; refine (date_in n _ h1 h2).mono ?_; rintro e w' ⟨rfl, rfl⟩) | (go_at_call 17; refine (rdate_in n _ h1 h2).mono ?_; rintro e w' ⟨rfl, rfl⟩) | (go_at_call 18; refine (weekday_any _ _ (by omega) (by omega)).mono ?_; rintro e w' ⟨rfl, rfl⟩) | (go_at_call 19; refine (rweekday_any _ _).mono ?_; rintro e w' ⟨rfl, rfl⟩) | (go_at_call 20; refine (year_any _ _ (by omega) (by omega)).mono ?_; rintro e w' ⟨rfl, rfl⟩) | (go_at_call 21; refine (ryeart_any _ _ (by omega) (by omega)).mono ?_; rintro e w' ⟨rfl, rfl⟩) | (go_at_call 15; refine (works_any _ (by repeat (first | exact hT | apply Tab.drewN | apply Tab.drew | apply Tab.alloc))).mono ?_; rintro e w' ⟨rfl, k2, rfl⟩))
    go_ret
    exact ⟨rfl, by repeat (first | exact Grown.refl _ | apply Grown.drew | refine Grown.alloc ?_ _ _)⟩
  · have hb := Lib.hid (show n < -730485719528 ∨ 730484280837 < n by omega)
    clear h
    go_enter Tryd.func4, Tryd.ntmps4
    go_wp2_with (first | (go_at_call 16; refine (date_bad n _ hb.out).mono ?_; rintro e w' ⟨rfl, rfl⟩) | (go_at_call 17; refine (rdate_bad n _ b1 b2 hb.out).mono ?_; rintro e w' ⟨rfl, rfl⟩) | (go_at_call 18; refine (weekday_any _ _ (by omega) (by omega)).mono ?_; rintro e w' ⟨rfl, rfl⟩) | (go_at_call 19; refine (rweekday_any _ _).mono ?_; rintro e w' ⟨rfl, rfl⟩) | (go_at_call 20; refine (year_any _ _ (by omega) (by omega)).mono ?_; rintro e w' ⟨rfl, rfl⟩) | (go_at_call 21; refine (ryeart_any _ _ (by omega) (by omega)).mono ?_; rintro e w' ⟨rfl, rfl⟩) | (go_at_call 15; refine (works_any _ (by repeat (first | exact hT | apply Tab.drewN | apply Tab.drew | apply Tab.alloc))).mono ?_; rintro e w' ⟨rfl, k2, rfl⟩))
    go_ret
    exact ⟨rfl, by repeat (first | exact Grown.refl _ | apply Grown.drew | refine Grown.alloc ?_ _ _)⟩
end Go.Proofs.YtolljjmpomjbaaaDoor
