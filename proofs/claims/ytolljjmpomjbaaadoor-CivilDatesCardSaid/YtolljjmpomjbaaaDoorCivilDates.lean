/-
  The walk of CivilDates.
-/
import Derived.Test.YtolljjmpomjbaaaDoorCivilRefB
import Derived.Test.YtolljjmpomjbaaaDoorCivilW
namespace Go.Proofs.YtolljjmpomjbaaaDoor
set_option linter.unusedVariables false
set_option linter.unusedSimpArgs false
open Go.RowKit

set_option maxRecDepth 100000 in
set_option maxHeartbeats 1000000 in
theorem civilDates_walk (y m d : Int) (wy : (Lit.int .i64 y).wf = true) (wm : (Lit.int .i64 m).wf = true) (wd : (Lit.int .i64 d).wf = true) (w : World) (hT : Tab w) :
    Calls Tryd.prog 3 #[.int .i64 y, .int .i64 m, .int .i64 d] w fun e w' => e = .returned (.bool true) ∧ Grown w w' := by
  by_cases h : -2000000000 ≤ y ∧ y ≤ 2000000000 ∧ 1 ≤ d ∧ d ≤ Cal.len y m
  · obtain ⟨h1, h2, h3, h4⟩ := h
    have hm := Cal.len_month (y := y) (m := m) (by omega)
    have ok := Lib.hid (show Cal.Ok y m d from ⟨hm.1, hm.2, h3, h4⟩)
    go_enter Tryd.func3, Tryd.ntmps3
    go_wp2_with (first | (go_at_call 9; refine (days_ok y m d _ (by repeat (first | exact hT | apply Tab.drewN | apply Tab.drew | apply Tab.alloc)) h1 h2 ok.out).mono ?_; rintro e w' ⟨rfl, k4, rfl⟩) | (go_at_call 10; refine (rdays_ok y m d _ h1 h2 ok.out).mono ?_; rintro e w' ⟨rfl, rfl⟩) | (go_at_call 11; refine (leap_any _ _).mono ?_; rintro e w' ⟨rfl, rfl⟩) | (go_at_call 12; refine (rleap_any _ _).mono ?_; rintro e w' ⟨rfl, rfl⟩) | (go_at_call 13; refine (len_any _ _ _ (by repeat (first | exact hT | apply Tab.drewN | apply Tab.drew | apply Tab.alloc))).mono ?_; rintro e w' ⟨rfl, k1, rfl⟩) | (go_at_call 14; refine (rlen_any _ _ _).mono ?_; rintro e w' ⟨rfl, rfl⟩) | (go_at_call 15; refine (works_any _ (by repeat (first | exact hT | apply Tab.drewN | apply Tab.drew | apply Tab.alloc))).mono ?_; rintro e w' ⟨rfl, k2, rfl⟩))
    go_ret
    exact ⟨rfl, by repeat (first | exact Grown.refl _ | apply Grown.drew | refine Grown.alloc ?_ _ _)⟩
  · have hb := Lib.hid (show y < -2000000000 ∨ 2000000000 < y ∨ d < 1 ∨ Cal.len y m < d by omega)
    clear h
    go_enter Tryd.func3, Tryd.ntmps3
    go_wp2_with (first | (go_at_call 9; refine (days_bad y m d _ (by repeat (first | exact hT | apply Tab.drewN | apply Tab.drew | apply Tab.alloc)) hb.out).mono ?_; rintro e w' ⟨rfl, k4, rfl⟩) | (go_at_call 10; refine (rdays_bad y m d _ hb.out).mono ?_; rintro e w' ⟨rfl, rfl⟩) | (go_at_call 11; refine (leap_any _ _).mono ?_; rintro e w' ⟨rfl, rfl⟩) | (go_at_call 12; refine (rleap_any _ _).mono ?_; rintro e w' ⟨rfl, rfl⟩) | (go_at_call 13; refine (len_any _ _ _ (by repeat (first | exact hT | apply Tab.drewN | apply Tab.drew | apply Tab.alloc))).mono ?_; rintro e w' ⟨rfl, k1, rfl⟩) | (go_at_call 14; refine (rlen_any _ _ _).mono ?_; rintro e w' ⟨rfl, rfl⟩) | (go_at_call 15; refine (works_any _ (by repeat (first | exact hT | apply Tab.drewN | apply Tab.drew | apply Tab.alloc))).mono ?_; rintro e w' ⟨rfl, k2, rfl⟩))
    go_ret
    exact ⟨rfl, by repeat (first | exact Grown.refl _ | apply Grown.drew | refine Grown.alloc ?_ _ _)⟩
end Go.Proofs.YtolljjmpomjbaaaDoor
