/-
  The examples of the chapter on package civil hold.
-/
import Derived.Test.YtolljjmpomjbaabDoorCivilC
namespace Go.Proofs.YtolljjmpomjbaabDoor
set_option linter.unusedVariables false
set_option linter.unusedSimpArgs false
open Go.RowKit

theorem wk1 (w : World) (hT : Tab w) : Calls Tryd.prog 8 #[.int .i64 2000, .int .i64 3, .int .i64 1] w fun e w' => e = .returned (.tuple #[.int .i64 11017, .int .i64 0]) ∧ ∃ n, w' = w.drewN n := by
  have h := days_ok 2000 3 1 w hT (by decide) (by decide) ⟨by decide, by decide, by decide, by decide⟩
  rw [show Cal.num 2000 3 1 = 11017 by decide] at h
  exact h

theorem wk2 (w : World) (hT : Tab w) : Calls Tryd.prog 8 #[.int .i64 0, .int .i64 1, .int .i64 1] w fun e w' => e = .returned (.tuple #[.int .i64 (-719528), .int .i64 0]) ∧ ∃ n, w' = w.drewN n := by
  have h := days_ok 0 1 1 w hT (by decide) (by decide) ⟨by decide, by decide, by decide, by decide⟩
  rw [show Cal.num 0 1 1 = -719528 by decide] at h
  exact h

theorem wk3 (w : World) (hT : Tab w) : Calls Tryd.prog 8 #[.int .i64 2023, .int .i64 2, .int .i64 29] w fun e w' => e = .returned (.tuple #[.int .i64 0, .int .i64 3]) ∧ ∃ n, w' = w.drewN n := by
  exact days_bad 2023 2 29 w hT (by decide)

theorem wk4 (w : World) (hT : Tab w) : Calls Tryd.prog 8 #[.int .i64 2000000001, .int .i64 1, .int .i64 1] w fun e w' => e = .returned (.tuple #[.int .i64 0, .int .i64 3]) ∧ ∃ n, w' = w.drewN n := by
  exact days_bad 2000000001 1 1 w hT (by decide)

theorem wk5 (w : World) : Calls Tryd.prog 6 #[.int .i64 19782] w fun e w' => e = .returned (.tuple #[.int .i64 2024, .int .i64 2, .int .i64 29, .int .i64 0]) ∧ w = w' := by
  have h := date_in 19782 w (by decide) (by decide)
  rw [show Cal.yr 19782 = 2024 by decide, show Cal.mo 19782 = 2 by decide, show Cal.dy 19782 = 29 by decide] at h
  exact h

theorem wk6 (w : World) : Calls Tryd.prog 12 #[.int .i64 1900] w fun e w' => e = .returned (.bool false) ∧ w = w' := by
  have h := leap_any 1900 w
  rw [show Cal.lpB 1900 = false by decide] at h
  exact h

theorem wk7 (w : World) : Calls Tryd.prog 12 #[.int .i64 2000] w fun e w' => e = .returned (.bool true) ∧ w = w' := by
  have h := leap_any 2000 w
  rw [show Cal.lpB 2000 = true by decide] at h
  exact h

theorem wk8 (w : World) : Calls Tryd.prog 12 #[.int .i64 (-4)] w fun e w' => e = .returned (.bool true) ∧ w = w' := by
  have h := leap_any (-4) w
  rw [show Cal.lpB (-4) = true by decide] at h
  exact h

theorem wk9 (w : World) : Calls Tryd.prog 12 #[.int .i64 (-100)] w fun e w' => e = .returned (.bool false) ∧ w = w' := by
  have h := leap_any (-100) w
  rw [show Cal.lpB (-100) = false by decide] at h
  exact h

theorem wk10 (w : World) (hT : Tab w) : Calls Tryd.prog 9 #[.int .i64 2023, .int .i64 2] w fun e w' => e = .returned (.int .i64 28) ∧ ∃ n, w' = w.drewN n := by
  have h := len_any 2023 2 w hT
  rw [show Cal.len 2023 2 = 28 by decide] at h
  exact h

theorem wk11 (w : World) (hT : Tab w) : Calls Tryd.prog 9 #[.int .i64 2024, .int .i64 2] w fun e w' => e = .returned (.int .i64 29) ∧ ∃ n, w' = w.drewN n := by
  have h := len_any 2024 2 w hT
  rw [show Cal.len 2024 2 = 29 by decide] at h
  exact h

theorem wk12 (w : World) (hT : Tab w) : Calls Tryd.prog 9 #[.int .i64 2024, .int .i64 13] w fun e w' => e = .returned (.int .i64 0) ∧ ∃ n, w' = w.drewN n := by
  have h := len_any 2024 13 w hT
  rw [show Cal.len 2024 13 = 0 by decide] at h
  exact h

theorem wk13 (w : World) : Calls Tryd.prog 13 #[.int .i64 0] w fun e w' => e = .returned (.int .i64 4) ∧ w = w' := by
  exact weekday_any 0 w (by decide) (by decide)

theorem wk14 (w : World) : Calls Tryd.prog 13 #[.int .i64 3] w fun e w' => e = .returned (.int .i64 0) ∧ w = w' := by
  exact weekday_any 3 w (by decide) (by decide)

theorem wk15 (w : World) : Calls Tryd.prog 13 #[.int .i64 (-5)] w fun e w' => e = .returned (.int .i64 6) ∧ w = w' := by
  exact weekday_any (-5) w (by decide) (by decide)

theorem wk16 (w : World) : Calls Tryd.prog 5 #[.int .i64 0] w fun e w' => e = .returned (.int .i64 1970) ∧ w = w' := by
  have h := year_any 0 w (by decide) (by decide)
  rw [show Cal.ysec 0 = 1970 by decide] at h
  exact h

theorem wk17 (w : World) : Calls Tryd.prog 5 #[.int .i64 (-1)] w fun e w' => e = .returned (.int .i64 1969) ∧ w = w' := by
  have h := year_any (-1) w (by decide) (by decide)
  rw [show Cal.ysec (-1) = 1969 by decide] at h
  exact h

theorem wk18 (w : World) : Calls Tryd.prog 5 #[.int .i64 9223372036854775807] w fun e w' => e = .returned (.int .i64 2000000000) ∧ w = w' := by
  have h := year_any 9223372036854775807 w (by decide) (by decide)
  rw [show Cal.ysec 9223372036854775807 = 2000000000 by decide] at h
  exact h

set_option maxRecDepth 100000 in
set_option maxHeartbeats 1000000 in
theorem works_any (w : World) (hT : Tab w) :
    Calls Tryd.prog 7 #[] w fun e w' => e = .returned (.bool true) ∧ ∃ n, w' = w.drewN n := by
  go_enter Tryd.func7, Tryd.ntmps7
  go_wp2_with (first | (go_at_call 8; (with_reducible refine (wk1 _ (by first | exact hT | exact hT.drewN _)).mono ?_); rintro e w' ⟨rfl, n1, rfl⟩) | (go_at_call 8; (with_reducible refine (wk2 _ (by first | exact hT | exact hT.drewN _)).mono ?_); rintro e w' ⟨rfl, n2, rfl⟩) | (go_at_call 8; (with_reducible refine (wk3 _ (by first | exact hT | exact hT.drewN _)).mono ?_); rintro e w' ⟨rfl, n3, rfl⟩) | (go_at_call 8; (with_reducible refine (wk4 _ (by first | exact hT | exact hT.drewN _)).mono ?_); rintro e w' ⟨rfl, n4, rfl⟩) | (go_at_call 6; (with_reducible refine (wk5 _).mono ?_); rintro e w' ⟨rfl, rfl⟩) | (go_at_call 12; (with_reducible refine (wk6 _).mono ?_); rintro e w' ⟨rfl, rfl⟩) | (go_at_call 12; (with_reducible refine (wk7 _).mono ?_); rintro e w' ⟨rfl, rfl⟩) | (go_at_call 12; (with_reducible refine (wk8 _).mono ?_); rintro e w' ⟨rfl, rfl⟩) | (go_at_call 12; (with_reducible refine (wk9 _).mono ?_); rintro e w' ⟨rfl, rfl⟩) | (go_at_call 9; (with_reducible refine (wk10 _ (by first | exact hT | exact hT.drewN _)).mono ?_); rintro e w' ⟨rfl, n10, rfl⟩) | (go_at_call 9; (with_reducible refine (wk11 _ (by first | exact hT | exact hT.drewN _)).mono ?_); rintro e w' ⟨rfl, n11, rfl⟩) | (go_at_call 9; (with_reducible refine (wk12 _ (by first | exact hT | exact hT.drewN _)).mono ?_); rintro e w' ⟨rfl, n12, rfl⟩) | (go_at_call 13; (with_reducible refine (wk13 _).mono ?_); rintro e w' ⟨rfl, rfl⟩) | (go_at_call 13; (with_reducible refine (wk14 _).mono ?_); rintro e w' ⟨rfl, rfl⟩) | (go_at_call 13; (with_reducible refine (wk15 _).mono ?_); rintro e w' ⟨rfl, rfl⟩) | (go_at_call 5; (with_reducible refine (wk16 _).mono ?_); rintro e w' ⟨rfl, rfl⟩) | (go_at_call 5; (with_reducible refine (wk17 _).mono ?_); rintro e w' ⟨rfl, rfl⟩) | (go_at_call 5; (with_reducible refine (wk18 _).mono ?_); rintro e w' ⟨rfl, rfl⟩))
  go_ret
  exact ⟨rfl, _, rfl⟩
end Go.Proofs.YtolljjmpomjbaabDoor
