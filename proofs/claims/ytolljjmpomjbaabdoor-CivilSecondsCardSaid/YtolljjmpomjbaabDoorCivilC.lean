/-
  Package civil: the date of a day, the year of a second.
-/
import Derived.Test.YtolljjmpomjbaabDoorCivilB
namespace Go.Proofs.YtolljjmpomjbaabDoor
set_option linter.unusedVariables false
set_option linter.unusedSimpArgs false
open Go.RowKit

set_option maxHeartbeats 1000000 in
theorem date_bad (n : Int) (w : World) (h : n < -730485719528 ∨ 730484280837 < n) :
    Calls Tryd.prog 6 #[.int .i64 n] w fun e w' => e = .returned (.tuple #[.int .i64 0, .int .i64 0, .int .i64 0, .int .i64 3]) ∧ w = w' := by
  by_cases h1 : n < -730485719528
  · go_enter Tryd.func6, Tryd.ntmps6
    go_wp2_with fail
    exact bodyPost_ret (v := .tuple #[.int .i64 0, .int .i64 0, .int .i64 0, .int .i64 3]) (by simp [results, Tryd.results6, go_sem]) rfl ⟨rfl, rfl⟩
  · have h1' : -730485719528 ≤ n := by omega
    have h2 : 730484280837 < n := by omega
    clear h h1
    go_enter Tryd.func6, Tryd.ntmps6
    go_wp2_with fail
    exact bodyPost_ret (v := .tuple #[.int .i64 0, .int .i64 0, .int .i64 0, .int .i64 3]) (by simp [results, Tryd.results6, go_sem]) rfl ⟨rfl, rfl⟩

set_option maxHeartbeats 1000000 in
theorem date_in (n : Int) (w : World) (h1 : -730485719528 ≤ n) (h2 : n ≤ 730484280837) :
    Calls Tryd.prog 6 #[.int .i64 n] w fun e w' => e = .returned (.tuple #[.int .i64 (Cal.yr n), .int .i64 (Cal.mo n), .int .i64 (Cal.dy n), .int .i64 0]) ∧ w = w' := by
  have hiy := Cal.iy_bd n
  by_cases hm : Cal.fm (Cal.iy n) ≤ 2
  · go_enter Tryd.func6, Tryd.ntmps6
    go_wp2_with (first | (go_at_call 10; refine (floor_any _ _ _ (by omega) (by omega) (by omega) (by omega)).mono ?_; rintro e w' ⟨rfl, rfl⟩) | (go_at_call 11; refine (fromMarch_any (Cal.iy n) _ hiy.1 hiy.2).mono ?_; rintro e w' ⟨rfl, rfl⟩))
    exact bodyPost_ret (v := .tuple #[.int .i64 (Cal.yr n), .int .i64 (Cal.mo n), .int .i64 (Cal.dy n), .int .i64 0]) (by simp [results, Tryd.results6, go_sem, Cal.yr, Cal.mo, Cal.dy, Cal.yoc, Cal.ic, Cal.cy, hm]) rfl ⟨rfl, rfl⟩
  · have hm' : 2 < Cal.fm (Cal.iy n) := by omega
    go_enter Tryd.func6, Tryd.ntmps6
    go_wp2_with (first | (go_at_call 10; refine (floor_any _ _ _ (by omega) (by omega) (by omega) (by omega)).mono ?_; rintro e w' ⟨rfl, rfl⟩) | (go_at_call 11; refine (fromMarch_any (Cal.iy n) _ hiy.1 hiy.2).mono ?_; rintro e w' ⟨rfl, rfl⟩))
    exact bodyPost_ret (v := .tuple #[.int .i64 (Cal.yr n), .int .i64 (Cal.mo n), .int .i64 (Cal.dy n), .int .i64 0]) (by simp [results, Tryd.results6, go_sem, Cal.yr, Cal.mo, Cal.dy, Cal.yoc, Cal.ic, Cal.cy, show ¬ Cal.fm (Cal.iy n) ≤ 2 by omega]) rfl ⟨rfl, rfl⟩

set_option maxHeartbeats 1000000 in
theorem year_any (t : Int) (w : World) (h1 : -9223372036854775808 ≤ t) (h2 : t ≤ 9223372036854775807) :
    Calls Tryd.prog 5 #[.int .i64 t] w fun e w' => e = .returned (.int .i64 (Cal.ysec t)) ∧ w = w' := by
  by_cases c1 : t / 86400 < -730485719528
  · have H := Lib.hid (show Cal.ysec t = Cal.yr (-730485719528) by rw [Cal.yr_lo]; unfold Cal.ysec; rw [if_pos c1])
    go_enter Tryd.func5, Tryd.ntmps5
    go_wp2_with (first | (go_at_call 10; refine (floor_any _ _ _ (by omega) (by omega) (by omega) (by omega)).mono ?_; rintro e w' ⟨rfl, rfl⟩) | (go_at_call 6; refine (date_in _ _ (by omega) (by omega)).mono ?_; rintro e w' ⟨rfl, rfl⟩))
    go_ret
    exact ⟨ret_int H.out.symm, rfl⟩
  by_cases c2 : 730484280837 < t / 86400
  · have H := Lib.hid (show Cal.ysec t = Cal.yr 730484280837 by rw [Cal.yr_hi]; unfold Cal.ysec; rw [if_neg c1, if_pos c2])
    clear c1
    go_enter Tryd.func5, Tryd.ntmps5
    go_wp2_with (first | (go_at_call 10; refine (floor_any _ _ _ (by omega) (by omega) (by omega) (by omega)).mono ?_; rintro e w' ⟨rfl, rfl⟩) | (go_at_call 6; refine (date_in _ _ (by omega) (by omega)).mono ?_; rintro e w' ⟨rfl, rfl⟩))
    go_ret
    exact ⟨ret_int H.out.symm, rfl⟩
  have H := Lib.hid (show Cal.ysec t = Cal.yr (t / 86400) by unfold Cal.ysec; rw [if_neg c1, if_neg c2])
  have c1' : -730485719528 ≤ t / 86400 := by omega
  have c2' : t / 86400 ≤ 730484280837 := by omega
  clear c1 c2
  go_enter Tryd.func5, Tryd.ntmps5
  go_wp2_with (first | (go_at_call 10; refine (floor_any _ _ _ (by omega) (by omega) (by omega) (by omega)).mono ?_; rintro e w' ⟨rfl, rfl⟩) | (go_at_call 6; refine (date_in _ _ (by omega) (by omega)).mono ?_; rintro e w' ⟨rfl, rfl⟩))
  all_goals first
    | (go_ret; exact ⟨ret_int H.out.symm, rfl⟩)
    | (exfalso; omega)
theorem days_date (N : Int) (w : World) (h1 : -730485719528 ≤ N) (h2 : N ≤ 730484280837) (hT : Tab w) :
    Calls Tryd.prog 8 #[.int .i64 (Cal.yr N), .int .i64 (Cal.mo N), .int .i64 (Cal.dy N)] w fun e w' => e = .returned (.tuple #[.int .i64 N, .int .i64 0]) ∧ ∃ n, w' = w.drewN n := by
  have a := Cal.date_ok N
  have b := Cal.yr_bd h1 h2
  have h := days_ok (Cal.yr N) (Cal.mo N) (Cal.dy N) w hT b.1 b.2 a.1
  rw [a.2] at h
  exact h
theorem date_days (Y M D : Int) (w : World) (h1 : -2000000000 ≤ Y) (h2 : Y ≤ 2000000000) (h : Cal.Ok Y M D) :
    Calls Tryd.prog 6 #[.int .i64 (Cal.num Y M D)] w fun e w' => e = .returned (.tuple #[.int .i64 Y, .int .i64 M, .int .i64 D, .int .i64 0]) ∧ w = w' := by
  have b := Cal.num_bd h h1 h2
  have c := date_in (Cal.num Y M D) w b.1 b.2
  have d := Cal.date_num h
  rw [d.1, d.2.1, d.2.2] at c
  exact c

end Go.Proofs.YtolljjmpomjbaabDoor
