/-
  The walk of CivilSeconds.
-/
import Derived.Test.YtolljjmpomjbaabDoorCivilW
namespace Go.Proofs.YtolljjmpomjbaabDoor
set_option linter.unusedVariables false
set_option linter.unusedSimpArgs false
open Go.RowKit

set_option maxRecDepth 100000 in
set_option maxHeartbeats 1000000 in
theorem seconds_neg (t : Int) (b1 : -9223372036854775808 ≤ t) (b2 : t ≤ 9223372036854775807) (hr : t.tmod 86400 < 0) (w : World) (hT : Tab w) :
    Calls Tryd.prog 3 #[.int .i64 t] w fun e w' => e = .returned (.bool true) ∧ Grown w w' := by
  have e := fl_neg t 86400 (by decide) hr
  have HQ := Lib.hid (show t.tdiv 86400 - 1 = t / 86400 by omega)
  have e1 : -200000000000000 ≤ t.tdiv 86400 ∧ t.tdiv 86400 ≤ 200000000000000 := by omega
  clear e
  by_cases c1 : t / 86400 < -730485719528
  · have HY := Lib.hid (show Cal.ysec t = -2000000000 by unfold Cal.ysec; rw [if_pos c1])
    have t0 : t < 0 := by omega
    go_enter Tryd.func3, Tryd.ntmps3
    go_wp2_with (first | (go_at_call 5; refine (year_any _ _ b1 b2).mono ?_; rintro e w' ⟨rfl, rfl⟩; rw [HY.out]) | (go_at_call 6; rw [HQ.out]; refine (date_bad _ _ (by omega)).mono ?_; rintro e w' ⟨rfl, rfl⟩) | (go_at_call 7; refine (works_any _ (by repeat (first | exact hT | apply Tab.drewN | apply Tab.drew | apply Tab.alloc))).mono ?_; rintro e w' ⟨rfl, k2, rfl⟩))
    go_ret
    exact ⟨rfl, by repeat (first | exact Grown.refl _ | apply Grown.drew | refine Grown.alloc ?_ _ _)⟩
  by_cases c2 : 730484280837 < t / 86400
  · exfalso
    have := Int.tmod_nonneg 86400 (show 0 ≤ t by omega)
    omega
  · have HY := Lib.hid (show Cal.ysec t = Cal.yr (t / 86400) by unfold Cal.ysec; rw [if_neg c1, if_neg c2])
    have c1' : -730485719528 ≤ t / 86400 := by omega
    have c2' : t / 86400 ≤ 730484280837 := by omega
    clear c1 c2
    go_enter Tryd.func3, Tryd.ntmps3
    go_wp2_with (first | (go_at_call 5; refine (year_any _ _ b1 b2).mono ?_; rintro e w' ⟨rfl, rfl⟩; rw [HY.out]) | (go_at_call 6; rw [HQ.out]; refine (date_in _ _ c1' c2').mono ?_; rintro e w' ⟨rfl, rfl⟩) | (go_at_call 7; refine (works_any _ (by repeat (first | exact hT | apply Tab.drewN | apply Tab.drew | apply Tab.alloc))).mono ?_; rintro e w' ⟨rfl, k2, rfl⟩))
    go_ret
    exact ⟨rfl, by repeat (first | exact Grown.refl _ | apply Grown.drew | refine Grown.alloc ?_ _ _)⟩

set_option maxRecDepth 100000 in
set_option maxHeartbeats 1000000 in
theorem seconds_pos (t : Int) (b1 : -9223372036854775808 ≤ t) (b2 : t ≤ 9223372036854775807) (hr : 0 ≤ t.tmod 86400) (w : World) (hT : Tab w) :
    Calls Tryd.prog 3 #[.int .i64 t] w fun e w' => e = .returned (.bool true) ∧ Grown w w' := by
  have e := fl_zero t 86400 (by decide) (by omega)
  have HQ := Lib.hid e
  have e1 : -200000000000000 ≤ t.tdiv 86400 ∧ t.tdiv 86400 ≤ 200000000000000 := by omega
  clear e
  by_cases c1 : t / 86400 < -730485719528
  · have HY := Lib.hid (show Cal.ysec t = -2000000000 by unfold Cal.ysec; rw [if_pos c1])
    have t0 : t < 0 := by omega
    go_enter Tryd.func3, Tryd.ntmps3
    go_wp2_with (first | (go_at_call 5; refine (year_any _ _ b1 b2).mono ?_; rintro e w' ⟨rfl, rfl⟩; rw [HY.out]) | (go_at_call 6; rw [HQ.out]; refine (date_bad _ _ (by omega)).mono ?_; rintro e w' ⟨rfl, rfl⟩) | (go_at_call 7; refine (works_any _ (by repeat (first | exact hT | apply Tab.drewN | apply Tab.drew | apply Tab.alloc))).mono ?_; rintro e w' ⟨rfl, k2, rfl⟩))
    go_ret
    exact ⟨rfl, by repeat (first | exact Grown.refl _ | apply Grown.drew | refine Grown.alloc ?_ _ _)⟩
  by_cases c2 : 730484280837 < t / 86400
  · have HY := Lib.hid (show Cal.ysec t = 2000000000 by unfold Cal.ysec; rw [if_neg c1, if_pos c2])
    have t0 : 0 ≤ t := by omega
    clear c1
    go_enter Tryd.func3, Tryd.ntmps3
    go_wp2_with (first | (go_at_call 5; refine (year_any _ _ b1 b2).mono ?_; rintro e w' ⟨rfl, rfl⟩; rw [HY.out]) | (go_at_call 6; rw [HQ.out]; refine (date_bad _ _ (by omega)).mono ?_; rintro e w' ⟨rfl, rfl⟩) | (go_at_call 7; refine (works_any _ (by repeat (first | exact hT | apply Tab.drewN | apply Tab.drew | apply Tab.alloc))).mono ?_; rintro e w' ⟨rfl, k2, rfl⟩))
    go_ret
    exact ⟨rfl, by repeat (first | exact Grown.refl _ | apply Grown.drew | refine Grown.alloc ?_ _ _)⟩
  · have HY := Lib.hid (show Cal.ysec t = Cal.yr (t / 86400) by unfold Cal.ysec; rw [if_neg c1, if_neg c2])
    have c1' : -730485719528 ≤ t / 86400 := by omega
    have c2' : t / 86400 ≤ 730484280837 := by omega
    clear c1 c2
    go_enter Tryd.func3, Tryd.ntmps3
    go_wp2_with (first | (go_at_call 5; refine (year_any _ _ b1 b2).mono ?_; rintro e w' ⟨rfl, rfl⟩; rw [HY.out]) | (go_at_call 6; rw [HQ.out]; refine (date_in _ _ c1' c2').mono ?_; rintro e w' ⟨rfl, rfl⟩) | (go_at_call 7; refine (works_any _ (by repeat (first | exact hT | apply Tab.drewN | apply Tab.drew | apply Tab.alloc))).mono ?_; rintro e w' ⟨rfl, k2, rfl⟩))
    go_ret
    exact ⟨rfl, by repeat (first | exact Grown.refl _ | apply Grown.drew | refine Grown.alloc ?_ _ _)⟩

theorem civilSeconds_walk (t : Int) (wt : (Lit.int .i64 t).wf = true) (w : World) (hT : Tab w) :
    Calls Tryd.prog 3 #[.int .i64 t] w fun e w' => e = .returned (.bool true) ∧ Grown w w' := by
  obtain ⟨b1, b2⟩ := bounds_i64 wt
  by_cases hr : t.tmod 86400 < 0
  · exact seconds_neg t b1 b2 hr w hT
  · exact seconds_pos t b1 b2 (by omega) w hT
end Go.Proofs.YtolljjmpomjbaabDoor
