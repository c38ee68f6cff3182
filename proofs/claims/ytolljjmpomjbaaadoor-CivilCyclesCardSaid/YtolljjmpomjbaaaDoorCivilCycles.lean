/-
  The walk of CivilCycles.
-/
import Derived.Test.YtolljjmpomjbaaaDoorCivilW
namespace Go.Proofs.YtolljjmpomjbaaaDoor
set_option linter.unusedVariables false
set_option linter.unusedSimpArgs false
open Go.RowKit

theorem len_cycle (y m : Int) : Cal.len (y + 400) m = Cal.len y m := by unfold Cal.len; rw [Cal.lp_cycle]
theorem num_cycle (y m d : Int) : Cal.num (y + 400) m d = Cal.num y m d + 146097 := by
  have := Cal.first_cycle y 1
  unfold Cal.num Cal.cum
  rw [Cal.lp_cycle, show y + 400 = y + 400 * 1 by omega, this]; omega

set_option maxRecDepth 100000 in
set_option maxHeartbeats 1000000 in
theorem civilCycles_walk (y m d : Int) (_ : (Lit.int .i64 y).wf = true) (wm : (Lit.int .u8 m).wf = true) (wd : (Lit.int .u8 d).wf = true) (w : World) (hT : Tab w) :
    Calls Tryd.prog 7 #[.int .i64 y, .int .u8 m, .int .u8 d] w fun e w' => e = .returned (.bool true) ∧ Grown w w' := by
  have bm := bounds_u8 wm
  have bd := bounds_u8 wd
  have hb := tmod_bd y 1999999600 (by decide)
  clear wm wd
  generalize hY : y.tmod 1999999600 = Y at hb
  obtain ⟨M, hM, M1, M2⟩ : ∃ M : Int, m % 12 = M ∧ 0 ≤ M ∧ M ≤ 11 := ⟨_, rfl, by omega, by omega⟩
  obtain ⟨D, hD, D1, D2⟩ : ∃ D : Int, d % 28 = D ∧ 0 ≤ D ∧ D ≤ 27 := ⟨_, rfl, by omega, by omega⟩
  have ok : ∀ y' : Int, Cal.Ok y' (1 + M) (1 + D) := fun y' => ⟨by omega, by omega, by omega, by have := Cal.len_in (y := y') (m := 1 + M) (by omega) (by omega); omega⟩
  have ok1 : ∀ y' : Int, Cal.Ok y' 1 1 := fun y' => ⟨by omega, by omega, by omega, by have := Cal.len_in (y := y') (m := 1) (by omega) (by omega); omega⟩
  have o1 := Lib.hid (ok Y)
  have o2 := Lib.hid (ok (Y + 400))
  have o3 := Lib.hid (ok1 Y)
  have o4 := Lib.hid (ok1 (Y + 1))
  have b1 := Cal.num_bd (ok Y) (by omega) (by omega)
  have b2 := Cal.num_bd (ok (Y + 400)) (by omega) (by omega)
  have b3 := Cal.num_bd (ok1 Y) (by omega) (by omega)
  have b4 := Cal.num_bd (ok1 (Y + 1)) (by omega) (by omega)
  have q1 := beq_t (num_cycle Y (1 + M) (1 + D))
  have q2 := beq_t (show (Cal.num Y (1 + M) (1 + D) + 4) % 7 = (Cal.num (Y + 400) (1 + M) (1 + D) + 4) % 7 by rw [num_cycle]; omega)
  have q4 := beq_t (len_cycle Y (1 + M)).symm
  have lb1 := Cal.len_bd Y (1 + M)
  have lb2 := Cal.len_bd (Y + 400) (1 + M)
  clear ok ok1
  by_cases hl : Cal.lpB Y = true
  · skip
    have l2 : Cal.lpB (Y + 400) = true := by rw [Cal.lpB_cycle]; exact hl
    have hc : Cal.cum Y 13 = 366 := by rw [Cal.cum_13, Cal.lp_yes hl]; rfl
    have q3 := beq_t (show Cal.num (Y + 1) 1 1 - Cal.num Y 1 1 = 366 by
      unfold Cal.num; rw [Cal.cum_1, Cal.cum_1, Cal.first_succ, Cal.lp_yes hl]; omega)
    have HC := Lib.hid hc
    clear hc
    go_enter Tryd.func7, Tryd.ntmps7
    go_wp2_with (first | (go_at_call 9; (with_reducible refine (days_ok Y (1 + M) (1 + D) _ (by first | exact hT | exact hT.drewN _) (by omega) (by omega) o1.out).mono ?_); rintro e w' ⟨rfl, k4, rfl⟩) | (go_at_call 9; (with_reducible refine (days_ok (Y + 400) (1 + M) (1 + D) _ (by first | exact hT | exact hT.drewN _) (by omega) (by omega) o2.out).mono ?_); rintro e w' ⟨rfl, k4, rfl⟩) | (go_at_call 9; (with_reducible refine (days_ok Y 1 1 _ (by first | exact hT | exact hT.drewN _) (by omega) (by omega) o3.out).mono ?_); rintro e w' ⟨rfl, k4, rfl⟩) | (go_at_call 9; (with_reducible refine (days_ok (Y + 1) 1 1 _ (by first | exact hT | exact hT.drewN _) (by omega) (by omega) o4.out).mono ?_); rintro e w' ⟨rfl, k4, rfl⟩) | (go_at_call 11; refine (leap_any _ _).mono ?_; rintro e w' ⟨rfl, rfl⟩) | (go_at_call 13; refine (len_any _ _ _ (by first | exact hT | exact hT.drewN _)).mono ?_; rintro e w' ⟨rfl, k1, rfl⟩) | (go_at_call 18; refine (weekday_any _ _ (by omega) (by omega)).mono ?_; rintro e w' ⟨rfl, rfl⟩) | (go_at_call 15; refine (works_any _ (by first | exact hT | exact hT.drewN _)).mono ?_; rintro e w' ⟨rfl, k2, rfl⟩))
    obtain ⟨n0, hn0⟩ : ∃ n0 : Nat, n0 = n0 := ⟨0, rfl⟩
    go_loopw [19, 20] (fun s i wr => ∃ k : Int, 1 ≤ k ∧ k ≤ 13 ∧ i = .int .i64 k ∧ s = .int .i64 (Cal.cum Y k) ∧ ∃ n, wr = w.drewN n) (fun _ i _ => 13 - (intOf i).toNat)
    case atStart => exact ⟨1, by omega, by omega, rfl, by simp [Cal.cum_1], ⟨_, rfl⟩⟩
    case round =>
      obtain ⟨k, hk1, hk2, rfl, rfl, nr, rfl⟩ := hrel
      have cb := Cal.cum_bd (y := Y) (m := k) (by omega) (by omega)
      have lb := Cal.len_bd Y k
      by_cases hk : k ≤ 12
      · have CS := Lib.hid (Cal.cum_succ (y := Y) (m := k) (by omega) (by omega))
        go_wp2_with (first | (go_at_call 13; refine (len_any _ _ _ (by first | exact hT | exact hT.drewN _)).mono ?_; rintro e w' ⟨rfl, k1, rfl⟩))
        go_roundw
        case rel => exact ⟨k + 1, by omega, by omega, rfl, by rw [CS.out], ⟨_, rfl⟩⟩
        case measure => simp [intOf]; omega
      · obtain rfl : k = 13 := by omega
        have hq : (Cal.cum Y 13 == 366) = true := beq_t HC.out
        go_wp2_with (first | (go_at_call 11; refine (leap_any _ _).mono ?_; rintro e w' ⟨rfl, rfl⟩) | (go_at_call 13; refine (len_any _ _ _ (by first | exact hT | exact hT.drewN _)).mono ?_; rintro e w' ⟨rfl, k1, rfl⟩) | (go_at_call 18; refine (weekday_any _ _ (by omega) (by omega)).mono ?_; rintro e w' ⟨rfl, rfl⟩) | (go_at_call 15; refine (works_any _ (by first | exact hT | exact hT.drewN _)).mono ?_; rintro e w' ⟨rfl, k2, rfl⟩))
        go_ret
        exact ⟨rfl, Grown.refl _⟩
  · have hl : Cal.lpB Y = false := by simpa using hl
    have l2 : Cal.lpB (Y + 400) = false := by rw [Cal.lpB_cycle]; exact hl
    have hc : Cal.cum Y 13 = 365 := by rw [Cal.cum_13, Cal.lp_no hl]; rfl
    have q3 := beq_t (show Cal.num (Y + 1) 1 1 - Cal.num Y 1 1 = 365 by
      unfold Cal.num; rw [Cal.cum_1, Cal.cum_1, Cal.first_succ, Cal.lp_no hl]; omega)
    have HC := Lib.hid hc
    clear hc
    go_enter Tryd.func7, Tryd.ntmps7
    go_wp2_with (first | (go_at_call 9; (with_reducible refine (days_ok Y (1 + M) (1 + D) _ (by first | exact hT | exact hT.drewN _) (by omega) (by omega) o1.out).mono ?_); rintro e w' ⟨rfl, k4, rfl⟩) | (go_at_call 9; (with_reducible refine (days_ok (Y + 400) (1 + M) (1 + D) _ (by first | exact hT | exact hT.drewN _) (by omega) (by omega) o2.out).mono ?_); rintro e w' ⟨rfl, k4, rfl⟩) | (go_at_call 9; (with_reducible refine (days_ok Y 1 1 _ (by first | exact hT | exact hT.drewN _) (by omega) (by omega) o3.out).mono ?_); rintro e w' ⟨rfl, k4, rfl⟩) | (go_at_call 9; (with_reducible refine (days_ok (Y + 1) 1 1 _ (by first | exact hT | exact hT.drewN _) (by omega) (by omega) o4.out).mono ?_); rintro e w' ⟨rfl, k4, rfl⟩) | (go_at_call 11; refine (leap_any _ _).mono ?_; rintro e w' ⟨rfl, rfl⟩) | (go_at_call 13; refine (len_any _ _ _ (by first | exact hT | exact hT.drewN _)).mono ?_; rintro e w' ⟨rfl, k1, rfl⟩) | (go_at_call 18; refine (weekday_any _ _ (by omega) (by omega)).mono ?_; rintro e w' ⟨rfl, rfl⟩) | (go_at_call 15; refine (works_any _ (by first | exact hT | exact hT.drewN _)).mono ?_; rintro e w' ⟨rfl, k2, rfl⟩))
    obtain ⟨n0, hn0⟩ : ∃ n0 : Nat, n0 = n0 := ⟨0, rfl⟩
    go_loopw [19, 20] (fun s i wr => ∃ k : Int, 1 ≤ k ∧ k ≤ 13 ∧ i = .int .i64 k ∧ s = .int .i64 (Cal.cum Y k) ∧ ∃ n, wr = w.drewN n) (fun _ i _ => 13 - (intOf i).toNat)
    case atStart => exact ⟨1, by omega, by omega, rfl, by simp [Cal.cum_1], ⟨_, rfl⟩⟩
    case round =>
      obtain ⟨k, hk1, hk2, rfl, rfl, nr, rfl⟩ := hrel
      have cb := Cal.cum_bd (y := Y) (m := k) (by omega) (by omega)
      have lb := Cal.len_bd Y k
      by_cases hk : k ≤ 12
      · have CS := Lib.hid (Cal.cum_succ (y := Y) (m := k) (by omega) (by omega))
        go_wp2_with (first | (go_at_call 13; refine (len_any _ _ _ (by first | exact hT | exact hT.drewN _)).mono ?_; rintro e w' ⟨rfl, k1, rfl⟩))
        go_roundw
        case rel => exact ⟨k + 1, by omega, by omega, rfl, by rw [CS.out], ⟨_, rfl⟩⟩
        case measure => simp [intOf]; omega
      · obtain rfl : k = 13 := by omega
        have hq : (Cal.cum Y 13 == 365) = true := beq_t HC.out
        go_wp2_with (first | (go_at_call 11; refine (leap_any _ _).mono ?_; rintro e w' ⟨rfl, rfl⟩) | (go_at_call 13; refine (len_any _ _ _ (by first | exact hT | exact hT.drewN _)).mono ?_; rintro e w' ⟨rfl, k1, rfl⟩) | (go_at_call 18; refine (weekday_any _ _ (by omega) (by omega)).mono ?_; rintro e w' ⟨rfl, rfl⟩) | (go_at_call 15; refine (works_any _ (by first | exact hT | exact hT.drewN _)).mono ?_; rintro e w' ⟨rfl, k2, rfl⟩))
        go_ret
        exact ⟨rfl, Grown.refl _⟩
end Go.Proofs.YtolljjmpomjbaaaDoor
