/-
  Package civil: days and dates.
-/
import Derived.Test.YtljbgkfoljjgbaaDoorCivil
namespace Go.Proofs.YtljbgkfoljjgbaaDoor
set_option linter.unusedVariables false
set_option linter.unusedSimpArgs false
open Go.RowKit

set_option maxHeartbeats 1000000 in
theorem days_ok (y m d : Int) (w : World) (hT : Tab w) (hy1 : -2000000000 ≤ y) (hy2 : y ≤ 2000000000) (h : Cal.Ok y m d) :
    Calls Tryd.prog 18 #[.int .i64 y, .int .i64 m, .int .i64 d] w fun e w' => e = .returned (.tuple #[.int .i64 (Cal.num y m d), .int .i64 0]) ∧ ∃ n, w' = w.drewN n := by
  have hm1 := h.m1
  have hm2 := h.m2
  have hd1 := h.d1
  have hd2 := h.d2
  have hl := Cal.len_bd y m
  have c1 := hT (m.toNat - 1) (by omega)
  have hb := bef_bd hm1 hm2
  rw [bef_tab (m := m) (m.toNat - 1) (by omega) (by omega)] at c1
  have HF := Lib.hid (show Cal.first y = 365 * y + (y - 1) / 4 - (y - 1) / 100 + (y - 1) / 400 + 1 - 719528 from rfl)
  by_cases hm : 2 < m
  · have HM := Lib.hid (show Cal.num y m d = Cal.first y + (Cal.bef m + Cal.lp y) + d - 1 by unfold Cal.num Cal.cum; rw [if_pos hm])
    by_cases hlp : Cal.lpB y = true
    · have H := Lib.hid (Cal.lp_yes hlp)
      have HL := Lib.hid hlp
      clear hlp h
      go_enter Tryd.func18, Tryd.ntmps18
      go_wp2_with (first | (go_at_call 19; refine (len_any _ _ _ hT).mono ?_; rintro e w' ⟨rfl, n, rfl⟩) | (go_at_call 34; refine (floor_any _ _ _ (by omega) (by omega) (by omega) (by omega)).mono ?_; rintro e w' ⟨rfl, rfl⟩) | (go_at_call 32; refine (leap_any _ _).mono ?_; rintro e w' ⟨rfl, rfl⟩; rw [HL.out]))
      go_ret2
      exact ⟨ret_pair (by rw [HM.out, HF.out, H.out]; omega) rfl, ⟨_, rfl⟩⟩
    · have hlp : Cal.lpB y = false := by simpa using hlp
      have H := Lib.hid (Cal.lp_no hlp)
      have HL := Lib.hid hlp
      clear hlp h
      go_enter Tryd.func18, Tryd.ntmps18
      go_wp2_with (first | (go_at_call 19; refine (len_any _ _ _ hT).mono ?_; rintro e w' ⟨rfl, n, rfl⟩) | (go_at_call 34; refine (floor_any _ _ _ (by omega) (by omega) (by omega) (by omega)).mono ?_; rintro e w' ⟨rfl, rfl⟩) | (go_at_call 32; refine (leap_any _ _).mono ?_; rintro e w' ⟨rfl, rfl⟩; rw [HL.out]))
      go_ret2
      exact ⟨ret_pair (by rw [HM.out, HF.out, H.out]; omega) rfl, ⟨_, rfl⟩⟩
  · have HM := Lib.hid (show Cal.num y m d = Cal.first y + Cal.bef m + d - 1 by unfold Cal.num Cal.cum; rw [if_neg hm]; omega)
    have hm' : m ≤ 2 := by omega
    clear h hm
    go_enter Tryd.func18, Tryd.ntmps18
    go_wp2_with (first | (go_at_call 19; refine (len_any _ _ _ hT).mono ?_; rintro e w' ⟨rfl, n, rfl⟩) | (go_at_call 34; refine (floor_any _ _ _ (by omega) (by omega) (by omega) (by omega)).mono ?_; rintro e w' ⟨rfl, rfl⟩) | (go_at_call 32; refine (leap_any _ _).mono ?_; rintro e w' ⟨rfl, rfl⟩))
    go_ret2
    exact ⟨ret_pair (by rw [HM.out, HF.out]; omega) rfl, ⟨_, rfl⟩⟩

set_option maxHeartbeats 1000000 in
theorem days_bad (y m d : Int) (w : World) (hT : Tab w) (h : y < -2000000000 ∨ 2000000000 < y ∨ d < 1 ∨ Cal.len y m < d) :
    Calls Tryd.prog 18 #[.int .i64 y, .int .i64 m, .int .i64 d] w fun e w' => e = .returned (.tuple #[.int .i64 0, .int .i64 3]) ∧ ∃ n, w' = w.drewN n := by
  have hl := Cal.len_bd y m
  by_cases h1 : y < -2000000000
  · go_enter Tryd.func18, Tryd.ntmps18
    go_wp2_with fail
    go_ret2
    exact ⟨rfl, 0, rfl⟩
  have h1' : -2000000000 ≤ y := by omega
  clear h1
  by_cases h2 : 2000000000 < y
  · go_enter Tryd.func18, Tryd.ntmps18
    go_wp2_with fail
    go_ret2
    exact ⟨rfl, 0, rfl⟩
  have h2' : y ≤ 2000000000 := by omega
  clear h2
  by_cases h3 : d < 1
  · go_enter Tryd.func18, Tryd.ntmps18
    go_wp2_with fail
    go_ret2
    exact ⟨rfl, 0, rfl⟩
  have h3' : 1 ≤ d := by omega
  have h4 : Cal.len y m < d := by omega
  clear h3 h
  go_enter Tryd.func18, Tryd.ntmps18
  go_wp2_with (first | (go_at_call 19; refine (len_any _ _ _ hT).mono ?_; rintro e w' ⟨rfl, n, rfl⟩) | (go_at_call 34; refine (floor_any _ _ _ (by omega) (by omega) (by omega) (by omega)).mono ?_; rintro e w' ⟨rfl, rfl⟩) | (go_at_call 32; refine (leap_any _ _).mono ?_; rintro e w' ⟨rfl, rfl⟩))
  go_ret2
  exact ⟨rfl, ⟨_, rfl⟩⟩

theorem tmod_pos (a b : Int) (ha : 0 ≤ a) : a.tmod b = a % b := by rw [Int.tmod_eq_emod_of_nonneg ha]

set_option maxHeartbeats 1000000 in
theorem weekday_any (n : Int) (w : World) (h1 : -9223372036854775808 ≤ n) (h2 : n ≤ 9223372036854775807) :
    Calls Tryd.prog 20 #[.int .i64 n] w fun e w' => e = .returned (.int .i64 ((n + 4) % 7)) ∧ w = w' := by
  have hb : -7 < n.tmod 7 ∧ n.tmod 7 < 7 := by
    have := Int.tmod_lt_of_pos n (show (0:Int) < 7 by decide)
    have := Int.lt_tmod_of_pos n (show (0:Int) < 7 by decide)
    omega
  have H := Lib.hid (show (n.tmod 7 + 7 + 4) % 7 = (n + 4) % 7 by rw [Int.tmod_eq_emod]; split <;> omega)
  go_enter Tryd.func20, Tryd.ntmps20
  go_wp2
  go_ret
  exact ⟨ret_int H.out, rfl⟩
end Go.Proofs.YtljbgkfoljjgbaaDoor
