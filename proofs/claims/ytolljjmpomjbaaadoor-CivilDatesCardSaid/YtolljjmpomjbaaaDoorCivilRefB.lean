/-
  The document's own answers on civil dates: the year and the date of a day.
-/
import Derived.Test.YtolljjmpomjbaaaDoorCivilRef
namespace Go.Proofs.YtolljjmpomjbaaaDoor
set_option linter.unusedVariables false
set_option linter.unusedSimpArgs false
open Go.RowKit

/-- How many days of its year are in front of a day. -/
def rest (n : Int) : Int := n - Cal.first (Cal.yr n)
theorem yr_first (n : Int) : Cal.first (Cal.yr n) ≤ n ∧ n < Cal.first (Cal.yr n + 1) := by
  have h := Cal.date_ok n
  have hy := h.1.year
  rw [h.2] at hy
  exact hy
theorem yr_near (n : Int) : (n + 719528) / 365 - 1 ≤ Cal.yr n ∨ 0 ≤ Cal.yr n := by
  by_cases h : 0 ≤ Cal.yr n
  · exact Or.inr h
  · have a := yr_first n
    have b := Cal.first_mono (show Cal.yr n + 1 ≤ 0 by omega)
    have c : Cal.first 0 = -719528 := by unfold Cal.first; omega
    left; omega
theorem yr_wide {n : Int} (h1 : -9223372036854775808 ≤ n) (h2 : n ≤ 9223372036854775807) : -30000000000000000 ≤ Cal.yr n ∧ Cal.yr n ≤ 30000000000000000 := by
  have a := yr_first n
  have b := yr_near n
  have c : Cal.first 0 = -719528 := by unfold Cal.first; omega
  constructor
  · omega
  · by_cases h : 0 ≤ Cal.yr n
    · have := Cal.first_mono h; omega
    · omega
theorem yr_cycle (n : Int) : n / 146097 * 400 ≤ Cal.yr n := by
  have a := yr_first n
  by_cases h : n / 146097 * 400 ≤ Cal.yr n
  · exact h
  · have := Cal.first_mono (show Cal.yr n + 1 ≤ n / 146097 * 400 by omega)
    rw [Cal.first_400] at this
    omega
theorem wrap_back {n : Int} (h1 : -9223372036854775808 ≤ n) (h2 : n ≤ 9223372036854775807) : wrap64 (n - wrap64 (n / 146097 * 146097)) = n - n / 146097 * 146097 := by
  unfold wrap64; omega

set_option maxHeartbeats 1000000 in
theorem ryear_any (n : Int) (w : World) (h1 : -9223372036854775808 ≤ n) (h2 : n ≤ 9223372036854775807) :
    Calls Tryd.prog 26 #[.int .i64 n] w fun e w' => e = .returned (.tuple #[.int .i64 (Cal.yr n), .int .i64 (n - Cal.first (Cal.yr n))]) ∧ w = w' := by
  have hy := yr_first n
  have hw := yr_wide h1 h2
  have hc := yr_cycle n
  have hwr := wrap_back h1 h2
  have F4 := Lib.hid (Cal.first_400 (n / 146097))
  go_enter Tryd.func26, Tryd.ntmps26
  go_wp2_with (go_at_call 27; refine (rfloor_any _ _ _ (by omega) (by omega) (by omega) (by omega)).mono ?_; rintro e w' ⟨rfl, rfl⟩)
  clear hwr
  go_loop [5, 6] (fun r y => ∃ k : Int, n / 146097 * 400 ≤ k ∧ k ≤ Cal.yr n ∧ y = .int .i64 k ∧ r = .int .i64 (n - Cal.first k)) (fun _ y => (Cal.yr n - intOf y).toNat)
  case atStart => exact ⟨_, Int.le_refl _, hc, rfl, by rw [F4.out]; go_num⟩
  case round =>
    obtain ⟨k, k1, k2, rfl, rfl⟩ := hrel
    have f1 := Cal.first_mono k1
    rw [F4.out] at f1
    have f2 := Cal.first_mono k2
    have fs := Cal.first_succ k
    have lb := Cal.lp_01 k
    have r1 : 0 ≤ n - Cal.first k := by omega
    have r2 : n - Cal.first k ≤ 900000 := by omega
    by_cases hk : k < Cal.yr n
    · have f3 := Cal.first_mono (show k + 1 ≤ Cal.yr n by omega)
      have t1 : 365 + Cal.lp k ≤ n - Cal.first k := by omega
      have lb' : 0 ≤ Cal.lp k ∧ Cal.lp k ≤ 1 := by omega
      have FS := Lib.hid fs
      clear fs lb f1 f2 f3
      go_wp2_with (go_at_call 28; refine (rsize_any _ _).mono ?_; rintro e w' ⟨rfl, rfl⟩)
      go_round
      case rel => exact ⟨k + 1, by omega, by omega, rfl, by rw [FS.out]; go_num⟩
      case measure => simp [intOf]; omega
    · obtain rfl : k = Cal.yr n := by omega
      have t1 : n - Cal.first (Cal.yr n) < 365 + Cal.lp (Cal.yr n) := by omega
      have lb' : 0 ≤ Cal.lp (Cal.yr n) ∧ Cal.lp (Cal.yr n) ≤ 1 := by omega
      clear fs lb f1 f2
      go_wp2_with (go_at_call 28; refine (rsize_any _ _).mono ?_; rintro e w' ⟨rfl, rfl⟩)
      go_ret2
      exact ⟨rfl, rfl⟩

theorem yr_out {n : Int} (h : n < -730485719528 ∨ 730484280837 < n) : Cal.yr n < -2000000000 ∨ 2000000000 < Cal.yr n := by
  have a := Cal.date_ok n
  by_cases c : -2000000000 ≤ Cal.yr n ∧ Cal.yr n ≤ 2000000000
  · have b := Cal.num_bd a.1 c.1 c.2
    rw [a.2] at b; omega
  · omega

set_option maxHeartbeats 1000000 in
theorem rdate_bad (n : Int) (w : World) (h1 : -9223372036854775808 ≤ n) (h2 : n ≤ 9223372036854775807) (h : n < -730485719528 ∨ 730484280837 < n) :
    Calls Tryd.prog 17 #[.int .i64 n] w fun e w' => e = .returned (.tuple #[.int .i64 0, .int .i64 0, .int .i64 0, .int .i64 3]) ∧ w = w' := by
  have ho := Lib.hid (yr_out h)
  clear h
  go_enter Tryd.func17, Tryd.ntmps17
  go_wp2_with (first | (go_at_call 26; refine (ryear_any _ _ h1 h2).mono ?_; rintro e w' ⟨rfl, rfl⟩) | (go_at_call 23; refine (rin_no _ _ ho.out).mono ?_; rintro e w' ⟨rfl, rfl⟩))
  exact bodyPost_ret (v := .tuple #[.int .i64 0, .int .i64 0, .int .i64 0, .int .i64 3]) (by simp [results, Tryd.results17, go_sem]) rfl ⟨rfl, rfl⟩

set_option maxHeartbeats 1000000 in
theorem rdate_in (n : Int) (w : World) (h1 : -730485719528 ≤ n) (h2 : n ≤ 730484280837) :
    Calls Tryd.prog 17 #[.int .i64 n] w fun e w' => e = .returned (.tuple #[.int .i64 (Cal.yr n), .int .i64 (Cal.mo n), .int .i64 (Cal.dy n), .int .i64 0]) ∧ w = w' := by
  have a := Cal.date_ok n
  have yb := Cal.yr_bd h1 h2
  have m1 := a.1.m1
  have m2 := a.1.m2
  have d1 := a.1.d1
  have d2 := a.1.d2
  have r : n - Cal.first (Cal.yr n) = Cal.cum (Cal.yr n) (Cal.mo n) + Cal.dy n - 1 := by have := a.2; unfold Cal.num at this; omega
  have R := Lib.hid r
  clear a r
  go_enter Tryd.func17, Tryd.ntmps17
  go_wp2_with (first | (go_at_call 26; refine (ryear_any _ _ (by omega) (by omega)).mono ?_; rintro e w' ⟨rfl, rfl⟩; rw [R.out]) | (go_at_call 23; refine (rin_yes _ _ yb.1 yb.2).mono ?_; rintro e w' ⟨rfl, rfl⟩))
  go_loop [7, 8] (fun s i => ∃ k : Int, 1 ≤ k ∧ k ≤ Cal.mo n ∧ i = .int .i64 k ∧ s = .int .i64 (Cal.cum (Cal.yr n) (Cal.mo n) + Cal.dy n - 1 - Cal.cum (Cal.yr n) k)) (fun _ i => (Cal.mo n - intOf i).toNat)
  case atStart => exact ⟨1, by omega, m1, rfl, by rw [Cal.cum_1]; go_num⟩
  case round =>
    obtain ⟨k, k1, k2, rfl, rfl⟩ := hrel
    have cb := Cal.cum_bd (y := Cal.yr n) (m := k) (by omega) (by omega)
    have cb2 := Cal.cum_bd (y := Cal.yr n) (m := Cal.mo n) (by omega) (by omega)
    have lb := Cal.len_bd (Cal.yr n) k
    by_cases hk : k < Cal.mo n
    · have cm := Cal.cum_mono (y := Cal.yr n) (m := k) (k := Cal.mo n) k1 hk (by omega)
      have t1 : Cal.len (Cal.yr n) k ≤ Cal.cum (Cal.yr n) (Cal.mo n) + Cal.dy n - 1 - Cal.cum (Cal.yr n) k := by omega
      have lb2 := Cal.len_bd (Cal.yr n) (Cal.mo n)
      have CS := Lib.hid (Cal.cum_succ (y := Cal.yr n) (m := k) (by omega) (by omega))
      clear cm
      go_wp2_with (go_at_call 14; refine (rlen_any _ _ _).mono ?_; rintro e w' ⟨rfl, rfl⟩)
      go_round
      case rel => exact ⟨k + 1, by omega, by omega, rfl, by rw [CS.out]; go_num⟩
      case measure => simp [intOf]; omega
    · obtain rfl : k = Cal.mo n := by omega
      have E := Lib.hid (show Cal.cum (Cal.yr n) (Cal.mo n) + Cal.dy n - 1 - Cal.cum (Cal.yr n) (Cal.mo n) + 1 = Cal.dy n by omega)
      have t1 : Cal.cum (Cal.yr n) (Cal.mo n) + Cal.dy n - 1 - Cal.cum (Cal.yr n) (Cal.mo n) < Cal.len (Cal.yr n) (Cal.mo n) := by omega
      go_wp2_with (go_at_call 14; refine (rlen_any _ _ _).mono ?_; rintro e w' ⟨rfl, rfl⟩)
      exact bodyPost_ret (v := .tuple #[.int .i64 (Cal.yr n), .int .i64 (Cal.mo n), .int .i64 (Cal.dy n), .int .i64 0]) (by simp [results, Tryd.results17, go_sem, E.out]) rfl ⟨rfl, rfl⟩

set_option maxHeartbeats 1000000 in
theorem rweekday_any (n : Int) (w : World) :
    Calls Tryd.prog 19 #[.int .i64 n] w fun e w' => e = .returned (.int .i64 ((n + 4) % 7)) ∧ w = w' := by
  have hb := tmod_bd n 7 (by decide)
  have H := Lib.hid (show (n.tmod 7 + 11) % 7 = (n + 4) % 7 by rw [Int.tmod_eq_emod]; split <;> omega)
  go_enter Tryd.func19, Tryd.ntmps19
  go_wp2
  go_ret
  exact ⟨ret_int H.out, rfl⟩

theorem ysec_out (t : Int) : Cal.ysec t = if Cal.yr (t / 86400) < -2000000000 then -2000000000 else if 2000000000 < Cal.yr (t / 86400) then 2000000000 else Cal.yr (t / 86400) := by
  unfold Cal.ysec
  have fy := yr_first (t / 86400)
  have a : Cal.first (-2000000000) = -730485719528 := by unfold Cal.first; omega
  have b : Cal.first 2000000001 = 730484280838 := by unfold Cal.first; omega
  by_cases c1 : t / 86400 < -730485719528
  · rw [if_pos c1]
    have : Cal.yr (t / 86400) < -2000000000 := by
      by_cases h : Cal.yr (t / 86400) < -2000000000
      · exact h
      · have := Cal.first_mono (show -2000000000 ≤ Cal.yr (t / 86400) by omega); omega
    rw [if_pos this]
  · rw [if_neg c1]
    by_cases c2 : 730484280837 < t / 86400
    · rw [if_pos c2]
      have : 2000000000 < Cal.yr (t / 86400) := by
        by_cases h : 2000000000 < Cal.yr (t / 86400)
        · exact h
        · have := Cal.first_mono (show Cal.yr (t / 86400) + 1 ≤ 2000000001 by omega); omega
      rw [if_neg (by omega), if_pos this]
    · rw [if_neg c2]
      have := Cal.yr_bd (n := t / 86400) (by omega) (by omega)
      rw [if_neg (by omega), if_neg (by omega)]

set_option maxHeartbeats 1000000 in
theorem ryeart_any (t : Int) (w : World) (h1 : -9223372036854775808 ≤ t) (h2 : t ≤ 9223372036854775807) :
    Calls Tryd.prog 21 #[.int .i64 t] w fun e w' => e = .returned (.int .i64 (Cal.ysec t)) ∧ w = w' := by
  have H := Lib.hid (ysec_out t)
  have hw := yr_wide (n := t / 86400) (by omega) (by omega)
  go_enter Tryd.func21, Tryd.ntmps21
  go_wp2_with (first | (go_at_call 27; refine (rfloor_any _ _ _ (by omega) (by omega) (by omega) (by omega)).mono ?_; rintro e w' ⟨rfl, rfl⟩) | (go_at_call 26; refine (ryear_any _ _ (by omega) (by omega)).mono ?_; rintro e w' ⟨rfl, rfl⟩))
  all_goals
    go_ret
    exact ⟨ret_int (by rw [H.out]; split <;> (try split) <;> omega), rfl⟩
end Go.Proofs.YtolljjmpomjbaaaDoor
