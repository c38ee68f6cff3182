/-
  The document's own answers on civil dates: what each function computes.
-/
import Derived.Test.YtljbgkfoljjgbaaDoorCivilB
namespace Go.Proofs.YtljbgkfoljjgbaaDoor
set_option linter.unusedVariables false
set_option linter.unusedSimpArgs false
open Go.RowKit

set_option maxHeartbeats 400000 in
theorem rfloor_any (a b : Int) (w : World) (ha : -9223372036854775808 ≤ a) (ha' : a ≤ 9223372036854775807) (hb : 1 ≤ b) (hb' : b ≤ 9223372036854775807) :
    Calls Tryd.prog 45 #[.int .i64 a, .int .i64 b] w fun e w' => e = .returned (.int .i64 (a / b)) ∧ w = w' := by
  have hbd := ediv_bd a b hb ha ha'
  by_cases hr : a.tmod b < 0
  · have e := fl_neg a b hb hr
    have H := Lib.hid (show a.tdiv b - 1 = a / b by omega)
    have e1 : -9223372036854775808 ≤ a.tdiv b - 1 := by omega
    have e2 : a.tdiv b - 1 ≤ 9223372036854775807 := by omega
    clear e hbd
    go_enter Tryd.func45, Tryd.ntmps45
    go_wp2
    go_ret
    exact ⟨ret_int H.out, rfl⟩
  · have H := Lib.hid (fl_zero a b hb hr)
    clear hbd
    go_enter Tryd.func45, Tryd.ntmps45
    go_wp2
    go_ret
    exact ⟨ret_int H.out, rfl⟩

set_option maxHeartbeats 400000 in
theorem rleap_any (y : Int) (w : World) :
    Calls Tryd.prog 36 #[.int .i64 y] w fun e w' => e = .returned (.bool (Cal.lpB y)) ∧ w = w' := by
  by_cases h4 : y % 4 = 0
  · by_cases h100 : y % 100 = 0
    · by_cases h400 : y % 400 = 0
      · have H := Lib.hid (show Cal.lpB y = true by rw [Cal.lpB_iff]; omega)
        have t4 : (y.tmod 4 == 0) = true := by rw [tmod_zero]; simpa using h4
        have t100 : (y.tmod 100 != 0) = false := by rw [bne, tmod_zero]; simpa using h100
        have t400 : (y.tmod 400 == 0) = true := by rw [tmod_zero]; simpa using h400
        clear h4 h100 h400
        go_enter Tryd.func36, Tryd.ntmps36
        go_wp2
        go_ret
        exact ⟨ret_bool (by rw [H.out]), rfl⟩
      · have H := Lib.hid (show Cal.lpB y = false by rw [Bool.eq_false_iff, Ne, Cal.lpB_iff]; omega)
        have t4 : (y.tmod 4 == 0) = true := by rw [tmod_zero]; simpa using h4
        have t100 : (y.tmod 100 != 0) = false := by rw [bne, tmod_zero]; simpa using h100
        have t400 : (y.tmod 400 == 0) = false := by rw [tmod_zero]; simpa using h400
        clear h4 h100 h400
        go_enter Tryd.func36, Tryd.ntmps36
        go_wp2
        go_ret
        exact ⟨ret_bool (by rw [H.out]), rfl⟩
    · have H := Lib.hid (show Cal.lpB y = true by rw [Cal.lpB_iff]; omega)
      have t4 : (y.tmod 4 == 0) = true := by rw [tmod_zero]; simpa using h4
      have t100 : (y.tmod 100 != 0) = true := by rw [bne, tmod_zero]; simpa using h100
      clear h4 h100
      go_enter Tryd.func36, Tryd.ntmps36
      go_wp2
      go_ret
      exact ⟨ret_bool (by rw [H.out]), rfl⟩
  · have H := Lib.hid (show Cal.lpB y = false by rw [Bool.eq_false_iff, Ne, Cal.lpB_iff]; omega)
    have t4 : (y.tmod 4 == 0) = false := by rw [tmod_zero]; simpa using h4
    have t400 : (y.tmod 400 == 0) = false := by rw [tmod_zero]; simp; omega
    clear h4
    go_enter Tryd.func36, Tryd.ntmps36
    go_wp2
    go_ret
    exact ⟨ret_bool (by rw [H.out]), rfl⟩

set_option maxHeartbeats 1000000 in
theorem rlen_any (y m : Int) (w : World) :
    Calls Tryd.prog 28 #[.int .i64 y, .int .i64 m] w fun e w' => e = .returned (.int .i64 (Cal.len y m)) ∧ w = w' := by
  by_cases h : 1 ≤ m ∧ m ≤ 12
  · rcases Cal.m12 h.1 h.2 with rfl | rfl | rfl | rfl | rfl | rfl | rfl | rfl | rfl | rfl | rfl | rfl
    case inr.inl =>
      by_cases hl : Cal.lpB y = true
      · have H := Lib.hid (Cal.lp_yes hl)
        go_enter Tryd.func28, Tryd.ntmps28
        go_wp2_with (go_at_call 36; refine (rleap_any _ _).mono ?_; rintro e w' ⟨rfl, rfl⟩)
        go_ret
        exact ⟨ret_int (by simp [Cal.len, H.out]), rfl⟩
      · have hl : Cal.lpB y = false := by simpa using hl
        have H := Lib.hid (Cal.lp_no hl)
        go_enter Tryd.func28, Tryd.ntmps28
        go_wp2_with (go_at_call 36; refine (rleap_any _ _).mono ?_; rintro e w' ⟨rfl, rfl⟩)
        go_ret
        exact ⟨ret_int (by simp [Cal.len, H.out]), rfl⟩
    all_goals
      go_enter Tryd.func28, Tryd.ntmps28
      go_wp2
      go_ret
      exact ⟨ret_int (by simp [Cal.len]), rfl⟩
  · have H := Lib.hid (Cal.len_out (y := y) (m := m) (by omega))
    have n1 : (m == 1) = false := by rw [beq_eq_false_iff_ne]; omega
    have n2 : (m == 2) = false := by rw [beq_eq_false_iff_ne]; omega
    have n3 : (m == 3) = false := by rw [beq_eq_false_iff_ne]; omega
    have n4 : (m == 4) = false := by rw [beq_eq_false_iff_ne]; omega
    have n5 : (m == 5) = false := by rw [beq_eq_false_iff_ne]; omega
    have n6 : (m == 6) = false := by rw [beq_eq_false_iff_ne]; omega
    have n7 : (m == 7) = false := by rw [beq_eq_false_iff_ne]; omega
    have n8 : (m == 8) = false := by rw [beq_eq_false_iff_ne]; omega
    have n9 : (m == 9) = false := by rw [beq_eq_false_iff_ne]; omega
    have n10 : (m == 10) = false := by rw [beq_eq_false_iff_ne]; omega
    have n11 : (m == 11) = false := by rw [beq_eq_false_iff_ne]; omega
    have n12 : (m == 12) = false := by rw [beq_eq_false_iff_ne]; omega
    clear h
    go_enter Tryd.func28, Tryd.ntmps28
    go_wp2
    go_ret
    exact ⟨ret_int H.out.symm, rfl⟩

set_option maxHeartbeats 400000 in
theorem rsize_any (y : Int) (w : World) :
    Calls Tryd.prog 46 #[.int .i64 y] w fun e w' => e = .returned (.int .i64 (365 + Cal.lp y)) ∧ w = w' := by
  by_cases hl : Cal.lpB y = true
  · have H := Lib.hid (Cal.lp_yes hl)
    go_enter Tryd.func46, Tryd.ntmps46
    go_wp2_with (go_at_call 36; refine (rleap_any _ _).mono ?_; rintro e w' ⟨rfl, rfl⟩)
    go_ret
    exact ⟨ret_int (by rw [H.out]; rfl), rfl⟩
  · have hl : Cal.lpB y = false := by simpa using hl
    have H := Lib.hid (Cal.lp_no hl)
    go_enter Tryd.func46, Tryd.ntmps46
    go_wp2_with (go_at_call 36; refine (rleap_any _ _).mono ?_; rintro e w' ⟨rfl, rfl⟩)
    go_ret
    exact ⟨ret_int (by rw [H.out]; rfl), rfl⟩

theorem first_bd {k : Int} (h1 : -30000000000000000 ≤ k) (h2 : k ≤ 30000000000000000) : -11000000000000000000 ≤ Cal.first k ∧ Cal.first k ≤ 11000000000000000000 := by unfold Cal.first; omega

set_option maxHeartbeats 1000000 in
theorem rfirst_any (y : Int) (w : World) (h1 : -2000000000 ≤ y) (h2 : y ≤ 2000000000) :
    Calls Tryd.prog 38 #[.int .i64 y] w fun e w' => e = .returned (.int .i64 (Cal.first y)) ∧ w = w' := by
  go_enter Tryd.func38, Tryd.ntmps38
  go_wp2_with (go_at_call 45; refine (rfloor_any _ _ _ (by omega) (by omega) (by omega) (by omega)).mono ?_; rintro e w' ⟨rfl, rfl⟩)
  go_loop [4, 5] (fun d i => ∃ k : Int, y / 400 * 400 ≤ k ∧ k ≤ y ∧ i = .int .i64 k ∧ d = .int .i64 (Cal.first k)) (fun _ i => (y - intOf i).toNat)
  case atStart => exact ⟨_, Int.le_refl _, by omega, rfl, by rw [Cal.first_400]⟩
  case round =>
    obtain ⟨k, k1, k2, rfl, rfl⟩ := hrel
    have fb : -800000000000 ≤ Cal.first k ∧ Cal.first k ≤ 800000000000 := by unfold Cal.first; omega
    have lb := Cal.lp_01 k
    have lb' : 0 ≤ Cal.lp k ∧ Cal.lp k ≤ 1 := by omega
    clear lb
    by_cases hk : k < y
    · have FS := Lib.hid (Cal.first_succ k)
      go_wp2_with (go_at_call 46; refine (rsize_any _ _).mono ?_; rintro e w' ⟨rfl, rfl⟩)
      go_round
      case rel => exact ⟨k + 1, by omega, by omega, rfl, by rw [FS.out]; go_num⟩
      case measure => simp [intOf]; omega
    · obtain rfl : k = y := by omega
      go_wp2
      go_ret
      exact ⟨rfl, rfl⟩

set_option maxHeartbeats 400000 in
theorem rin_yes (y : Int) (w : World) (h1 : -2000000000 ≤ y) (h2 : y ≤ 2000000000) :
    Calls Tryd.prog 37 #[.int .i64 y] w fun e w' => e = .returned (.bool true) ∧ w = w' := by
  go_enter Tryd.func37, Tryd.ntmps37
  go_wp2
  go_ret
  exact ⟨ret_bool (by simp <;> omega), rfl⟩
set_option maxHeartbeats 400000 in
theorem rin_no (y : Int) (w : World) (h : y < -2000000000 ∨ 2000000000 < y) :
    Calls Tryd.prog 37 #[.int .i64 y] w fun e w' => e = .returned (.bool false) ∧ w = w' := by
  by_cases h1 : y < -2000000000
  · go_enter Tryd.func37, Tryd.ntmps37
    go_wp2
    go_ret
    exact ⟨ret_bool (by simp <;> omega), rfl⟩
  · have h1' : -2000000000 ≤ y := by omega
    have h2 : 2000000000 < y := by omega
    clear h h1
    go_enter Tryd.func37, Tryd.ntmps37
    go_wp2
    go_ret
    exact ⟨ret_bool (by simp <;> omega), rfl⟩

set_option maxHeartbeats 1000000 in
theorem rdays_ok (y m d : Int) (w : World) (hy1 : -2000000000 ≤ y) (hy2 : y ≤ 2000000000) (h : Cal.Ok y m d) :
    Calls Tryd.prog 29 #[.int .i64 y, .int .i64 m, .int .i64 d] w fun e w' => e = .returned (.tuple #[.int .i64 (Cal.num y m d), .int .i64 0]) ∧ w = w' := by
  have hm1 := h.m1
  have hm2 := h.m2
  have hd1 := h.d1
  have hd2 := h.d2
  have hl := Cal.len_bd y m
  have fb : -800000000000 ≤ Cal.first y ∧ Cal.first y ≤ 800000000000 := by unfold Cal.first; omega
  clear h
  go_enter Tryd.func29, Tryd.ntmps29
  go_wp2_with (first | (go_at_call 37; refine (rin_yes _ _ hy1 hy2).mono ?_; rintro e w' ⟨rfl, rfl⟩) | (go_at_call 28; refine (rlen_any _ _ _).mono ?_; rintro e w' ⟨rfl, rfl⟩) | (go_at_call 38; refine (rfirst_any _ _ hy1 hy2).mono ?_; rintro e w' ⟨rfl, rfl⟩))
  go_loop [8, 9] (fun s i => ∃ k : Int, 1 ≤ k ∧ k ≤ m ∧ i = .int .i64 k ∧ s = .int .i64 (Cal.first y + Cal.cum y k)) (fun _ i => (m - intOf i).toNat)
  case atStart => exact ⟨1, by omega, by omega, rfl, by rw [Cal.cum_1]; go_num⟩
  case round =>
    obtain ⟨k, k1, k2, rfl, rfl⟩ := hrel
    have cb := Cal.cum_bd (y := y) (m := k) (by omega) (by omega)
    have lb := Cal.len_bd y k
    by_cases hk : k < m
    · have CS := Lib.hid (Cal.cum_succ (y := y) (m := k) (by omega) (by omega))
      go_wp2_with (go_at_call 28; refine (rlen_any _ _ _).mono ?_; rintro e w' ⟨rfl, rfl⟩)
      go_round
      case rel => exact ⟨k + 1, by omega, by omega, rfl, by rw [CS.out]; go_num⟩
      case measure => simp [intOf]; omega
    · obtain rfl : k = m := by omega
      go_wp2
      go_ret2
      exact ⟨ret_pair (by unfold Cal.num; omega) rfl, rfl⟩

set_option maxHeartbeats 1000000 in
theorem rdays_bad (y m d : Int) (w : World) (h : y < -2000000000 ∨ 2000000000 < y ∨ d < 1 ∨ Cal.len y m < d) :
    Calls Tryd.prog 29 #[.int .i64 y, .int .i64 m, .int .i64 d] w fun e w' => e = .returned (.tuple #[.int .i64 0, .int .i64 3]) ∧ w = w' := by
  have hl := Cal.len_bd y m
  by_cases h1 : y < -2000000000 ∨ 2000000000 < y
  · go_enter Tryd.func29, Tryd.ntmps29
    go_wp2_with (go_at_call 37; refine (rin_no _ _ h1).mono ?_; rintro e w' ⟨rfl, rfl⟩)
    go_ret2
    exact ⟨rfl, rfl⟩
  have h1' : -2000000000 ≤ y := by omega
  have h2' : y ≤ 2000000000 := by omega
  clear h1
  by_cases h3 : d < 1
  · go_enter Tryd.func29, Tryd.ntmps29
    go_wp2_with (go_at_call 37; refine (rin_yes _ _ h1' h2').mono ?_; rintro e w' ⟨rfl, rfl⟩)
    go_ret2
    exact ⟨rfl, rfl⟩
  have h3' : 1 ≤ d := by omega
  have h4 : Cal.len y m < d := by omega
  clear h3 h
  go_enter Tryd.func29, Tryd.ntmps29
  go_wp2_with (first | (go_at_call 37; refine (rin_yes _ _ h1' h2').mono ?_; rintro e w' ⟨rfl, rfl⟩) | (go_at_call 28; refine (rlen_any _ _ _).mono ?_; rintro e w' ⟨rfl, rfl⟩))
  go_ret2
  exact ⟨rfl, rfl⟩
set_option maxHeartbeats 1000000 in
theorem rweekday_any (n : Int) (w : World) :
    Calls Tryd.prog 30 #[.int .i64 n] w fun e w' => e = .returned (.int .i64 ((n + 4) % 7)) ∧ w = w' := by
  have hb := tmod_bd n 7 (by decide)
  have H := Lib.hid (show (n.tmod 7 + 11) % 7 = (n + 4) % 7 by rw [Int.tmod_eq_emod]; split <;> omega)
  go_enter Tryd.func30, Tryd.ntmps30
  go_wp2
  go_ret
  exact ⟨ret_int H.out, rfl⟩

end Go.Proofs.YtljbgkfoljjgbaaDoor
