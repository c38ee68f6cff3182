/-
  The document's own answers on day forms.
-/
import Derived.Test.YtljbgkfoljjgbaaDoorCivilRef
import Derived.Test.YtljbgkfoljjgbaaDoorDayC
namespace Go.Proofs.YtljbgkfoljjgbaaDoor
set_option linter.unusedVariables false
set_option linter.unusedSimpArgs false
open Go.RowKit

set_option maxHeartbeats 400000 in
theorem rin2_any (n l u : Int) (w : World) :
    Calls Tryd.prog 27 #[.int .i64 n, .int .i64 l, .int .i64 u] w fun e w' => e = .returned (.bool (decide (l ≤ n ∧ n ≤ u))) ∧ w = w' := by
  by_cases h1 : l ≤ n
  · by_cases h2 : n ≤ u
    · have H := Lib.hid (dec_tr (show l ≤ n ∧ n ≤ u from ⟨h1, h2⟩))
      go_enter Tryd.func27, Tryd.ntmps27
      go_wp2
      go_ret
      exact ⟨ret_bool (by first | (rw [H.out]; done) | (simp <;> omega)), rfl⟩
    · have H := Lib.hid (dec_fl (show ¬ (l ≤ n ∧ n ≤ u) by omega))
      have h2' : u < n := by omega
      clear h2
      go_enter Tryd.func27, Tryd.ntmps27
      go_wp2
      go_ret
      exact ⟨ret_bool (by first | (rw [H.out]; done) | (simp <;> omega)), rfl⟩
  · have H := Lib.hid (dec_fl (show ¬ (l ≤ n ∧ n ≤ u) by omega))
    have h1' : n < l := by omega
    clear h1
    go_enter Tryd.func27, Tryd.ntmps27
    go_wp2
    go_ret
    exact ⟨ret_bool (by first | (rw [H.out]; done) | (simp <;> omega)), rfl⟩

set_option maxHeartbeats 1000000 in
theorem rcheck2_ok (k a d : Int) (w : World) (h : Day.okB k a d = true) :
    Calls Tryd.prog 12 #[.agg #[.int .i64 k, .int .i64 a, .int .i64 d]] w fun e w' => e = .returned (.int .i64 0) ∧ Below w.heap.size w w' := by
  rw [Day.okB_iff] at h
  rcases h with ⟨rfl, rfl, d1, d2⟩ | ⟨rfl, a1, a2, rfl⟩ | ⟨rfl | rfl, a1, a2, d1, d2⟩
  · have q : decide (1 ≤ d ∧ d ≤ 31) = true := dec_tr ⟨d1, d2⟩
    go_enter Tryd.func12, Tryd.ntmps12
    go_wp2
    go_quiet ((go_at_call 27; exact Calls.quiet_of_same ((rin2_any _ _ _ _).mono fun _ _ ⟨he, hw⟩ => ⟨he, hw.symm⟩)))
    go_wp2
    go_ret
    exact ⟨rfl, by repeat (first | exact Below.refl _ _ | refine below_drewN ?_ _ | apply Below.drew | refine Below.setCell ?_ (by simp <;> omega) _ | refine Below.alloc ?_ (by simp <;> omega) _)⟩
  · have q : decide (0 ≤ a ∧ a ≤ 6) = true := dec_tr ⟨a1, a2⟩
    go_enter Tryd.func12, Tryd.ntmps12
    go_wp2
    go_quiet ((go_at_call 27; exact Calls.quiet_of_same ((rin2_any _ _ _ _).mono fun _ _ ⟨he, hw⟩ => ⟨he, hw.symm⟩)))
    go_wp2
    go_ret
    exact ⟨rfl, by repeat (first | exact Below.refl _ _ | refine below_drewN ?_ _ | apply Below.drew | refine Below.setCell ?_ (by simp <;> omega) _ | refine Below.alloc ?_ (by simp <;> omega) _)⟩
  · have q : decide (1 ≤ d ∧ d ≤ 31) = true := dec_tr ⟨d1, d2⟩
    have q2 : decide (0 ≤ a ∧ a ≤ 6) = true := dec_tr ⟨a1, a2⟩
    go_enter Tryd.func12, Tryd.ntmps12
    go_wp2
    go_quiet ((go_at_call 27; exact Calls.quiet_of_same ((rin2_any _ _ _ _).mono fun _ _ ⟨he, hw⟩ => ⟨he, hw.symm⟩)))
    go_wp2
    go_ret
    exact ⟨rfl, by repeat (first | exact Below.refl _ _ | refine below_drewN ?_ _ | apply Below.drew | refine Below.setCell ?_ (by simp <;> omega) _ | refine Below.alloc ?_ (by simp <;> omega) _)⟩
  · have q : decide (1 ≤ d ∧ d ≤ 31) = true := dec_tr ⟨d1, d2⟩
    have q2 : decide (0 ≤ a ∧ a ≤ 6) = true := dec_tr ⟨a1, a2⟩
    go_enter Tryd.func12, Tryd.ntmps12
    go_wp2
    go_quiet ((go_at_call 27; exact Calls.quiet_of_same ((rin2_any _ _ _ _).mono fun _ _ ⟨he, hw⟩ => ⟨he, hw.symm⟩)))
    go_wp2
    go_ret
    exact ⟨rfl, by repeat (first | exact Below.refl _ _ | refine below_drewN ?_ _ | apply Below.drew | refine Below.setCell ?_ (by simp <;> omega) _ | refine Below.alloc ?_ (by simp <;> omega) _)⟩

set_option maxHeartbeats 1000000 in
theorem rcheck2_b (k a d : Int) (w : World) (hw : ¬ (0 ≤ a ∧ a ≤ 6)) (h1 : ¬ (k = 1 ∧ a = 0 ∧ 1 ≤ d ∧ d ≤ 31)) :
    Calls Tryd.prog 12 #[.agg #[.int .i64 k, .int .i64 a, .int .i64 d]] w fun e w' => e = .returned (.int .i64 2) ∧ Below w.heap.size w w' := by
  have q2 := dec_fl hw
  have q3 : (a == 0) = false := beq_fl (by omega)
  clear h1 hw
  by_cases e1 : k = 1
  · subst e1
    go_enter Tryd.func12, Tryd.ntmps12
    go_wp2
    go_quiet ((go_at_call 27; exact Calls.quiet_of_same ((rin2_any _ _ _ _).mono fun _ _ ⟨he, hw⟩ => ⟨he, hw.symm⟩)))
    go_wp2
    all_goals
      go_ret
      exact ⟨rfl, by repeat (first | exact Below.refl _ _ | refine below_drewN ?_ _ | apply Below.drew | refine Below.setCell ?_ (by simp <;> omega) _ | refine Below.alloc ?_ (by simp <;> omega) _)⟩
  by_cases e2 : k = 2
  · subst e2
    go_enter Tryd.func12, Tryd.ntmps12
    go_wp2
    go_quiet ((go_at_call 27; exact Calls.quiet_of_same ((rin2_any _ _ _ _).mono fun _ _ ⟨he, hw⟩ => ⟨he, hw.symm⟩)))
    go_wp2
    all_goals
      go_ret
      exact ⟨rfl, by repeat (first | exact Below.refl _ _ | refine below_drewN ?_ _ | apply Below.drew | refine Below.setCell ?_ (by simp <;> omega) _ | refine Below.alloc ?_ (by simp <;> omega) _)⟩
  by_cases e3 : k = 3
  · subst e3
    go_enter Tryd.func12, Tryd.ntmps12
    go_wp2
    go_quiet ((go_at_call 27; exact Calls.quiet_of_same ((rin2_any _ _ _ _).mono fun _ _ ⟨he, hw⟩ => ⟨he, hw.symm⟩)))
    go_wp2
    all_goals
      go_ret
      exact ⟨rfl, by repeat (first | exact Below.refl _ _ | refine below_drewN ?_ _ | apply Below.drew | refine Below.setCell ?_ (by simp <;> omega) _ | refine Below.alloc ?_ (by simp <;> omega) _)⟩
  by_cases e4 : k = 4
  · subst e4
    go_enter Tryd.func12, Tryd.ntmps12
    go_wp2
    go_quiet ((go_at_call 27; exact Calls.quiet_of_same ((rin2_any _ _ _ _).mono fun _ _ ⟨he, hw⟩ => ⟨he, hw.symm⟩)))
    go_wp2
    all_goals
      go_ret
      exact ⟨rfl, by repeat (first | exact Below.refl _ _ | refine below_drewN ?_ _ | apply Below.drew | refine Below.setCell ?_ (by simp <;> omega) _ | refine Below.alloc ?_ (by simp <;> omega) _)⟩
  · have p1 := beq_fl e1
    have p2 := beq_fl e2
    have p3 := beq_fl e3
    have p4 := beq_fl e4
    clear e1 e2 e3 e4
    go_enter Tryd.func12, Tryd.ntmps12
    go_wp2
    go_quiet ((go_at_call 27; exact Calls.quiet_of_same ((rin2_any _ _ _ _).mono fun _ _ ⟨he, hw⟩ => ⟨he, hw.symm⟩)))
    go_wp2
    all_goals
      go_ret
      exact ⟨rfl, by repeat (first | exact Below.refl _ _ | refine below_drewN ?_ _ | apply Below.drew | refine Below.setCell ?_ (by simp <;> omega) _ | refine Below.alloc ?_ (by simp <;> omega) _)⟩

set_option maxHeartbeats 1000000 in
theorem rcheck2_c (k a d : Int) (w : World) (hw : 0 ≤ a ∧ a ≤ 6) (h : Day.okB k a d = false) :
    Calls Tryd.prog 12 #[.agg #[.int .i64 k, .int .i64 a, .int .i64 d]] w fun e w' => e = .returned (.int .i64 2) ∧ Below w.heap.size w w' := by
  have h' : ¬ Day.okB k a d = true := by simp [h]
  rw [Day.okB_iff] at h'
  have q2 := dec_tr hw
  by_cases e1 : k = 1
  · subst e1
    by_cases e : a = 0
    · subst e
      have q4 : decide (1 ≤ d ∧ d ≤ 31) = false := dec_fl (by omega)
      clear h' h hw
      go_enter Tryd.func12, Tryd.ntmps12
      go_wp2
      go_quiet ((go_at_call 27; exact Calls.quiet_of_same ((rin2_any _ _ _ _).mono fun _ _ ⟨he, hw⟩ => ⟨he, hw.symm⟩)))
      go_wp2
      all_goals
        go_ret
        exact ⟨rfl, by repeat (first | exact Below.refl _ _ | refine below_drewN ?_ _ | apply Below.drew | refine Below.setCell ?_ (by simp <;> omega) _ | refine Below.alloc ?_ (by simp <;> omega) _)⟩
    · have q3 := beq_fl e
      clear h' h hw e
      go_enter Tryd.func12, Tryd.ntmps12
      go_wp2
      go_quiet ((go_at_call 27; exact Calls.quiet_of_same ((rin2_any _ _ _ _).mono fun _ _ ⟨he, hw⟩ => ⟨he, hw.symm⟩)))
      go_wp2
      all_goals
        go_ret
        exact ⟨rfl, by repeat (first | exact Below.refl _ _ | refine below_drewN ?_ _ | apply Below.drew | refine Below.setCell ?_ (by simp <;> omega) _ | refine Below.alloc ?_ (by simp <;> omega) _)⟩
  by_cases e2 : k = 2
  · subst e2
    have q3 : (d == 0) = false := beq_fl (by omega)
    clear h' h hw e1
    go_enter Tryd.func12, Tryd.ntmps12
    go_wp2
    go_quiet ((go_at_call 27; exact Calls.quiet_of_same ((rin2_any _ _ _ _).mono fun _ _ ⟨he, hw⟩ => ⟨he, hw.symm⟩)))
    go_wp2
    all_goals
      go_ret
      exact ⟨rfl, by repeat (first | exact Below.refl _ _ | refine below_drewN ?_ _ | apply Below.drew | refine Below.setCell ?_ (by simp <;> omega) _ | refine Below.alloc ?_ (by simp <;> omega) _)⟩
  by_cases e3 : k = 3
  · subst e3
    have q4 : decide (1 ≤ d ∧ d ≤ 31) = false := dec_fl (by omega)
    clear h' h hw e1 e2
    go_enter Tryd.func12, Tryd.ntmps12
    go_wp2
    go_quiet ((go_at_call 27; exact Calls.quiet_of_same ((rin2_any _ _ _ _).mono fun _ _ ⟨he, hw⟩ => ⟨he, hw.symm⟩)))
    go_wp2
    all_goals
      go_ret
      exact ⟨rfl, by repeat (first | exact Below.refl _ _ | refine below_drewN ?_ _ | apply Below.drew | refine Below.setCell ?_ (by simp <;> omega) _ | refine Below.alloc ?_ (by simp <;> omega) _)⟩
  by_cases e4 : k = 4
  · subst e4
    have q4 : decide (1 ≤ d ∧ d ≤ 31) = false := dec_fl (by omega)
    clear h' h hw e1 e2 e3
    go_enter Tryd.func12, Tryd.ntmps12
    go_wp2
    go_quiet ((go_at_call 27; exact Calls.quiet_of_same ((rin2_any _ _ _ _).mono fun _ _ ⟨he, hw⟩ => ⟨he, hw.symm⟩)))
    go_wp2
    all_goals
      go_ret
      exact ⟨rfl, by repeat (first | exact Below.refl _ _ | refine below_drewN ?_ _ | apply Below.drew | refine Below.setCell ?_ (by simp <;> omega) _ | refine Below.alloc ?_ (by simp <;> omega) _)⟩
  · have p1 := beq_fl e1
    have p2 := beq_fl e2
    have p3 := beq_fl e3
    have p4 := beq_fl e4
    clear e1 e2 e3 e4 h' h hw
    go_enter Tryd.func12, Tryd.ntmps12
    go_wp2
    go_quiet ((go_at_call 27; exact Calls.quiet_of_same ((rin2_any _ _ _ _).mono fun _ _ ⟨he, hw⟩ => ⟨he, hw.symm⟩)))
    go_wp2
    all_goals
      go_ret
      exact ⟨rfl, by repeat (first | exact Below.refl _ _ | refine below_drewN ?_ _ | apply Below.drew | refine Below.setCell ?_ (by simp <;> omega) _ | refine Below.alloc ?_ (by simp <;> omega) _)⟩

theorem rcheck2_any (k a d : Int) (w : World) :
    Calls Tryd.prog 12 #[.agg #[.int .i64 k, .int .i64 a, .int .i64 d]] w fun e w' => e = .returned (.int .i64 (Day.chk k a d)) ∧ Below w.heap.size w w' := by
  unfold Day.chk
  cases ho : Day.okB k a d
  · by_cases hw : 0 ≤ a ∧ a ≤ 6
    · exact rcheck2_c k a d w hw ho
    · exact rcheck2_b k a d w hw (by
        intro h
        have : Day.okB k a d = true := by rw [Day.okB_iff]; exact .inl h
        rw [ho] at this; cases this)
  · rw [if_pos rfl]
    exact rcheck2_ok k a d w ho

set_option maxHeartbeats 400000 in
theorem rleap2_any (y : Int) (w : World) :
    Calls Tryd.prog 33 #[.int .i64 y] w fun e w' => e = .returned (.bool (Cal.lpB y)) ∧ w = w' := by
  by_cases h4 : y % 4 = 0
  · by_cases h100 : y % 100 = 0
    · by_cases h400 : y % 400 = 0
      · have H := Lib.hid (show Cal.lpB y = true by rw [Cal.lpB_iff]; omega)
        have t4 : (y.tmod 4 == 0) = true := by rw [tmod_zero]; simpa using h4
        have t100 : (y.tmod 100 != 0) = false := by rw [bne, tmod_zero]; simpa using h100
        have t400 : (y.tmod 400 == 0) = true := by rw [tmod_zero]; simpa using h400
        clear h4 h100 h400
        go_enter Tryd.func33, Tryd.ntmps33
        go_wp2
        go_ret
        exact ⟨ret_bool (by rw [H.out]), rfl⟩
      · have H := Lib.hid (show Cal.lpB y = false by rw [Bool.eq_false_iff, Ne, Cal.lpB_iff]; omega)
        have t4 : (y.tmod 4 == 0) = true := by rw [tmod_zero]; simpa using h4
        have t100 : (y.tmod 100 != 0) = false := by rw [bne, tmod_zero]; simpa using h100
        have t400 : (y.tmod 400 == 0) = false := by rw [tmod_zero]; simpa using h400
        clear h4 h100 h400
        go_enter Tryd.func33, Tryd.ntmps33
        go_wp2
        go_ret
        exact ⟨ret_bool (by rw [H.out]), rfl⟩
    · have H := Lib.hid (show Cal.lpB y = true by rw [Cal.lpB_iff]; omega)
      have t4 : (y.tmod 4 == 0) = true := by rw [tmod_zero]; simpa using h4
      have t100 : (y.tmod 100 != 0) = true := by rw [bne, tmod_zero]; simpa using h100
      clear h4 h100
      go_enter Tryd.func33, Tryd.ntmps33
      go_wp2
      go_ret
      exact ⟨ret_bool (by rw [H.out]), rfl⟩
  · have H := Lib.hid (show Cal.lpB y = false by rw [Bool.eq_false_iff, Ne, Cal.lpB_iff]; omega)
    have t4 : (y.tmod 4 == 0) = false := by rw [tmod_zero]; simpa using h4
    clear h4
    go_enter Tryd.func33, Tryd.ntmps33
    go_wp2
    go_ret
    exact ⟨ret_bool (by rw [H.out]), rfl⟩
end Go.Proofs.YtljbgkfoljjgbaaDoor
