/-
  Package dayform: whether there is such a day in each year.
-/
import Derived.Test.YtljbgkfoljjgbaaDoorDayB
namespace Go.Proofs.YtljbgkfoljjgbaaDoor
set_option linter.unusedVariables false
set_option linter.unusedSimpArgs false
open Go.RowKit

theorem dec_tr {p : Prop} [Decidable p] (h : p) : decide p = true := by simp [h]
theorem dec_fl {p : Prop} [Decidable p] (h : ¬ p) : decide p = false := by simp [h]
theorem beq_fl {a b : Int} (h : a ≠ b) : (a == b) = false := by simp [h]

set_option maxHeartbeats 1000000 in
theorem alw_m (x y m k a d : Int) (w : World) (h : m < 1 ∨ 12 < m) :
    Calls Tryd.prog 14 #[.int .i64 x, .int .i64 y, .int .i64 m, .agg #[.int .i64 k, .int .i64 a, .int .i64 d]] w fun e w' => e = .returned (.bool (Day.alw x y m k a d)) ∧ Below w.heap.size w w' := by
  have H := Lib.hid (show Day.alw x y m k a d = false by
    unfold Day.alw
    have : decide (1 ≤ m ∧ m ≤ 12) = false := by simp; omega
    rw [this]; rfl)
  by_cases h1 : m < 1
  · clear h
    go_enter Tryd.func14, Tryd.ntmps14
    go_wp2_with fail
    go_ret
    exact ⟨ret_bool (by rw [H.out]), by repeat (first | exact Below.refl _ _ | refine below_drewN ?_ _ | apply Below.drew | refine Below.setCell ?_ (by simp <;> omega) _ | refine Below.alloc ?_ (by simp <;> omega) _)⟩
  · have h1' : 1 ≤ m := by omega
    have h2 : 12 < m := by omega
    clear h h1
    go_enter Tryd.func14, Tryd.ntmps14
    go_wp2_with fail
    go_ret
    exact ⟨ret_bool (by rw [H.out]), by repeat (first | exact Below.refl _ _ | refine below_drewN ?_ _ | apply Below.drew | refine Below.setCell ?_ (by simp <;> omega) _ | refine Below.alloc ?_ (by simp <;> omega) _)⟩

set_option maxHeartbeats 1000000 in
theorem alw_arg (x y m k a d : Int) (w : World) (hT : Tab w) (m1 : 1 ≤ m) (m2 : m ≤ 12) (ho : Day.okB k a d = false) :
    Calls Tryd.prog 14 #[.int .i64 x, .int .i64 y, .int .i64 m, .agg #[.int .i64 k, .int .i64 a, .int .i64 d]] w fun e w' => e = .returned (.bool (Day.alw x y m k a d)) ∧ Below w.heap.size w w' := by
  have H := Lib.hid (show Day.alw x y m k a d = false by unfold Day.alw; rw [ho]; simp)
  have HC := Lib.hid (show Day.chk k a d = 2 by unfold Day.chk; rw [ho]; rfl)
  clear ho
  go_enter Tryd.func14, Tryd.ntmps14
  go_wp2_with (go_at_call 11; refine (check_any k a d _).mono ?_; rintro e w1 ⟨rfl, hb⟩; have c0 := hb.cell (p := ⟨w.heap.size, 0, none⟩) (by simp); have c1 := hb.cell (p := ⟨w.heap.size, 1, none⟩) (by simp); have c2 := hb.cell (p := ⟨w.heap.size, 2, none⟩) (by simp); simp at c0 c1 c2; have hz : w.heap.size < w1.heap.size := (by have := hb.size; simp at this; omega); have hT1 : Tab w1 := Tab.below (by repeat (first | exact hT | apply Tab.drewN | apply Tab.drew | apply Tab.alloc)) hb; have HB := Lib.hid (below_then (w := w) (by repeat (first | exact Below.refl _ _ | refine below_drewN ?_ _ | apply Below.drew | refine Below.setCell ?_ (by simp <;> omega) _ | refine Below.alloc ?_ (by simp <;> omega) _)) hb); clear hb; rw [HC.out])
  go_ret
  exact ⟨ret_bool (by rw [H.out]), by repeat (first | exact HB.out | exact Below.refl _ _ | refine below_drewN ?_ _ | apply Below.drew | refine Below.setCell ?_ (by have := HB.out.size; simp <;> omega) _ | refine Below.alloc ?_ (by have := HB.out.size; simp <;> omega) _)⟩

set_option maxHeartbeats 1000000 in
theorem alw_c1 (x y m k a d : Int) (w : World) (hT : Tab w) (m1 : 1 ≤ m) (m2 : m ≤ 12) (ho : Day.okB k a d = true) (h : d ≤ Cal.len 2023 m) :
    Calls Tryd.prog 14 #[.int .i64 x, .int .i64 y, .int .i64 m, .agg #[.int .i64 k, .int .i64 a, .int .i64 d]] w fun e w' => e = .returned (.bool (Day.alw x y m k a d)) ∧ Below w.heap.size w w' := by
  have HC := Lib.hid (show Day.chk k a d = 0 by unfold Day.chk; rw [if_pos ho])
  have lb := Cal.len_bd 2023 m
  have H := Lib.hid (show Day.alw x y m k a d = true by
    unfold Day.alw
    rw [ho, dec_tr (show 1 ≤ m ∧ m ≤ 12 from ⟨m1, m2⟩)]
    rw [dec_tr h]
    simp)
  clear ho
  go_enter Tryd.func14, Tryd.ntmps14
  go_wp2_with (go_at_call 11; refine (check_any k a d _).mono ?_; rintro e w1 ⟨rfl, hb⟩; have c0 := hb.cell (p := ⟨w.heap.size, 0, none⟩) (by simp); have c1 := hb.cell (p := ⟨w.heap.size, 1, none⟩) (by simp); have c2 := hb.cell (p := ⟨w.heap.size, 2, none⟩) (by simp); simp at c0 c1 c2; have hz : w.heap.size < w1.heap.size := (by have := hb.size; simp at this; omega); have hT1 : Tab w1 := Tab.below (by repeat (first | exact hT | apply Tab.drewN | apply Tab.drew | apply Tab.alloc)) hb; have HB := Lib.hid (below_then (w := w) (by repeat (first | exact Below.refl _ _ | refine below_drewN ?_ _ | apply Below.drew | refine Below.setCell ?_ (by simp <;> omega) _ | refine Below.alloc ?_ (by simp <;> omega) _)) hb); clear hb; rw [HC.out])
  go_quiet ((go_at_call 19; exact Calls.quiet_of (len_any _ _ _ (hT1.drewN _))))
  go_wp2_with fail
  all_goals
    go_ret
    exact ⟨ret_bool (by rw [H.out]), by repeat (first | exact HB.out | exact Below.refl _ _ | refine below_drewN ?_ _ | apply Below.drew | refine Below.setCell ?_ (by have := HB.out.size; simp <;> omega) _ | refine Below.alloc ?_ (by have := HB.out.size; simp <;> omega) _)⟩

set_option maxHeartbeats 1000000 in
theorem alw_e1 (x y m k a d : Int) (w : World) (hT : Tab w) (m1 : 1 ≤ m) (m2 : m ≤ 12) (ho : Day.okB k a d = true) (h : Cal.len 2023 m < d) (hy : y < 1048576) (hxy : y < x) :
    Calls Tryd.prog 14 #[.int .i64 x, .int .i64 y, .int .i64 m, .agg #[.int .i64 k, .int .i64 a, .int .i64 d]] w fun e w' => e = .returned (.bool (Day.alw x y m k a d)) ∧ Below w.heap.size w w' := by
  have HC := Lib.hid (show Day.chk k a d = 0 by unfold Day.chk; rw [if_pos ho])
  have lb := Cal.len_bd 2023 m
  have H := Lib.hid (show Day.alw x y m k a d = true by
    unfold Day.alw
    rw [ho, dec_tr (show 1 ≤ m ∧ m ≤ 12 from ⟨m1, m2⟩)]
    rw [dec_fl (show ¬ d ≤ Cal.len 2023 m by omega), dec_tr (show y < x ∧ y < 1048576 from ⟨hxy, hy⟩)]
    simp)
  have q5 : decide (1048576 ≤ y) = false := dec_fl (by omega)
  clear ho
  go_enter Tryd.func14, Tryd.ntmps14
  go_wp2_with (go_at_call 11; refine (check_any k a d _).mono ?_; rintro e w1 ⟨rfl, hb⟩; have c0 := hb.cell (p := ⟨w.heap.size, 0, none⟩) (by simp); have c1 := hb.cell (p := ⟨w.heap.size, 1, none⟩) (by simp); have c2 := hb.cell (p := ⟨w.heap.size, 2, none⟩) (by simp); simp at c0 c1 c2; have hz : w.heap.size < w1.heap.size := (by have := hb.size; simp at this; omega); have hT1 : Tab w1 := Tab.below (by repeat (first | exact hT | apply Tab.drewN | apply Tab.drew | apply Tab.alloc)) hb; have HB := Lib.hid (below_then (w := w) (by repeat (first | exact Below.refl _ _ | refine below_drewN ?_ _ | apply Below.drew | refine Below.setCell ?_ (by simp <;> omega) _ | refine Below.alloc ?_ (by simp <;> omega) _)) hb); clear hb; rw [HC.out])
  go_quiet ((go_at_call 19; exact Calls.quiet_of (len_any _ _ _ (hT1.drewN _))))
  go_wp2_with fail
  go_ret
  exact ⟨ret_bool (by rw [H.out]), by repeat (first | exact HB.out | exact Below.refl _ _ | refine below_drewN ?_ _ | apply Below.drew | refine Below.setCell ?_ (by have := HB.out.size; simp <;> omega) _ | refine Below.alloc ?_ (by have := HB.out.size; simp <;> omega) _)⟩

set_option maxHeartbeats 1000000 in
theorem alw_n1a (x y m k a d : Int) (w : World) (hT : Tab w) (m1 : 1 ≤ m) (m2 : m ≤ 12) (ho : Day.okB k a d = true) (h : Cal.len 2023 m < d) (hy : y < 1048576) (hxy : x ≤ y) (hm : m ≠ 2) :
    Calls Tryd.prog 14 #[.int .i64 x, .int .i64 y, .int .i64 m, .agg #[.int .i64 k, .int .i64 a, .int .i64 d]] w fun e w' => e = .returned (.bool (Day.alw x y m k a d)) ∧ Below w.heap.size w w' := by
  have HC := Lib.hid (show Day.chk k a d = 0 by unfold Day.chk; rw [if_pos ho])
  have lb := Cal.len_bd 2023 m
  have H := Lib.hid (show Day.alw x y m k a d = false by
    unfold Day.alw
    rw [ho, dec_tr (show 1 ≤ m ∧ m ≤ 12 from ⟨m1, m2⟩)]
    rw [dec_fl (show ¬ d ≤ Cal.len 2023 m by omega), dec_fl (show ¬ (y < x ∧ y < 1048576) by omega), dec_fl (show ¬ (m = 2 ∧ d = 29 ∧ y < 1048576 ∧ x = y) by omega)]
    simp)
  have q1 := beq_fl hm
  clear hm
  clear ho
  go_enter Tryd.func14, Tryd.ntmps14
  go_wp2_with (go_at_call 11; refine (check_any k a d _).mono ?_; rintro e w1 ⟨rfl, hb⟩; have c0 := hb.cell (p := ⟨w.heap.size, 0, none⟩) (by simp); have c1 := hb.cell (p := ⟨w.heap.size, 1, none⟩) (by simp); have c2 := hb.cell (p := ⟨w.heap.size, 2, none⟩) (by simp); simp at c0 c1 c2; have hz : w.heap.size < w1.heap.size := (by have := hb.size; simp at this; omega); have hT1 : Tab w1 := Tab.below (by repeat (first | exact hT | apply Tab.drewN | apply Tab.drew | apply Tab.alloc)) hb; have HB := Lib.hid (below_then (w := w) (by repeat (first | exact Below.refl _ _ | refine below_drewN ?_ _ | apply Below.drew | refine Below.setCell ?_ (by simp <;> omega) _ | refine Below.alloc ?_ (by simp <;> omega) _)) hb); clear hb; rw [HC.out])
  go_quiet ((go_at_call 19; exact Calls.quiet_of (len_any _ _ _ (hT1.drewN _))))
  go_wp2_with fail
  go_ret
  exact ⟨ret_bool (by rw [H.out]), by repeat (first | exact HB.out | exact Below.refl _ _ | refine below_drewN ?_ _ | apply Below.drew | refine Below.setCell ?_ (by have := HB.out.size; simp <;> omega) _ | refine Below.alloc ?_ (by have := HB.out.size; simp <;> omega) _)⟩

set_option maxHeartbeats 1000000 in
theorem alw_n1b (x y m k a d : Int) (w : World) (hT : Tab w) (m1 : 1 ≤ m) (m2 : m ≤ 12) (ho : Day.okB k a d = true) (h : Cal.len 2023 m < d) (hy : 1048576 ≤ y) (hxy : x ≤ y) (hm : m ≠ 2) :
    Calls Tryd.prog 14 #[.int .i64 x, .int .i64 y, .int .i64 m, .agg #[.int .i64 k, .int .i64 a, .int .i64 d]] w fun e w' => e = .returned (.bool (Day.alw x y m k a d)) ∧ Below w.heap.size w w' := by
  have HC := Lib.hid (show Day.chk k a d = 0 by unfold Day.chk; rw [if_pos ho])
  have lb := Cal.len_bd 2023 m
  have H := Lib.hid (show Day.alw x y m k a d = false by
    unfold Day.alw
    rw [ho, dec_tr (show 1 ≤ m ∧ m ≤ 12 from ⟨m1, m2⟩)]
    rw [dec_fl (show ¬ d ≤ Cal.len 2023 m by omega), dec_fl (show ¬ (y < x ∧ y < 1048576) by omega), dec_fl (show ¬ (m = 2 ∧ d = 29 ∧ y < 1048576 ∧ x = y) by omega)]
    simp)
  have q1 := beq_fl hm
  clear hm
  clear ho
  go_enter Tryd.func14, Tryd.ntmps14
  go_wp2_with (go_at_call 11; refine (check_any k a d _).mono ?_; rintro e w1 ⟨rfl, hb⟩; have c0 := hb.cell (p := ⟨w.heap.size, 0, none⟩) (by simp); have c1 := hb.cell (p := ⟨w.heap.size, 1, none⟩) (by simp); have c2 := hb.cell (p := ⟨w.heap.size, 2, none⟩) (by simp); simp at c0 c1 c2; have hz : w.heap.size < w1.heap.size := (by have := hb.size; simp at this; omega); have hT1 : Tab w1 := Tab.below (by repeat (first | exact hT | apply Tab.drewN | apply Tab.drew | apply Tab.alloc)) hb; have HB := Lib.hid (below_then (w := w) (by repeat (first | exact Below.refl _ _ | refine below_drewN ?_ _ | apply Below.drew | refine Below.setCell ?_ (by simp <;> omega) _ | refine Below.alloc ?_ (by simp <;> omega) _)) hb); clear hb; rw [HC.out])
  go_quiet ((go_at_call 19; exact Calls.quiet_of (len_any _ _ _ (hT1.drewN _))))
  go_wp2_with fail
  go_ret
  exact ⟨ret_bool (by rw [H.out]), by repeat (first | exact HB.out | exact Below.refl _ _ | refine below_drewN ?_ _ | apply Below.drew | refine Below.setCell ?_ (by have := HB.out.size; simp <;> omega) _ | refine Below.alloc ?_ (by have := HB.out.size; simp <;> omega) _)⟩

set_option maxHeartbeats 1000000 in
theorem alw_n1c (x y m k a d : Int) (w : World) (hT : Tab w) (m1 : 1 ≤ m) (m2 : m ≤ 12) (ho : Day.okB k a d = true) (h : Cal.len 2023 m < d) (hy : 1048576 ≤ y) (hxy : y < x) (hm : m ≠ 2) :
    Calls Tryd.prog 14 #[.int .i64 x, .int .i64 y, .int .i64 m, .agg #[.int .i64 k, .int .i64 a, .int .i64 d]] w fun e w' => e = .returned (.bool (Day.alw x y m k a d)) ∧ Below w.heap.size w w' := by
  have HC := Lib.hid (show Day.chk k a d = 0 by unfold Day.chk; rw [if_pos ho])
  have lb := Cal.len_bd 2023 m
  have H := Lib.hid (show Day.alw x y m k a d = false by
    unfold Day.alw
    rw [ho, dec_tr (show 1 ≤ m ∧ m ≤ 12 from ⟨m1, m2⟩)]
    rw [dec_fl (show ¬ d ≤ Cal.len 2023 m by omega), dec_fl (show ¬ (y < x ∧ y < 1048576) by omega), dec_fl (show ¬ (m = 2 ∧ d = 29 ∧ y < 1048576 ∧ x = y) by omega)]
    simp)
  have q1 := beq_fl hm
  clear hm
  clear ho
  go_enter Tryd.func14, Tryd.ntmps14
  go_wp2_with (go_at_call 11; refine (check_any k a d _).mono ?_; rintro e w1 ⟨rfl, hb⟩; have c0 := hb.cell (p := ⟨w.heap.size, 0, none⟩) (by simp); have c1 := hb.cell (p := ⟨w.heap.size, 1, none⟩) (by simp); have c2 := hb.cell (p := ⟨w.heap.size, 2, none⟩) (by simp); simp at c0 c1 c2; have hz : w.heap.size < w1.heap.size := (by have := hb.size; simp at this; omega); have hT1 : Tab w1 := Tab.below (by repeat (first | exact hT | apply Tab.drewN | apply Tab.drew | apply Tab.alloc)) hb; have HB := Lib.hid (below_then (w := w) (by repeat (first | exact Below.refl _ _ | refine below_drewN ?_ _ | apply Below.drew | refine Below.setCell ?_ (by simp <;> omega) _ | refine Below.alloc ?_ (by simp <;> omega) _)) hb); clear hb; rw [HC.out])
  go_quiet ((go_at_call 19; exact Calls.quiet_of (len_any _ _ _ (hT1.drewN _))))
  go_wp2_with fail
  go_ret
  exact ⟨ret_bool (by rw [H.out]), by repeat (first | exact HB.out | exact Below.refl _ _ | refine below_drewN ?_ _ | apply Below.drew | refine Below.setCell ?_ (by have := HB.out.size; simp <;> omega) _ | refine Below.alloc ?_ (by have := HB.out.size; simp <;> omega) _)⟩

set_option maxHeartbeats 1000000 in
theorem alw_n2a (x y m k a d : Int) (w : World) (hT : Tab w) (m1 : 1 ≤ m) (m2 : m ≤ 12) (ho : Day.okB k a d = true) (h : Cal.len 2023 m < d) (hy : y < 1048576) (hxy : x ≤ y) (hm : m = 2) (hd : d ≠ 29) :
    Calls Tryd.prog 14 #[.int .i64 x, .int .i64 y, .int .i64 m, .agg #[.int .i64 k, .int .i64 a, .int .i64 d]] w fun e w' => e = .returned (.bool (Day.alw x y m k a d)) ∧ Below w.heap.size w w' := by
  have HC := Lib.hid (show Day.chk k a d = 0 by unfold Day.chk; rw [if_pos ho])
  have lb := Cal.len_bd 2023 m
  have H := Lib.hid (show Day.alw x y m k a d = false by
    unfold Day.alw
    rw [ho, dec_tr (show 1 ≤ m ∧ m ≤ 12 from ⟨m1, m2⟩)]
    rw [dec_fl (show ¬ d ≤ Cal.len 2023 m by omega), dec_fl (show ¬ (y < x ∧ y < 1048576) by omega), dec_fl (show ¬ (m = 2 ∧ d = 29 ∧ y < 1048576 ∧ x = y) by omega)]
    simp)
  have q1 := beq_t hm
  have q2 := beq_fl hd
  clear hm hd
  clear ho
  go_enter Tryd.func14, Tryd.ntmps14
  go_wp2_with (go_at_call 11; refine (check_any k a d _).mono ?_; rintro e w1 ⟨rfl, hb⟩; have c0 := hb.cell (p := ⟨w.heap.size, 0, none⟩) (by simp); have c1 := hb.cell (p := ⟨w.heap.size, 1, none⟩) (by simp); have c2 := hb.cell (p := ⟨w.heap.size, 2, none⟩) (by simp); simp at c0 c1 c2; have hz : w.heap.size < w1.heap.size := (by have := hb.size; simp at this; omega); have hT1 : Tab w1 := Tab.below (by repeat (first | exact hT | apply Tab.drewN | apply Tab.drew | apply Tab.alloc)) hb; have HB := Lib.hid (below_then (w := w) (by repeat (first | exact Below.refl _ _ | refine below_drewN ?_ _ | apply Below.drew | refine Below.setCell ?_ (by simp <;> omega) _ | refine Below.alloc ?_ (by simp <;> omega) _)) hb); clear hb; rw [HC.out])
  go_quiet ((go_at_call 19; exact Calls.quiet_of (len_any _ _ _ (hT1.drewN _))))
  go_wp2_with fail
  go_ret
  exact ⟨ret_bool (by rw [H.out]), by repeat (first | exact HB.out | exact Below.refl _ _ | refine below_drewN ?_ _ | apply Below.drew | refine Below.setCell ?_ (by have := HB.out.size; simp <;> omega) _ | refine Below.alloc ?_ (by have := HB.out.size; simp <;> omega) _)⟩

set_option maxHeartbeats 1000000 in
theorem alw_n2b (x y m k a d : Int) (w : World) (hT : Tab w) (m1 : 1 ≤ m) (m2 : m ≤ 12) (ho : Day.okB k a d = true) (h : Cal.len 2023 m < d) (hy : 1048576 ≤ y) (hxy : x ≤ y) (hm : m = 2) (hd : d ≠ 29) :
    Calls Tryd.prog 14 #[.int .i64 x, .int .i64 y, .int .i64 m, .agg #[.int .i64 k, .int .i64 a, .int .i64 d]] w fun e w' => e = .returned (.bool (Day.alw x y m k a d)) ∧ Below w.heap.size w w' := by
  have HC := Lib.hid (show Day.chk k a d = 0 by unfold Day.chk; rw [if_pos ho])
  have lb := Cal.len_bd 2023 m
  have H := Lib.hid (show Day.alw x y m k a d = false by
    unfold Day.alw
    rw [ho, dec_tr (show 1 ≤ m ∧ m ≤ 12 from ⟨m1, m2⟩)]
    rw [dec_fl (show ¬ d ≤ Cal.len 2023 m by omega), dec_fl (show ¬ (y < x ∧ y < 1048576) by omega), dec_fl (show ¬ (m = 2 ∧ d = 29 ∧ y < 1048576 ∧ x = y) by omega)]
    simp)
  have q1 := beq_t hm
  have q2 := beq_fl hd
  clear hm hd
  clear ho
  go_enter Tryd.func14, Tryd.ntmps14
  go_wp2_with (go_at_call 11; refine (check_any k a d _).mono ?_; rintro e w1 ⟨rfl, hb⟩; have c0 := hb.cell (p := ⟨w.heap.size, 0, none⟩) (by simp); have c1 := hb.cell (p := ⟨w.heap.size, 1, none⟩) (by simp); have c2 := hb.cell (p := ⟨w.heap.size, 2, none⟩) (by simp); simp at c0 c1 c2; have hz : w.heap.size < w1.heap.size := (by have := hb.size; simp at this; omega); have hT1 : Tab w1 := Tab.below (by repeat (first | exact hT | apply Tab.drewN | apply Tab.drew | apply Tab.alloc)) hb; have HB := Lib.hid (below_then (w := w) (by repeat (first | exact Below.refl _ _ | refine below_drewN ?_ _ | apply Below.drew | refine Below.setCell ?_ (by simp <;> omega) _ | refine Below.alloc ?_ (by simp <;> omega) _)) hb); clear hb; rw [HC.out])
  go_quiet ((go_at_call 19; exact Calls.quiet_of (len_any _ _ _ (hT1.drewN _))))
  go_wp2_with fail
  go_ret
  exact ⟨ret_bool (by rw [H.out]), by repeat (first | exact HB.out | exact Below.refl _ _ | refine below_drewN ?_ _ | apply Below.drew | refine Below.setCell ?_ (by have := HB.out.size; simp <;> omega) _ | refine Below.alloc ?_ (by have := HB.out.size; simp <;> omega) _)⟩

set_option maxHeartbeats 1000000 in
theorem alw_n2c (x y m k a d : Int) (w : World) (hT : Tab w) (m1 : 1 ≤ m) (m2 : m ≤ 12) (ho : Day.okB k a d = true) (h : Cal.len 2023 m < d) (hy : 1048576 ≤ y) (hxy : y < x) (hm : m = 2) (hd : d ≠ 29) :
    Calls Tryd.prog 14 #[.int .i64 x, .int .i64 y, .int .i64 m, .agg #[.int .i64 k, .int .i64 a, .int .i64 d]] w fun e w' => e = .returned (.bool (Day.alw x y m k a d)) ∧ Below w.heap.size w w' := by
  have HC := Lib.hid (show Day.chk k a d = 0 by unfold Day.chk; rw [if_pos ho])
  have lb := Cal.len_bd 2023 m
  have H := Lib.hid (show Day.alw x y m k a d = false by
    unfold Day.alw
    rw [ho, dec_tr (show 1 ≤ m ∧ m ≤ 12 from ⟨m1, m2⟩)]
    rw [dec_fl (show ¬ d ≤ Cal.len 2023 m by omega), dec_fl (show ¬ (y < x ∧ y < 1048576) by omega), dec_fl (show ¬ (m = 2 ∧ d = 29 ∧ y < 1048576 ∧ x = y) by omega)]
    simp)
  have q1 := beq_t hm
  have q2 := beq_fl hd
  clear hm hd
  clear ho
  go_enter Tryd.func14, Tryd.ntmps14
  go_wp2_with (go_at_call 11; refine (check_any k a d _).mono ?_; rintro e w1 ⟨rfl, hb⟩; have c0 := hb.cell (p := ⟨w.heap.size, 0, none⟩) (by simp); have c1 := hb.cell (p := ⟨w.heap.size, 1, none⟩) (by simp); have c2 := hb.cell (p := ⟨w.heap.size, 2, none⟩) (by simp); simp at c0 c1 c2; have hz : w.heap.size < w1.heap.size := (by have := hb.size; simp at this; omega); have hT1 : Tab w1 := Tab.below (by repeat (first | exact hT | apply Tab.drewN | apply Tab.drew | apply Tab.alloc)) hb; have HB := Lib.hid (below_then (w := w) (by repeat (first | exact Below.refl _ _ | refine below_drewN ?_ _ | apply Below.drew | refine Below.setCell ?_ (by simp <;> omega) _ | refine Below.alloc ?_ (by simp <;> omega) _)) hb); clear hb; rw [HC.out])
  go_quiet ((go_at_call 19; exact Calls.quiet_of (len_any _ _ _ (hT1.drewN _))))
  go_wp2_with fail
  go_ret
  exact ⟨ret_bool (by rw [H.out]), by repeat (first | exact HB.out | exact Below.refl _ _ | refine below_drewN ?_ _ | apply Below.drew | refine Below.setCell ?_ (by have := HB.out.size; simp <;> omega) _ | refine Below.alloc ?_ (by have := HB.out.size; simp <;> omega) _)⟩

set_option maxHeartbeats 1000000 in
theorem alw_f1 (x y m k a d : Int) (w : World) (hT : Tab w) (m1 : 1 ≤ m) (m2 : m ≤ 12) (ho : Day.okB k a d = true) (h : Cal.len 2023 m < d) (hy : 1048576 ≤ y) (hxy : x ≤ y) (hm : m = 2) (hd : d = 29) :
    Calls Tryd.prog 14 #[.int .i64 x, .int .i64 y, .int .i64 m, .agg #[.int .i64 k, .int .i64 a, .int .i64 d]] w fun e w' => e = .returned (.bool (Day.alw x y m k a d)) ∧ Below w.heap.size w w' := by
  have HC := Lib.hid (show Day.chk k a d = 0 by unfold Day.chk; rw [if_pos ho])
  have lb := Cal.len_bd 2023 m
  have H := Lib.hid (show Day.alw x y m k a d = false by
    unfold Day.alw
    rw [ho, dec_tr (show 1 ≤ m ∧ m ≤ 12 from ⟨m1, m2⟩)]
    rw [dec_fl (show ¬ d ≤ Cal.len 2023 m by omega), dec_fl (show ¬ (y < x ∧ y < 1048576) by omega), dec_fl (show ¬ (m = 2 ∧ d = 29 ∧ y < 1048576 ∧ x = y) by omega)]
    simp)
  have q1 := beq_t hm
  have q2 := beq_t hd
  clear hm hd
  clear ho
  go_enter Tryd.func14, Tryd.ntmps14
  go_wp2_with (go_at_call 11; refine (check_any k a d _).mono ?_; rintro e w1 ⟨rfl, hb⟩; have c0 := hb.cell (p := ⟨w.heap.size, 0, none⟩) (by simp); have c1 := hb.cell (p := ⟨w.heap.size, 1, none⟩) (by simp); have c2 := hb.cell (p := ⟨w.heap.size, 2, none⟩) (by simp); simp at c0 c1 c2; have hz : w.heap.size < w1.heap.size := (by have := hb.size; simp at this; omega); have hT1 : Tab w1 := Tab.below (by repeat (first | exact hT | apply Tab.drewN | apply Tab.drew | apply Tab.alloc)) hb; have HB := Lib.hid (below_then (w := w) (by repeat (first | exact Below.refl _ _ | refine below_drewN ?_ _ | apply Below.drew | refine Below.setCell ?_ (by simp <;> omega) _ | refine Below.alloc ?_ (by simp <;> omega) _)) hb); clear hb; rw [HC.out])
  go_quiet ((go_at_call 19; exact Calls.quiet_of (len_any _ _ _ (hT1.drewN _))))
  go_wp2_with fail
  go_ret
  exact ⟨ret_bool (by rw [H.out]), by repeat (first | exact HB.out | exact Below.refl _ _ | refine below_drewN ?_ _ | apply Below.drew | refine Below.setCell ?_ (by have := HB.out.size; simp <;> omega) _ | refine Below.alloc ?_ (by have := HB.out.size; simp <;> omega) _)⟩

set_option maxHeartbeats 1000000 in
theorem alw_f2 (x y m k a d : Int) (w : World) (hT : Tab w) (m1 : 1 ≤ m) (m2 : m ≤ 12) (ho : Day.okB k a d = true) (h : Cal.len 2023 m < d) (hy : 1048576 ≤ y) (hxy : y < x) (hm : m = 2) (hd : d = 29) :
    Calls Tryd.prog 14 #[.int .i64 x, .int .i64 y, .int .i64 m, .agg #[.int .i64 k, .int .i64 a, .int .i64 d]] w fun e w' => e = .returned (.bool (Day.alw x y m k a d)) ∧ Below w.heap.size w w' := by
  have HC := Lib.hid (show Day.chk k a d = 0 by unfold Day.chk; rw [if_pos ho])
  have lb := Cal.len_bd 2023 m
  have H := Lib.hid (show Day.alw x y m k a d = false by
    unfold Day.alw
    rw [ho, dec_tr (show 1 ≤ m ∧ m ≤ 12 from ⟨m1, m2⟩)]
    rw [dec_fl (show ¬ d ≤ Cal.len 2023 m by omega), dec_fl (show ¬ (y < x ∧ y < 1048576) by omega), dec_fl (show ¬ (m = 2 ∧ d = 29 ∧ y < 1048576 ∧ x = y) by omega)]
    simp)
  have q1 := beq_t hm
  have q2 := beq_t hd
  clear hm hd
  clear ho
  go_enter Tryd.func14, Tryd.ntmps14
  go_wp2_with (go_at_call 11; refine (check_any k a d _).mono ?_; rintro e w1 ⟨rfl, hb⟩; have c0 := hb.cell (p := ⟨w.heap.size, 0, none⟩) (by simp); have c1 := hb.cell (p := ⟨w.heap.size, 1, none⟩) (by simp); have c2 := hb.cell (p := ⟨w.heap.size, 2, none⟩) (by simp); simp at c0 c1 c2; have hz : w.heap.size < w1.heap.size := (by have := hb.size; simp at this; omega); have hT1 : Tab w1 := Tab.below (by repeat (first | exact hT | apply Tab.drewN | apply Tab.drew | apply Tab.alloc)) hb; have HB := Lib.hid (below_then (w := w) (by repeat (first | exact Below.refl _ _ | refine below_drewN ?_ _ | apply Below.drew | refine Below.setCell ?_ (by simp <;> omega) _ | refine Below.alloc ?_ (by simp <;> omega) _)) hb); clear hb; rw [HC.out])
  go_quiet ((go_at_call 19; exact Calls.quiet_of (len_any _ _ _ (hT1.drewN _))))
  go_wp2_with fail
  go_ret
  exact ⟨ret_bool (by rw [H.out]), by repeat (first | exact HB.out | exact Below.refl _ _ | refine below_drewN ?_ _ | apply Below.drew | refine Below.setCell ?_ (by have := HB.out.size; simp <;> omega) _ | refine Below.alloc ?_ (by have := HB.out.size; simp <;> omega) _)⟩

set_option maxHeartbeats 1000000 in
theorem alw_f3 (x y m k a d : Int) (w : World) (hT : Tab w) (m1 : 1 ≤ m) (m2 : m ≤ 12) (ho : Day.okB k a d = true) (h : Cal.len 2023 m < d) (hy : y < 1048576) (hxy : x < y) (hm : m = 2) (hd : d = 29) :
    Calls Tryd.prog 14 #[.int .i64 x, .int .i64 y, .int .i64 m, .agg #[.int .i64 k, .int .i64 a, .int .i64 d]] w fun e w' => e = .returned (.bool (Day.alw x y m k a d)) ∧ Below w.heap.size w w' := by
  have HC := Lib.hid (show Day.chk k a d = 0 by unfold Day.chk; rw [if_pos ho])
  have lb := Cal.len_bd 2023 m
  have H := Lib.hid (show Day.alw x y m k a d = false by
    unfold Day.alw
    rw [ho, dec_tr (show 1 ≤ m ∧ m ≤ 12 from ⟨m1, m2⟩)]
    rw [dec_fl (show ¬ d ≤ Cal.len 2023 m by omega), dec_fl (show ¬ (y < x ∧ y < 1048576) by omega), dec_fl (show ¬ (m = 2 ∧ d = 29 ∧ y < 1048576 ∧ x = y) by omega)]
    simp)
  have q1 := beq_t hm
  have q2 := beq_t hd
  have q3 := beq_fl (show x ≠ y by omega)
  clear hm hd
  clear ho
  go_enter Tryd.func14, Tryd.ntmps14
  go_wp2_with (go_at_call 11; refine (check_any k a d _).mono ?_; rintro e w1 ⟨rfl, hb⟩; have c0 := hb.cell (p := ⟨w.heap.size, 0, none⟩) (by simp); have c1 := hb.cell (p := ⟨w.heap.size, 1, none⟩) (by simp); have c2 := hb.cell (p := ⟨w.heap.size, 2, none⟩) (by simp); simp at c0 c1 c2; have hz : w.heap.size < w1.heap.size := (by have := hb.size; simp at this; omega); have hT1 : Tab w1 := Tab.below (by repeat (first | exact hT | apply Tab.drewN | apply Tab.drew | apply Tab.alloc)) hb; have HB := Lib.hid (below_then (w := w) (by repeat (first | exact Below.refl _ _ | refine below_drewN ?_ _ | apply Below.drew | refine Below.setCell ?_ (by simp <;> omega) _ | refine Below.alloc ?_ (by simp <;> omega) _)) hb); clear hb; rw [HC.out])
  go_quiet ((go_at_call 19; exact Calls.quiet_of (len_any _ _ _ (hT1.drewN _))))
  go_wp2_with fail
  go_ret
  exact ⟨ret_bool (by rw [H.out]), by repeat (first | exact HB.out | exact Below.refl _ _ | refine below_drewN ?_ _ | apply Below.drew | refine Below.setCell ?_ (by have := HB.out.size; simp <;> omega) _ | refine Below.alloc ?_ (by have := HB.out.size; simp <;> omega) _)⟩

set_option maxHeartbeats 1000000 in
theorem alw_f4 (x y m k a d : Int) (w : World) (hT : Tab w) (m1 : 1 ≤ m) (m2 : m ≤ 12) (ho : Day.okB k a d = true) (h : Cal.len 2023 m < d) (hy : y < 1048576) (hxy : x = y) (hm : m = 2) (hd : d = 29) :
    Calls Tryd.prog 14 #[.int .i64 x, .int .i64 y, .int .i64 m, .agg #[.int .i64 k, .int .i64 a, .int .i64 d]] w fun e w' => e = .returned (.bool (Day.alw x y m k a d)) ∧ Below w.heap.size w w' := by
  have HC := Lib.hid (show Day.chk k a d = 0 by unfold Day.chk; rw [if_pos ho])
  have lb := Cal.len_bd 2023 m
  have H := Lib.hid (show Day.alw x y m k a d = Cal.lpB x by
    unfold Day.alw
    rw [ho, dec_tr (show 1 ≤ m ∧ m ≤ 12 from ⟨m1, m2⟩)]
    rw [dec_fl (show ¬ d ≤ Cal.len 2023 m by omega), dec_fl (show ¬ (y < x ∧ y < 1048576) by omega), dec_tr (show m = 2 ∧ d = 29 ∧ y < 1048576 ∧ x = y from ⟨hm, hd, hy, hxy⟩)]
    simp)
  have q1 := beq_t hm
  have q2 := beq_t hd
  have q3 := beq_t hxy
  have q4 : x ≤ y := by omega
  have q5 : decide (1048576 ≤ y) = false := dec_fl (by omega)
  clear hm hd hxy
  clear ho
  go_enter Tryd.func14, Tryd.ntmps14
  go_wp2_with (go_at_call 11; refine (check_any k a d _).mono ?_; rintro e w1 ⟨rfl, hb⟩; have c0 := hb.cell (p := ⟨w.heap.size, 0, none⟩) (by simp); have c1 := hb.cell (p := ⟨w.heap.size, 1, none⟩) (by simp); have c2 := hb.cell (p := ⟨w.heap.size, 2, none⟩) (by simp); simp at c0 c1 c2; have hz : w.heap.size < w1.heap.size := (by have := hb.size; simp at this; omega); have hT1 : Tab w1 := Tab.below (by repeat (first | exact hT | apply Tab.drewN | apply Tab.drew | apply Tab.alloc)) hb; have HB := Lib.hid (below_then (w := w) (by repeat (first | exact Below.refl _ _ | refine below_drewN ?_ _ | apply Below.drew | refine Below.setCell ?_ (by simp <;> omega) _ | refine Below.alloc ?_ (by simp <;> omega) _)) hb); clear hb; rw [HC.out])
  go_quiet ((go_at_call 19; exact Calls.quiet_of (len_any _ _ _ (hT1.drewN _))))
  go_wp2_with (go_at_call 32; refine (leap_any _ _).mono ?_; rintro e w' ⟨rfl, rfl⟩)
  go_ret
  exact ⟨ret_bool (by rw [H.out]), by repeat (first | exact HB.out | exact Below.refl _ _ | refine below_drewN ?_ _ | apply Below.drew | refine Below.setCell ?_ (by have := HB.out.size; simp <;> omega) _ | refine Below.alloc ?_ (by have := HB.out.size; simp <;> omega) _)⟩

theorem always_any (x y m k a d : Int) (w : World) (hT : Tab w) :
    Calls Tryd.prog 14 #[.int .i64 x, .int .i64 y, .int .i64 m, .agg #[.int .i64 k, .int .i64 a, .int .i64 d]] w fun e w' => e = .returned (.bool (Day.alw x y m k a d)) ∧ Below w.heap.size w w' := by
  by_cases hm : m < 1 ∨ 12 < m
  · exact alw_m x y m k a d w hm
  have m1 : 1 ≤ m := by omega
  have m2 : m ≤ 12 := by omega
  cases ho : Day.okB k a d
  · exact alw_arg x y m k a d w hT m1 m2 ho
  by_cases h : d ≤ Cal.len 2023 m
  · exact alw_c1 x y m k a d w hT m1 m2 ho h
  have h' : Cal.len 2023 m < d := by omega
  by_cases hy : y < 1048576
  · by_cases hxy : y < x
    · exact alw_e1 x y m k a d w hT m1 m2 ho h' hy hxy
    · by_cases e1 : m = 2
      · by_cases e2 : d = 29
        · by_cases e3 : x = y
          · exact alw_f4 x y m k a d w hT m1 m2 ho h' hy e3 e1 e2
          · exact alw_f3 x y m k a d w hT m1 m2 ho h' hy (by omega) e1 e2
        · exact alw_n2a x y m k a d w hT m1 m2 ho h' hy (by omega) e1 e2
      · exact alw_n1a x y m k a d w hT m1 m2 ho h' hy (by omega) e1
  · by_cases hxy : y < x
    · by_cases e1 : m = 2
      · by_cases e2 : d = 29
        · exact alw_f2 x y m k a d w hT m1 m2 ho h' (by omega) hxy e1 e2
        · exact alw_n2c x y m k a d w hT m1 m2 ho h' (by omega) hxy e1 e2
      · exact alw_n1c x y m k a d w hT m1 m2 ho h' (by omega) hxy e1
    · by_cases e1 : m = 2
      · by_cases e2 : d = 29
        · exact alw_f1 x y m k a d w hT m1 m2 ho h' (by omega) (by omega) e1 e2
        · exact alw_n2b x y m k a d w hT m1 m2 ho h' (by omega) (by omega) e1 e2
      · exact alw_n1b x y m k a d w hT m1 m2 ho h' (by omega) (by omega) e1
end Go.Proofs.YtljbgkfoljjgbaaDoor
