/-
  Package dayform: the day that a form means.
-/
import Derived.Test.YtljbgkfoljjgbaaDoorDayA
import Derived.Test.YtljbgkfoljjgbaaDoorDayA3
namespace Go.Proofs.YtljbgkfoljjgbaaDoor
set_option linter.unusedVariables false
set_option linter.unusedSimpArgs false
open Go.RowKit

set_option maxHeartbeats 400000 in
theorem dayOf_any (k a d fs : Int) (w : World) (h1 : -800000000000 ≤ fs) (h2 : fs ≤ 800000000000) (d1 : 0 ≤ d) (d2 : d ≤ 31) :
    Calls Tryd.prog 40 #[.agg #[.int .i64 k, .int .i64 a, .int .i64 d], .int .i64 fs] w fun e w' => e = .returned (.int .i64 (fs + d - 1)) ∧ w.alloc (.cells #[.int .i64 k, .int .i64 a, .int .i64 d] 23) = w' := by
  go_enter Tryd.func40, Tryd.ntmps40
  go_wp2
  go_ret
  exact ⟨rfl, rfl⟩

set_option maxHeartbeats 400000 in
theorem back_any (a n : Int) (w : World) (h1 : -800000000000 ≤ n) (h2 : n ≤ 800000000000) (a1 : 0 ≤ a) (a2 : a ≤ 6) :
    Calls Tryd.prog 42 #[.int .i64 a, .int .i64 n] w fun e w' => e = .returned (.int .i64 (Day.back a n)) ∧ w = w' := by
  go_enter Tryd.func42, Tryd.ntmps42
  go_wp2_with (go_at_call 20; refine (weekday_any _ _ (by omega) (by omega)).mono ?_; rintro e w' ⟨rfl, rfl⟩)
  go_ret
  exact ⟨rfl, rfl⟩

set_option maxHeartbeats 400000 in
theorem on1_any (k a d fs l : Int) (w : World) (h1 : -790000000000 ≤ fs) (h2 : fs ≤ 790000000000) (l1 : -790000000000 ≤ l) (l2 : l ≤ 790000000000) (d1 : 1 ≤ d) (d2 : d ≤ 31) :
    Calls Tryd.prog 39 #[.agg #[.int .i64 k, .int .i64 a, .int .i64 d], .int .i64 fs, .int .i64 l] w fun e w' => e = .returned (.int .i64 (Day.on 1 a d fs l)) ∧ Below w.heap.size w w' := by
  have b3 := Day.back_bd a l
  go_enter Tryd.func39, Tryd.ntmps39
  go_wp2_with (first | (go_at_call 40; refine (dayOf_any _ _ _ _ _ (by omega) (by omega) (by omega) (by omega)).mono ?_; rintro e w' ⟨rfl, rfl⟩) | (go_at_call 42; refine (back_any _ _ _ (by omega) (by omega) (by omega) (by omega)).mono ?_; rintro e w' ⟨rfl, rfl⟩))
  go_ret
  exact ⟨rfl, by repeat (first | exact Below.refl _ _ | refine below_drewN ?_ _ | apply Below.drew | refine Below.setCell ?_ (by simp <;> omega) _ | refine Below.alloc ?_ (by simp <;> omega) _)⟩

set_option maxHeartbeats 400000 in
theorem on2_any (k a d fs l : Int) (w : World) (h1 : -790000000000 ≤ fs) (h2 : fs ≤ 790000000000) (l1 : -790000000000 ≤ l) (l2 : l ≤ 790000000000) (a1 : 0 ≤ a) (a2 : a ≤ 6) :
    Calls Tryd.prog 41 #[.agg #[.int .i64 k, .int .i64 a, .int .i64 d], .int .i64 fs, .int .i64 l] w fun e w' => e = .returned (.int .i64 (Day.on 2 a d fs l)) ∧ Below w.heap.size w w' := by
  have b3 := Day.back_bd a l
  go_enter Tryd.func41, Tryd.ntmps41
  go_wp2_with (first | (go_at_call 40; refine (dayOf_any _ _ _ _ _ (by omega) (by omega) (by omega) (by omega)).mono ?_; rintro e w' ⟨rfl, rfl⟩) | (go_at_call 42; refine (back_any _ _ _ (by omega) (by omega) (by omega) (by omega)).mono ?_; rintro e w' ⟨rfl, rfl⟩))
  go_ret
  exact ⟨rfl, by repeat (first | exact Below.refl _ _ | refine below_drewN ?_ _ | apply Below.drew | refine Below.setCell ?_ (by simp <;> omega) _ | refine Below.alloc ?_ (by simp <;> omega) _)⟩

set_option maxHeartbeats 400000 in
theorem on3_any (k a d fs l : Int) (w : World) (h1 : -790000000000 ≤ fs) (h2 : fs ≤ 790000000000) (l1 : -790000000000 ≤ l) (l2 : l ≤ 790000000000) (a1 : 0 ≤ a) (a2 : a ≤ 6) (d1 : 1 ≤ d) (d2 : d ≤ 31) :
    Calls Tryd.prog 43 #[.agg #[.int .i64 k, .int .i64 a, .int .i64 d], .int .i64 fs, .int .i64 l] w fun e w' => e = .returned (.int .i64 (Day.on 3 a d fs l)) ∧ Below w.heap.size w w' := by
  have b3 := Day.back_bd a (fs + d - 1 + 6)
  go_enter Tryd.func43, Tryd.ntmps43
  go_wp2_with (first | (go_at_call 40; refine (dayOf_any _ _ _ _ _ (by omega) (by omega) (by omega) (by omega)).mono ?_; rintro e w' ⟨rfl, rfl⟩) | (go_at_call 42; refine (back_any _ _ _ (by omega) (by omega) (by omega) (by omega)).mono ?_; rintro e w' ⟨rfl, rfl⟩))
  go_ret
  exact ⟨rfl, by repeat (first | exact Below.refl _ _ | refine below_drewN ?_ _ | apply Below.drew | refine Below.setCell ?_ (by simp <;> omega) _ | refine Below.alloc ?_ (by simp <;> omega) _)⟩

set_option maxHeartbeats 400000 in
theorem on4_any (k a d fs l : Int) (w : World) (h1 : -790000000000 ≤ fs) (h2 : fs ≤ 790000000000) (l1 : -790000000000 ≤ l) (l2 : l ≤ 790000000000) (a1 : 0 ≤ a) (a2 : a ≤ 6) (d1 : 1 ≤ d) (d2 : d ≤ 31) :
    Calls Tryd.prog 44 #[.agg #[.int .i64 k, .int .i64 a, .int .i64 d], .int .i64 fs, .int .i64 l] w fun e w' => e = .returned (.int .i64 (Day.on 4 a d fs l)) ∧ Below w.heap.size w w' := by
  have b3 := Day.back_bd a (fs + d - 1)
  go_enter Tryd.func44, Tryd.ntmps44
  go_wp2_with (first | (go_at_call 40; refine (dayOf_any _ _ _ _ _ (by omega) (by omega) (by omega) (by omega)).mono ?_; rintro e w' ⟨rfl, rfl⟩) | (go_at_call 42; refine (back_any _ _ _ (by omega) (by omega) (by omega) (by omega)).mono ?_; rintro e w' ⟨rfl, rfl⟩))
  go_ret
  exact ⟨rfl, by repeat (first | exact Below.refl _ _ | refine below_drewN ?_ _ | apply Below.drew | refine Below.setCell ?_ (by simp <;> omega) _ | refine Below.alloc ?_ (by simp <;> omega) _)⟩

theorem below_then {w W w1 : World} (hW : Below w.heap.size w W) (hb : Below W.heap.size W w1) : Below w.heap.size w w1 := hW.trans (hb.mono hW.size)

set_option maxHeartbeats 1000000 in
theorem on_range (y m k a d : Int) (w : World) (hT : Tab w) (h : Day.inB y m = false) :
    Calls Tryd.prog 9 #[.int .i64 y, .int .i64 m, .agg #[.int .i64 k, .int .i64 a, .int .i64 d]] w fun e w' => e = .returned (.tuple #[.int .i64 0, .int .i64 3]) ∧ Below w.heap.size w w' := by
  have h' : ¬ Day.inB y m = true := by simp [h]
  rw [Day.inB_iff] at h'
  have hb := Lib.hid (show y < -2000000000 ∨ 2000000000 < y ∨ (1 : Int) < 1 ∨ Cal.len y m < 1 by
    by_cases c : 1 ≤ m ∧ m ≤ 12
    · omega
    · rw [Cal.len_out (by omega)]; omega)
  clear h h'
  go_enter Tryd.func9, Tryd.ntmps9
  go_wp2_with (go_at_call 18; refine (days_bad y m 1 _ (by repeat (first | exact hT | apply Tab.drewN | apply Tab.drew | apply Tab.alloc)) hb.out).mono ?_; rintro e w' ⟨rfl, n, rfl⟩)
  go_ret2
  exact ⟨rfl, by repeat (first | exact Below.refl _ _ | refine below_drewN ?_ _ | apply Below.drew | refine Below.setCell ?_ (by simp <;> omega) _ | refine Below.alloc ?_ (by simp <;> omega) _)⟩

theorem inB_ok {y m : Int} (h : Day.inB y m = true) : Cal.Ok y m 1 := by
  rw [Day.inB_iff] at h
  exact ⟨h.2.2.1, h.2.2.2, by omega, by have := Cal.len_in (y := y) h.2.2.1 h.2.2.2; omega⟩

set_option maxHeartbeats 1000000 in
theorem on_arg (y m k a d : Int) (w : World) (hT : Tab w) (h : Day.inB y m = true) (h2 : Day.okB k a d = false) :
    Calls Tryd.prog 9 #[.int .i64 y, .int .i64 m, .agg #[.int .i64 k, .int .i64 a, .int .i64 d]] w fun e w' => e = .returned (.tuple #[.int .i64 0, .int .i64 2]) ∧ Below w.heap.size w w' := by
  have ok := Lib.hid (inB_ok h)
  rw [Day.inB_iff] at h
  obtain ⟨y1, y2, m1, m2⟩ := h
  have H2 := Lib.hid h2
  clear h2
  go_enter Tryd.func9, Tryd.ntmps9
  go_wp2_with (first | (go_at_call 18; refine (days_ok y m 1 _ (by repeat (first | exact hT | apply Tab.drewN | apply Tab.drew | apply Tab.alloc)) y1 y2 ok.out).mono ?_; rintro e w' ⟨rfl, n, rfl⟩) | (go_at_call 26; refine (find_bad k a d _ H2.out).mono ?_; rintro e w1 ⟨rfl, hb⟩; have c0 := hb.cell (p := ⟨w.heap.size, 0, none⟩) (by simp); have c1 := hb.cell (p := ⟨w.heap.size, 1, none⟩) (by simp); have c2 := hb.cell (p := ⟨w.heap.size, 2, none⟩) (by simp); simp at c0 c1 c2; have hz : w.heap.size < w1.heap.size := (by have := hb.size; simp at this; omega); have hT1 : Tab w1 := Tab.below (by repeat (first | exact hT | apply Tab.drewN | apply Tab.drew | apply Tab.alloc)) hb; have HB := Lib.hid (below_then (w := w) (by repeat (first | exact Below.refl _ _ | refine below_drewN ?_ _ | apply Below.drew | refine Below.setCell ?_ (by simp <;> omega) _ | refine Below.alloc ?_ (by simp <;> omega) _)) hb); clear hb))
  go_ret2
  exact ⟨rfl, by repeat (first | exact HB.out | exact Below.refl _ _ | refine below_drewN ?_ _ | apply Below.drew | refine Below.setCell ?_ (by have := HB.out.size; simp <;> omega) _ | refine Below.alloc ?_ (by have := HB.out.size; simp <;> omega) _)⟩

set_option maxHeartbeats 1000000 in
theorem on_ok1 (y m d : Int) (w : World) (hT : Tab w) (h : Day.inB y m = true) (d1 : 1 ≤ d) (d2 : d ≤ 31) (h4 : d ≤ Cal.len y m) :
    Calls Tryd.prog 9 #[.int .i64 y, .int .i64 m, .agg #[.int .i64 1, .int .i64 0, .int .i64 d]] w fun e w' => e = .returned (.tuple #[.int .i64 (Day.on 1 0 d (Day.fst y m) (Day.lst y m)), .int .i64 0]) ∧ Below w.heap.size w w' := by
  have ok := Lib.hid (inB_ok h)
  have fb := Day.fst_bd h
  rw [Day.inB_iff] at h
  obtain ⟨y1, y2, m1, m2⟩ := h
  have lb := Cal.len_bd y m
  unfold Day.fst at fb
  have HL := Lib.hid (show Cal.num y m 1 + Cal.len y m - 1 = Day.lst y m from rfl)
  go_enter Tryd.func9, Tryd.ntmps9
  go_wp2_with (first | (go_at_call 18; refine (days_ok y m 1 _ (by repeat (first | exact hT | apply Tab.drewN | apply Tab.drew | apply Tab.alloc)) y1 y2 ok.out).mono ?_; rintro e w' ⟨rfl, n, rfl⟩) | (go_at_call 26; refine (find_fixed d _ d1 d2).mono ?_; rintro e w1 ⟨rfl, hb⟩; have c0 := hb.cell (p := ⟨w.heap.size, 0, none⟩) (by simp); have c1 := hb.cell (p := ⟨w.heap.size, 1, none⟩) (by simp); have c2 := hb.cell (p := ⟨w.heap.size, 2, none⟩) (by simp); simp at c0 c1 c2; have hz : w.heap.size < w1.heap.size := (by have := hb.size; simp at this; omega); have hT1 : Tab w1 := Tab.below (by repeat (first | exact hT | apply Tab.drewN | apply Tab.drew | apply Tab.alloc)) hb; have HB := Lib.hid (below_then (w := w) (by repeat (first | exact Below.refl _ _ | refine below_drewN ?_ _ | apply Below.drew | refine Below.setCell ?_ (by simp <;> omega) _ | refine Below.alloc ?_ (by simp <;> omega) _)) hb); clear hb) | (go_at_call 19; refine (len_any _ _ _ (by repeat (first | exact hT1 | exact hT | apply Tab.drewN | apply Tab.drew | apply Tab.alloc))).mono ?_; rintro e w' ⟨rfl, n2, rfl⟩) | (go_at_call 39; refine (on1_any _ _ _ _ _ _ (by omega) (by omega) (by omega) (by omega) (by omega) (by omega)).mono ?_; rintro e w2 ⟨rfl, hb2⟩; have HB2 := Lib.hid hb2; clear hb2))
  go_ret2
  exact ⟨rfl, below_then (by repeat (first | exact HB.out | exact Below.refl _ _ | refine below_drewN ?_ _ | apply Below.drew | refine Below.setCell ?_ (by have := HB.out.size; simp <;> omega) _ | refine Below.alloc ?_ (by have := HB.out.size; simp <;> omega) _)) HB2.out⟩

set_option maxHeartbeats 1000000 in
theorem on_none1 (y m d : Int) (w : World) (hT : Tab w) (h : Day.inB y m = true) (d1 : 1 ≤ d) (d2 : d ≤ 31) (h4 : Cal.len y m < d) :
    Calls Tryd.prog 9 #[.int .i64 y, .int .i64 m, .agg #[.int .i64 1, .int .i64 0, .int .i64 d]] w fun e w' => e = .returned (.tuple #[.int .i64 0, .int .i64 4]) ∧ Below w.heap.size w w' := by
  have ok := Lib.hid (inB_ok h)
  have fb := Day.fst_bd h
  rw [Day.inB_iff] at h
  obtain ⟨y1, y2, m1, m2⟩ := h
  have lb := Cal.len_bd y m
  unfold Day.fst at fb
  go_enter Tryd.func9, Tryd.ntmps9
  go_wp2_with (first | (go_at_call 18; refine (days_ok y m 1 _ (by repeat (first | exact hT | apply Tab.drewN | apply Tab.drew | apply Tab.alloc)) y1 y2 ok.out).mono ?_; rintro e w' ⟨rfl, n, rfl⟩) | (go_at_call 26; refine (find_fixed d _ d1 d2).mono ?_; rintro e w1 ⟨rfl, hb⟩; have c0 := hb.cell (p := ⟨w.heap.size, 0, none⟩) (by simp); have c1 := hb.cell (p := ⟨w.heap.size, 1, none⟩) (by simp); have c2 := hb.cell (p := ⟨w.heap.size, 2, none⟩) (by simp); simp at c0 c1 c2; have hz : w.heap.size < w1.heap.size := (by have := hb.size; simp at this; omega); have hT1 : Tab w1 := Tab.below (by repeat (first | exact hT | apply Tab.drewN | apply Tab.drew | apply Tab.alloc)) hb; have HB := Lib.hid (below_then (w := w) (by repeat (first | exact Below.refl _ _ | refine below_drewN ?_ _ | apply Below.drew | refine Below.setCell ?_ (by simp <;> omega) _ | refine Below.alloc ?_ (by simp <;> omega) _)) hb); clear hb) | (go_at_call 19; refine (len_any _ _ _ (by repeat (first | exact hT1 | exact hT | apply Tab.drewN | apply Tab.drew | apply Tab.alloc))).mono ?_; rintro e w' ⟨rfl, n2, rfl⟩))
  go_ret2
  exact ⟨rfl, by repeat (first | exact HB.out | exact Below.refl _ _ | refine below_drewN ?_ _ | apply Below.drew | refine Below.setCell ?_ (by have := HB.out.size; simp <;> omega) _ | refine Below.alloc ?_ (by have := HB.out.size; simp <;> omega) _)⟩

set_option maxHeartbeats 1000000 in
theorem on_ok2 (y m a : Int) (w : World) (hT : Tab w) (h : Day.inB y m = true) (a1 : 0 ≤ a) (a2 : a ≤ 6) (h4 : 0 ≤ Cal.len y m) :
    Calls Tryd.prog 9 #[.int .i64 y, .int .i64 m, .agg #[.int .i64 2, .int .i64 a, .int .i64 0]] w fun e w' => e = .returned (.tuple #[.int .i64 (Day.on 2 a 0 (Day.fst y m) (Day.lst y m)), .int .i64 0]) ∧ Below w.heap.size w w' := by
  have ok := Lib.hid (inB_ok h)
  have fb := Day.fst_bd h
  rw [Day.inB_iff] at h
  obtain ⟨y1, y2, m1, m2⟩ := h
  have lb := Cal.len_bd y m
  unfold Day.fst at fb
  have HL := Lib.hid (show Cal.num y m 1 + Cal.len y m - 1 = Day.lst y m from rfl)
  go_enter Tryd.func9, Tryd.ntmps9
  go_wp2_with (first | (go_at_call 18; refine (days_ok y m 1 _ (by repeat (first | exact hT | apply Tab.drewN | apply Tab.drew | apply Tab.alloc)) y1 y2 ok.out).mono ?_; rintro e w' ⟨rfl, n, rfl⟩) | (go_at_call 26; refine (find_last a _ a1 a2).mono ?_; rintro e w1 ⟨rfl, hb⟩; have c0 := hb.cell (p := ⟨w.heap.size, 0, none⟩) (by simp); have c1 := hb.cell (p := ⟨w.heap.size, 1, none⟩) (by simp); have c2 := hb.cell (p := ⟨w.heap.size, 2, none⟩) (by simp); simp at c0 c1 c2; have hz : w.heap.size < w1.heap.size := (by have := hb.size; simp at this; omega); have hT1 : Tab w1 := Tab.below (by repeat (first | exact hT | apply Tab.drewN | apply Tab.drew | apply Tab.alloc)) hb; have HB := Lib.hid (below_then (w := w) (by repeat (first | exact Below.refl _ _ | refine below_drewN ?_ _ | apply Below.drew | refine Below.setCell ?_ (by simp <;> omega) _ | refine Below.alloc ?_ (by simp <;> omega) _)) hb); clear hb) | (go_at_call 19; refine (len_any _ _ _ (by repeat (first | exact hT1 | exact hT | apply Tab.drewN | apply Tab.drew | apply Tab.alloc))).mono ?_; rintro e w' ⟨rfl, n2, rfl⟩) | (go_at_call 41; refine (on2_any _ _ _ _ _ _ (by omega) (by omega) (by omega) (by omega) (by omega) (by omega)).mono ?_; rintro e w2 ⟨rfl, hb2⟩; have HB2 := Lib.hid hb2; clear hb2))
  go_ret2
  exact ⟨rfl, below_then (by repeat (first | exact HB.out | exact Below.refl _ _ | refine below_drewN ?_ _ | apply Below.drew | refine Below.setCell ?_ (by have := HB.out.size; simp <;> omega) _ | refine Below.alloc ?_ (by have := HB.out.size; simp <;> omega) _)) HB2.out⟩

set_option maxHeartbeats 1000000 in
theorem on_ok3 (y m a d : Int) (w : World) (hT : Tab w) (h : Day.inB y m = true) (a1 : 0 ≤ a) (a2 : a ≤ 6) (d1 : 1 ≤ d) (d2 : d ≤ 31) (h4 : d ≤ Cal.len y m) :
    Calls Tryd.prog 9 #[.int .i64 y, .int .i64 m, .agg #[.int .i64 3, .int .i64 a, .int .i64 d]] w fun e w' => e = .returned (.tuple #[.int .i64 (Day.on 3 a d (Day.fst y m) (Day.lst y m)), .int .i64 0]) ∧ Below w.heap.size w w' := by
  have ok := Lib.hid (inB_ok h)
  have fb := Day.fst_bd h
  rw [Day.inB_iff] at h
  obtain ⟨y1, y2, m1, m2⟩ := h
  have lb := Cal.len_bd y m
  unfold Day.fst at fb
  have HL := Lib.hid (show Cal.num y m 1 + Cal.len y m - 1 = Day.lst y m from rfl)
  go_enter Tryd.func9, Tryd.ntmps9
  go_wp2_with (first | (go_at_call 18; refine (days_ok y m 1 _ (by repeat (first | exact hT | apply Tab.drewN | apply Tab.drew | apply Tab.alloc)) y1 y2 ok.out).mono ?_; rintro e w' ⟨rfl, n, rfl⟩) | (go_at_call 26; refine (find_from a d _ a1 a2 d1 d2).mono ?_; rintro e w1 ⟨rfl, hb⟩; have c0 := hb.cell (p := ⟨w.heap.size, 0, none⟩) (by simp); have c1 := hb.cell (p := ⟨w.heap.size, 1, none⟩) (by simp); have c2 := hb.cell (p := ⟨w.heap.size, 2, none⟩) (by simp); simp at c0 c1 c2; have hz : w.heap.size < w1.heap.size := (by have := hb.size; simp at this; omega); have hT1 : Tab w1 := Tab.below (by repeat (first | exact hT | apply Tab.drewN | apply Tab.drew | apply Tab.alloc)) hb; have HB := Lib.hid (below_then (w := w) (by repeat (first | exact Below.refl _ _ | refine below_drewN ?_ _ | apply Below.drew | refine Below.setCell ?_ (by simp <;> omega) _ | refine Below.alloc ?_ (by simp <;> omega) _)) hb); clear hb) | (go_at_call 19; refine (len_any _ _ _ (by repeat (first | exact hT1 | exact hT | apply Tab.drewN | apply Tab.drew | apply Tab.alloc))).mono ?_; rintro e w' ⟨rfl, n2, rfl⟩) | (go_at_call 43; refine (on3_any _ _ _ _ _ _ (by omega) (by omega) (by omega) (by omega) (by omega) (by omega) (by omega) (by omega)).mono ?_; rintro e w2 ⟨rfl, hb2⟩; have HB2 := Lib.hid hb2; clear hb2))
  go_ret2
  exact ⟨rfl, below_then (by repeat (first | exact HB.out | exact Below.refl _ _ | refine below_drewN ?_ _ | apply Below.drew | refine Below.setCell ?_ (by have := HB.out.size; simp <;> omega) _ | refine Below.alloc ?_ (by have := HB.out.size; simp <;> omega) _)) HB2.out⟩

set_option maxHeartbeats 1000000 in
theorem on_none3 (y m a d : Int) (w : World) (hT : Tab w) (h : Day.inB y m = true) (a1 : 0 ≤ a) (a2 : a ≤ 6) (d1 : 1 ≤ d) (d2 : d ≤ 31) (h4 : Cal.len y m < d) :
    Calls Tryd.prog 9 #[.int .i64 y, .int .i64 m, .agg #[.int .i64 3, .int .i64 a, .int .i64 d]] w fun e w' => e = .returned (.tuple #[.int .i64 0, .int .i64 4]) ∧ Below w.heap.size w w' := by
  have ok := Lib.hid (inB_ok h)
  have fb := Day.fst_bd h
  rw [Day.inB_iff] at h
  obtain ⟨y1, y2, m1, m2⟩ := h
  have lb := Cal.len_bd y m
  unfold Day.fst at fb
  go_enter Tryd.func9, Tryd.ntmps9
  go_wp2_with (first | (go_at_call 18; refine (days_ok y m 1 _ (by repeat (first | exact hT | apply Tab.drewN | apply Tab.drew | apply Tab.alloc)) y1 y2 ok.out).mono ?_; rintro e w' ⟨rfl, n, rfl⟩) | (go_at_call 26; refine (find_from a d _ a1 a2 d1 d2).mono ?_; rintro e w1 ⟨rfl, hb⟩; have c0 := hb.cell (p := ⟨w.heap.size, 0, none⟩) (by simp); have c1 := hb.cell (p := ⟨w.heap.size, 1, none⟩) (by simp); have c2 := hb.cell (p := ⟨w.heap.size, 2, none⟩) (by simp); simp at c0 c1 c2; have hz : w.heap.size < w1.heap.size := (by have := hb.size; simp at this; omega); have hT1 : Tab w1 := Tab.below (by repeat (first | exact hT | apply Tab.drewN | apply Tab.drew | apply Tab.alloc)) hb; have HB := Lib.hid (below_then (w := w) (by repeat (first | exact Below.refl _ _ | refine below_drewN ?_ _ | apply Below.drew | refine Below.setCell ?_ (by simp <;> omega) _ | refine Below.alloc ?_ (by simp <;> omega) _)) hb); clear hb) | (go_at_call 19; refine (len_any _ _ _ (by repeat (first | exact hT1 | exact hT | apply Tab.drewN | apply Tab.drew | apply Tab.alloc))).mono ?_; rintro e w' ⟨rfl, n2, rfl⟩))
  go_ret2
  exact ⟨rfl, by repeat (first | exact HB.out | exact Below.refl _ _ | refine below_drewN ?_ _ | apply Below.drew | refine Below.setCell ?_ (by have := HB.out.size; simp <;> omega) _ | refine Below.alloc ?_ (by have := HB.out.size; simp <;> omega) _)⟩

set_option maxHeartbeats 1000000 in
theorem on_ok4 (y m a d : Int) (w : World) (hT : Tab w) (h : Day.inB y m = true) (a1 : 0 ≤ a) (a2 : a ≤ 6) (d1 : 1 ≤ d) (d2 : d ≤ 31) (h4 : d ≤ Cal.len y m) :
    Calls Tryd.prog 9 #[.int .i64 y, .int .i64 m, .agg #[.int .i64 4, .int .i64 a, .int .i64 d]] w fun e w' => e = .returned (.tuple #[.int .i64 (Day.on 4 a d (Day.fst y m) (Day.lst y m)), .int .i64 0]) ∧ Below w.heap.size w w' := by
  have ok := Lib.hid (inB_ok h)
  have fb := Day.fst_bd h
  rw [Day.inB_iff] at h
  obtain ⟨y1, y2, m1, m2⟩ := h
  have lb := Cal.len_bd y m
  unfold Day.fst at fb
  have HL := Lib.hid (show Cal.num y m 1 + Cal.len y m - 1 = Day.lst y m from rfl)
  go_enter Tryd.func9, Tryd.ntmps9
  go_wp2_with (first | (go_at_call 18; refine (days_ok y m 1 _ (by repeat (first | exact hT | apply Tab.drewN | apply Tab.drew | apply Tab.alloc)) y1 y2 ok.out).mono ?_; rintro e w' ⟨rfl, n, rfl⟩) | (go_at_call 26; refine (find_to a d _ a1 a2 d1 d2).mono ?_; rintro e w1 ⟨rfl, hb⟩; have c0 := hb.cell (p := ⟨w.heap.size, 0, none⟩) (by simp); have c1 := hb.cell (p := ⟨w.heap.size, 1, none⟩) (by simp); have c2 := hb.cell (p := ⟨w.heap.size, 2, none⟩) (by simp); simp at c0 c1 c2; have hz : w.heap.size < w1.heap.size := (by have := hb.size; simp at this; omega); have hT1 : Tab w1 := Tab.below (by repeat (first | exact hT | apply Tab.drewN | apply Tab.drew | apply Tab.alloc)) hb; have HB := Lib.hid (below_then (w := w) (by repeat (first | exact Below.refl _ _ | refine below_drewN ?_ _ | apply Below.drew | refine Below.setCell ?_ (by simp <;> omega) _ | refine Below.alloc ?_ (by simp <;> omega) _)) hb); clear hb) | (go_at_call 19; refine (len_any _ _ _ (by repeat (first | exact hT1 | exact hT | apply Tab.drewN | apply Tab.drew | apply Tab.alloc))).mono ?_; rintro e w' ⟨rfl, n2, rfl⟩) | (go_at_call 44; refine (on4_any _ _ _ _ _ _ (by omega) (by omega) (by omega) (by omega) (by omega) (by omega) (by omega) (by omega)).mono ?_; rintro e w2 ⟨rfl, hb2⟩; have HB2 := Lib.hid hb2; clear hb2))
  go_ret2
  exact ⟨rfl, below_then (by repeat (first | exact HB.out | exact Below.refl _ _ | refine below_drewN ?_ _ | apply Below.drew | refine Below.setCell ?_ (by have := HB.out.size; simp <;> omega) _ | refine Below.alloc ?_ (by have := HB.out.size; simp <;> omega) _)) HB2.out⟩

set_option maxHeartbeats 1000000 in
theorem on_none4 (y m a d : Int) (w : World) (hT : Tab w) (h : Day.inB y m = true) (a1 : 0 ≤ a) (a2 : a ≤ 6) (d1 : 1 ≤ d) (d2 : d ≤ 31) (h4 : Cal.len y m < d) :
    Calls Tryd.prog 9 #[.int .i64 y, .int .i64 m, .agg #[.int .i64 4, .int .i64 a, .int .i64 d]] w fun e w' => e = .returned (.tuple #[.int .i64 0, .int .i64 4]) ∧ Below w.heap.size w w' := by
  have ok := Lib.hid (inB_ok h)
  have fb := Day.fst_bd h
  rw [Day.inB_iff] at h
  obtain ⟨y1, y2, m1, m2⟩ := h
  have lb := Cal.len_bd y m
  unfold Day.fst at fb
  go_enter Tryd.func9, Tryd.ntmps9
  go_wp2_with (first | (go_at_call 18; refine (days_ok y m 1 _ (by repeat (first | exact hT | apply Tab.drewN | apply Tab.drew | apply Tab.alloc)) y1 y2 ok.out).mono ?_; rintro e w' ⟨rfl, n, rfl⟩) | (go_at_call 26; refine (find_to a d _ a1 a2 d1 d2).mono ?_; rintro e w1 ⟨rfl, hb⟩; have c0 := hb.cell (p := ⟨w.heap.size, 0, none⟩) (by simp); have c1 := hb.cell (p := ⟨w.heap.size, 1, none⟩) (by simp); have c2 := hb.cell (p := ⟨w.heap.size, 2, none⟩) (by simp); simp at c0 c1 c2; have hz : w.heap.size < w1.heap.size := (by have := hb.size; simp at this; omega); have hT1 : Tab w1 := Tab.below (by repeat (first | exact hT | apply Tab.drewN | apply Tab.drew | apply Tab.alloc)) hb; have HB := Lib.hid (below_then (w := w) (by repeat (first | exact Below.refl _ _ | refine below_drewN ?_ _ | apply Below.drew | refine Below.setCell ?_ (by simp <;> omega) _ | refine Below.alloc ?_ (by simp <;> omega) _)) hb); clear hb) | (go_at_call 19; refine (len_any _ _ _ (by repeat (first | exact hT1 | exact hT | apply Tab.drewN | apply Tab.drew | apply Tab.alloc))).mono ?_; rintro e w' ⟨rfl, n2, rfl⟩))
  go_ret2
  exact ⟨rfl, by repeat (first | exact HB.out | exact Below.refl _ _ | refine below_drewN ?_ _ | apply Below.drew | refine Below.setCell ?_ (by have := HB.out.size; simp <;> omega) _ | refine Below.alloc ?_ (by have := HB.out.size; simp <;> omega) _)⟩

theorem on_any (y m k a d : Int) (w : World) (hT : Tab w) :
    Calls Tryd.prog 9 #[.int .i64 y, .int .i64 m, .agg #[.int .i64 k, .int .i64 a, .int .i64 d]] w fun e w' => e = .returned (.tuple #[.int .i64 (Day.onV y m k a d), .int .i64 (Day.onE y m k a d)]) ∧ Below w.heap.size w w' := by
  cases hi : Day.inB y m
  · have hE := Day.onE_range (k := k) (w := a) (d := d) hi
    rw [Day.onV_bad (by omega), hE]
    exact on_range y m k a d w hT hi
  cases ho : Day.okB k a d
  · have hE := Day.onE_arg hi ho
    rw [Day.onV_bad (by omega), hE]
    exact on_arg y m k a d w hT hi ho
  have ho' := ho
  rw [Day.okB_iff] at ho'
  by_cases hn : Cal.len y m < d
  · have hE := Day.onE_none hi ho hn
    rw [Day.onV_bad (by omega), hE]
    have hl := (Cal.len_bd y m).1
    rcases ho' with ⟨rfl, rfl, d1, d2⟩ | ⟨rfl, _, _, rfl⟩ | ⟨rfl | rfl, a1, a2, d1, d2⟩
    · exact on_none1 y m d w hT hi d1 d2 hn
    · omega
    · exact on_none3 y m a d w hT hi a1 a2 d1 d2 hn
    · exact on_none4 y m a d w hT hi a1 a2 d1 d2 hn
  · have hE := Day.onE_ok hi ho hn
    rw [Day.onV_ok hE, hE]
    rcases ho' with ⟨rfl, rfl, d1, d2⟩ | ⟨rfl, a1, a2, rfl⟩ | ⟨rfl | rfl, a1, a2, d1, d2⟩
    · exact on_ok1 y m d w hT hi d1 d2 (by omega)
    · exact on_ok2 y m a w hT hi a1 a2 (by omega)
    · exact on_ok3 y m a d w hT hi a1 a2 d1 d2 (by omega)
    · exact on_ok4 y m a d w hT hi a1 a2 d1 d2 (by omega)

set_option maxHeartbeats 1000000 in
theorem check_bad (k a d : Int) (w : World) (h : Day.okB k a d = false) :
    Calls Tryd.prog 11 #[.agg #[.int .i64 k, .int .i64 a, .int .i64 d]] w fun e w' => e = .returned (.int .i64 2) ∧ Below w.heap.size w w' := by
  have H := Lib.hid h
  clear h
  go_enter Tryd.func11, Tryd.ntmps11
  go_wp2_with (go_at_call 26; refine (find_bad k a d _ H.out).mono ?_; rintro e w1 ⟨rfl, hb⟩; have hz : w.heap.size < w1.heap.size := (by have := hb.size; simp at this; omega); have HB := Lib.hid (below_then (w := w) (by repeat (first | exact Below.refl _ _ | refine below_drewN ?_ _ | apply Below.drew | refine Below.setCell ?_ (by simp <;> omega) _ | refine Below.alloc ?_ (by simp <;> omega) _)) hb); clear hb)
  go_ret
  exact ⟨rfl, by repeat (first | exact HB.out | exact Below.refl _ _ | refine below_drewN ?_ _ | apply Below.drew | refine Below.setCell ?_ (by have := HB.out.size; simp <;> omega) _ | refine Below.alloc ?_ (by have := HB.out.size; simp <;> omega) _)⟩

set_option maxHeartbeats 1000000 in
theorem check_ok1 (d : Int) (w : World) (d1 : 1 ≤ d) (d2 : d ≤ 31) :
    Calls Tryd.prog 11 #[.agg #[.int .i64 1, .int .i64 0, .int .i64 d]] w fun e w' => e = .returned (.int .i64 0) ∧ Below w.heap.size w w' := by
  go_enter Tryd.func11, Tryd.ntmps11
  go_wp2_with (go_at_call 26; refine (find_fixed d _ d1 d2).mono ?_; rintro e w1 ⟨rfl, hb⟩; have hz : w.heap.size < w1.heap.size := (by have := hb.size; simp at this; omega); have HB := Lib.hid (below_then (w := w) (by repeat (first | exact Below.refl _ _ | refine below_drewN ?_ _ | apply Below.drew | refine Below.setCell ?_ (by simp <;> omega) _ | refine Below.alloc ?_ (by simp <;> omega) _)) hb); clear hb)
  go_ret
  exact ⟨rfl, by repeat (first | exact HB.out | exact Below.refl _ _ | refine below_drewN ?_ _ | apply Below.drew | refine Below.setCell ?_ (by have := HB.out.size; simp <;> omega) _ | refine Below.alloc ?_ (by have := HB.out.size; simp <;> omega) _)⟩

set_option maxHeartbeats 1000000 in
theorem check_ok2 (a : Int) (w : World) (a1 : 0 ≤ a) (a2 : a ≤ 6) :
    Calls Tryd.prog 11 #[.agg #[.int .i64 2, .int .i64 a, .int .i64 0]] w fun e w' => e = .returned (.int .i64 0) ∧ Below w.heap.size w w' := by
  go_enter Tryd.func11, Tryd.ntmps11
  go_wp2_with (go_at_call 26; refine (find_last a _ a1 a2).mono ?_; rintro e w1 ⟨rfl, hb⟩; have hz : w.heap.size < w1.heap.size := (by have := hb.size; simp at this; omega); have HB := Lib.hid (below_then (w := w) (by repeat (first | exact Below.refl _ _ | refine below_drewN ?_ _ | apply Below.drew | refine Below.setCell ?_ (by simp <;> omega) _ | refine Below.alloc ?_ (by simp <;> omega) _)) hb); clear hb)
  go_ret
  exact ⟨rfl, by repeat (first | exact HB.out | exact Below.refl _ _ | refine below_drewN ?_ _ | apply Below.drew | refine Below.setCell ?_ (by have := HB.out.size; simp <;> omega) _ | refine Below.alloc ?_ (by have := HB.out.size; simp <;> omega) _)⟩

set_option maxHeartbeats 1000000 in
theorem check_ok3 (a d : Int) (w : World) (a1 : 0 ≤ a) (a2 : a ≤ 6) (d1 : 1 ≤ d) (d2 : d ≤ 31) :
    Calls Tryd.prog 11 #[.agg #[.int .i64 3, .int .i64 a, .int .i64 d]] w fun e w' => e = .returned (.int .i64 0) ∧ Below w.heap.size w w' := by
  go_enter Tryd.func11, Tryd.ntmps11
  go_wp2_with (go_at_call 26; refine (find_from a d _ a1 a2 d1 d2).mono ?_; rintro e w1 ⟨rfl, hb⟩; have hz : w.heap.size < w1.heap.size := (by have := hb.size; simp at this; omega); have HB := Lib.hid (below_then (w := w) (by repeat (first | exact Below.refl _ _ | refine below_drewN ?_ _ | apply Below.drew | refine Below.setCell ?_ (by simp <;> omega) _ | refine Below.alloc ?_ (by simp <;> omega) _)) hb); clear hb)
  go_ret
  exact ⟨rfl, by repeat (first | exact HB.out | exact Below.refl _ _ | refine below_drewN ?_ _ | apply Below.drew | refine Below.setCell ?_ (by have := HB.out.size; simp <;> omega) _ | refine Below.alloc ?_ (by have := HB.out.size; simp <;> omega) _)⟩

set_option maxHeartbeats 1000000 in
theorem check_ok4 (a d : Int) (w : World) (a1 : 0 ≤ a) (a2 : a ≤ 6) (d1 : 1 ≤ d) (d2 : d ≤ 31) :
    Calls Tryd.prog 11 #[.agg #[.int .i64 4, .int .i64 a, .int .i64 d]] w fun e w' => e = .returned (.int .i64 0) ∧ Below w.heap.size w w' := by
  go_enter Tryd.func11, Tryd.ntmps11
  go_wp2_with (go_at_call 26; refine (find_to a d _ a1 a2 d1 d2).mono ?_; rintro e w1 ⟨rfl, hb⟩; have hz : w.heap.size < w1.heap.size := (by have := hb.size; simp at this; omega); have HB := Lib.hid (below_then (w := w) (by repeat (first | exact Below.refl _ _ | refine below_drewN ?_ _ | apply Below.drew | refine Below.setCell ?_ (by simp <;> omega) _ | refine Below.alloc ?_ (by simp <;> omega) _)) hb); clear hb)
  go_ret
  exact ⟨rfl, by repeat (first | exact HB.out | exact Below.refl _ _ | refine below_drewN ?_ _ | apply Below.drew | refine Below.setCell ?_ (by have := HB.out.size; simp <;> omega) _ | refine Below.alloc ?_ (by have := HB.out.size; simp <;> omega) _)⟩

/-- The code of Check. -/
def Day.chk (k a d : Int) : Int := if Day.okB k a d = true then 0 else 2
theorem check_any (k a d : Int) (w : World) :
    Calls Tryd.prog 11 #[.agg #[.int .i64 k, .int .i64 a, .int .i64 d]] w fun e w' => e = .returned (.int .i64 (Day.chk k a d)) ∧ Below w.heap.size w w' := by
  unfold Day.chk
  cases ho : Day.okB k a d
  · exact check_bad k a d w ho
  · rw [if_pos rfl]
    rw [Day.okB_iff] at ho
    rcases ho with ⟨rfl, rfl, d1, d2⟩ | ⟨rfl, a1, a2, rfl⟩ | ⟨rfl | rfl, a1, a2, d1, d2⟩
    · exact check_ok1 d w d1 d2
    · exact check_ok2 a w a1 a2
    · exact check_ok3 a d w a1 a2 d1 d2
    · exact check_ok4 a d w a1 a2 d1 d2
end Go.Proofs.YtljbgkfoljjgbaaDoor
