/-
  Package dayform: forms that there are not.
-/
import Derived.Test.YtljbgkfoljjgbaaDoorDayA0
namespace Go.Proofs.YtljbgkfoljjgbaaDoor
set_option linter.unusedVariables false
set_option linter.unusedSimpArgs false
open Go.RowKit

set_option maxHeartbeats 2000000 in
theorem find_b3w1 (a d : Int) (w : World) (h : a < 0) :
    Calls Tryd.prog 26 #[.agg #[.int .i64 3, .int .i64 a, .int .i64 d]] w fun e w' => e = .returned (.tuple #[.agg #[.bool false, .bool false, .nilFunc], .bool false]) ∧ Below w.heap.size w w' := by
  have hi := idx3
  unfold kindsV at hi
  go_enter Tryd.func26, Tryd.ntmps26
  go_wp2_with fail
  go_region_with (go_at_call 35; refine (kinds_any _).mono ?_; rintro e w1 ⟨rfl, rfl⟩; unfold kindsV kindsA)
  all_goals
    go_wp2_with fail
    exact bodyPost_ret (v := .tuple #[.agg #[.bool false, .bool false, .nilFunc], .bool false]) (by simp [results, Tryd.results26, go_sem]) rfl ⟨rfl, by repeat (first | exact Below.refl _ _ | refine below_drewN ?_ _ | apply Below.drew | refine Below.setCell ?_ (by simp <;> omega) _ | refine Below.alloc ?_ (by simp <;> omega) _)⟩

set_option maxHeartbeats 2000000 in
theorem find_b3w2 (a d : Int) (w : World) (h0 : 0 ≤ a) (h : 6 < a) :
    Calls Tryd.prog 26 #[.agg #[.int .i64 3, .int .i64 a, .int .i64 d]] w fun e w' => e = .returned (.tuple #[.agg #[.bool false, .bool false, .nilFunc], .bool false]) ∧ Below w.heap.size w w' := by
  have hi := idx3
  unfold kindsV at hi
  go_enter Tryd.func26, Tryd.ntmps26
  go_wp2_with fail
  go_region_with (go_at_call 35; refine (kinds_any _).mono ?_; rintro e w1 ⟨rfl, rfl⟩; unfold kindsV kindsA)
  all_goals
    go_wp2_with fail
    exact bodyPost_ret (v := .tuple #[.agg #[.bool false, .bool false, .nilFunc], .bool false]) (by simp [results, Tryd.results26, go_sem]) rfl ⟨rfl, by repeat (first | exact Below.refl _ _ | refine below_drewN ?_ _ | apply Below.drew | refine Below.setCell ?_ (by simp <;> omega) _ | refine Below.alloc ?_ (by simp <;> omega) _)⟩

set_option maxHeartbeats 2000000 in
theorem find_b3d1 (a d : Int) (w : World) (h0 : 0 ≤ a) (h : a ≤ 6) (h1 : d < 1) :
    Calls Tryd.prog 26 #[.agg #[.int .i64 3, .int .i64 a, .int .i64 d]] w fun e w' => e = .returned (.tuple #[.agg #[.bool false, .bool false, .nilFunc], .bool false]) ∧ Below w.heap.size w w' := by
  have hi := idx3
  unfold kindsV at hi
  go_enter Tryd.func26, Tryd.ntmps26
  go_wp2_with fail
  go_region_with (go_at_call 35; refine (kinds_any _).mono ?_; rintro e w1 ⟨rfl, rfl⟩; unfold kindsV kindsA)
  all_goals
    go_wp2_with fail
    exact bodyPost_ret (v := .tuple #[.agg #[.bool false, .bool false, .nilFunc], .bool false]) (by simp [results, Tryd.results26, go_sem]) rfl ⟨rfl, by repeat (first | exact Below.refl _ _ | refine below_drewN ?_ _ | apply Below.drew | refine Below.setCell ?_ (by simp <;> omega) _ | refine Below.alloc ?_ (by simp <;> omega) _)⟩

set_option maxHeartbeats 2000000 in
theorem find_b3d2 (a d : Int) (w : World) (h0 : 0 ≤ a) (h : a ≤ 6) (h1 : 1 ≤ d) (h2 : 31 < d) :
    Calls Tryd.prog 26 #[.agg #[.int .i64 3, .int .i64 a, .int .i64 d]] w fun e w' => e = .returned (.tuple #[.agg #[.bool false, .bool false, .nilFunc], .bool false]) ∧ Below w.heap.size w w' := by
  have hi := idx3
  unfold kindsV at hi
  go_enter Tryd.func26, Tryd.ntmps26
  go_wp2_with fail
  go_region_with (go_at_call 35; refine (kinds_any _).mono ?_; rintro e w1 ⟨rfl, rfl⟩; unfold kindsV kindsA)
  all_goals
    go_wp2_with fail
    exact bodyPost_ret (v := .tuple #[.agg #[.bool false, .bool false, .nilFunc], .bool false]) (by simp [results, Tryd.results26, go_sem]) rfl ⟨rfl, by repeat (first | exact Below.refl _ _ | refine below_drewN ?_ _ | apply Below.drew | refine Below.setCell ?_ (by simp <;> omega) _ | refine Below.alloc ?_ (by simp <;> omega) _)⟩

set_option maxHeartbeats 2000000 in
theorem find_b4w1 (a d : Int) (w : World) (h : a < 0) :
    Calls Tryd.prog 26 #[.agg #[.int .i64 4, .int .i64 a, .int .i64 d]] w fun e w' => e = .returned (.tuple #[.agg #[.bool false, .bool false, .nilFunc], .bool false]) ∧ Below w.heap.size w w' := by
  have hi := idx4
  unfold kindsV at hi
  go_enter Tryd.func26, Tryd.ntmps26
  go_wp2_with fail
  go_region_with (go_at_call 35; refine (kinds_any _).mono ?_; rintro e w1 ⟨rfl, rfl⟩; unfold kindsV kindsA)
  all_goals
    go_wp2_with fail
    exact bodyPost_ret (v := .tuple #[.agg #[.bool false, .bool false, .nilFunc], .bool false]) (by simp [results, Tryd.results26, go_sem]) rfl ⟨rfl, by repeat (first | exact Below.refl _ _ | refine below_drewN ?_ _ | apply Below.drew | refine Below.setCell ?_ (by simp <;> omega) _ | refine Below.alloc ?_ (by simp <;> omega) _)⟩

set_option maxHeartbeats 2000000 in
theorem find_b4w2 (a d : Int) (w : World) (h0 : 0 ≤ a) (h : 6 < a) :
    Calls Tryd.prog 26 #[.agg #[.int .i64 4, .int .i64 a, .int .i64 d]] w fun e w' => e = .returned (.tuple #[.agg #[.bool false, .bool false, .nilFunc], .bool false]) ∧ Below w.heap.size w w' := by
  have hi := idx4
  unfold kindsV at hi
  go_enter Tryd.func26, Tryd.ntmps26
  go_wp2_with fail
  go_region_with (go_at_call 35; refine (kinds_any _).mono ?_; rintro e w1 ⟨rfl, rfl⟩; unfold kindsV kindsA)
  all_goals
    go_wp2_with fail
    exact bodyPost_ret (v := .tuple #[.agg #[.bool false, .bool false, .nilFunc], .bool false]) (by simp [results, Tryd.results26, go_sem]) rfl ⟨rfl, by repeat (first | exact Below.refl _ _ | refine below_drewN ?_ _ | apply Below.drew | refine Below.setCell ?_ (by simp <;> omega) _ | refine Below.alloc ?_ (by simp <;> omega) _)⟩

set_option maxHeartbeats 2000000 in
theorem find_b4d1 (a d : Int) (w : World) (h0 : 0 ≤ a) (h : a ≤ 6) (h1 : d < 1) :
    Calls Tryd.prog 26 #[.agg #[.int .i64 4, .int .i64 a, .int .i64 d]] w fun e w' => e = .returned (.tuple #[.agg #[.bool false, .bool false, .nilFunc], .bool false]) ∧ Below w.heap.size w w' := by
  have hi := idx4
  unfold kindsV at hi
  go_enter Tryd.func26, Tryd.ntmps26
  go_wp2_with fail
  go_region_with (go_at_call 35; refine (kinds_any _).mono ?_; rintro e w1 ⟨rfl, rfl⟩; unfold kindsV kindsA)
  all_goals
    go_wp2_with fail
    exact bodyPost_ret (v := .tuple #[.agg #[.bool false, .bool false, .nilFunc], .bool false]) (by simp [results, Tryd.results26, go_sem]) rfl ⟨rfl, by repeat (first | exact Below.refl _ _ | refine below_drewN ?_ _ | apply Below.drew | refine Below.setCell ?_ (by simp <;> omega) _ | refine Below.alloc ?_ (by simp <;> omega) _)⟩

set_option maxHeartbeats 2000000 in
theorem find_b4d2 (a d : Int) (w : World) (h0 : 0 ≤ a) (h : a ≤ 6) (h1 : 1 ≤ d) (h2 : 31 < d) :
    Calls Tryd.prog 26 #[.agg #[.int .i64 4, .int .i64 a, .int .i64 d]] w fun e w' => e = .returned (.tuple #[.agg #[.bool false, .bool false, .nilFunc], .bool false]) ∧ Below w.heap.size w w' := by
  have hi := idx4
  unfold kindsV at hi
  go_enter Tryd.func26, Tryd.ntmps26
  go_wp2_with fail
  go_region_with (go_at_call 35; refine (kinds_any _).mono ?_; rintro e w1 ⟨rfl, rfl⟩; unfold kindsV kindsA)
  all_goals
    go_wp2_with fail
    exact bodyPost_ret (v := .tuple #[.agg #[.bool false, .bool false, .nilFunc], .bool false]) (by simp [results, Tryd.results26, go_sem]) rfl ⟨rfl, by repeat (first | exact Below.refl _ _ | refine below_drewN ?_ _ | apply Below.drew | refine Below.setCell ?_ (by simp <;> omega) _ | refine Below.alloc ?_ (by simp <;> omega) _)⟩

end Go.Proofs.YtljbgkfoljjgbaaDoor
