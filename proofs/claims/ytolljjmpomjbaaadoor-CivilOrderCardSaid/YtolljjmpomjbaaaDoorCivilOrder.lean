/-
  The walk of CivilOrder.
-/
import Derived.Test.YtolljjmpomjbaaaDoorCivilW
namespace Go.Proofs.YtolljjmpomjbaaaDoor
set_option linter.unusedVariables false
set_option linter.unusedSimpArgs false
open Go.RowKit

set_option maxRecDepth 100000 in
set_option maxHeartbeats 1000000 in
theorem order_case1 (y z m n d c Y M D Z N C : Int) (hY : y.tmod 2000000001 = Y) (hZ : z.tmod 2000000001 = Z) (hM : m % 12 = M) (hN : n % 12 = N) (hD : d % 28 = D) (hC : c % 28 = C)
    (bm : 0 ≤ m ∧ m ≤ 255) (bn : 0 ≤ n ∧ n ≤ 255) (bd : 0 ≤ d ∧ d ≤ 255) (bc : 0 ≤ c ∧ c ≤ 255)
    (bY : -2000000001 < Y ∧ Y < 2000000001) (M1 : 0 ≤ M) (M2 : M ≤ 11) (D1 : 0 ≤ D) (D2 : D ≤ 27) (bZ : -2000000001 < Z ∧ Z < 2000000001) (N1 : 0 ≤ N) (N2 : N ≤ 11) (C1 : 0 ≤ C) (C2 : C ≤ 27) (hlt : Y < Z) (w : World) (hT : Tab w) :
    Calls Tryd.prog 8 #[.int .i64 y, .int .i64 z, .int .u8 m, .int .u8 n, .int .u8 d, .int .u8 c] w fun e w' => e = .returned (.bool true) ∧ Grown w w' := by
  have o1 := Lib.hid (show Cal.Ok Y (1 + M) (1 + D) from ⟨by omega, by omega, by omega, by have := Cal.len_in (y := Y) (m := 1 + M) (by omega) (by omega); omega⟩)
  have o2 := Lib.hid (show Cal.Ok Z (1 + N) (1 + C) from ⟨by omega, by omega, by omega, by have := Cal.len_in (y := Z) (m := 1 + N) (by omega) (by omega); omega⟩)
  have hc : Cal.num Y (1 + M) (1 + D) < Cal.num Z (1 + N) (1 + C) := (Cal.num_lt o1.out o2.out).2 (by omega)
  have hc2 : (Cal.num Y (1 + M) (1 + D) == Cal.num Z (1 + N) (1 + C)) = false := by rw [beq_eq_false_iff_ne]; omega
  have ne1 : (Y != Z) = true := by rw [bne_iff_ne]; omega
  have ne2 : (Y == Z) = false := by rw [beq_eq_false_iff_ne]; omega
  go_enter Tryd.func8, Tryd.ntmps8
  go_wp2_with (first | (go_at_call 9; (with_reducible refine (days_ok Y (1 + M) (1 + D) _ (by repeat (first | exact hT | apply Tab.drewN | apply Tab.drew | apply Tab.alloc)) (by omega) (by omega) o1.out).mono ?_); rintro e w' ⟨rfl, k4, rfl⟩) | (go_at_call 9; (with_reducible refine (days_ok Z (1 + N) (1 + C) _ (by repeat (first | exact hT | apply Tab.drewN | apply Tab.drew | apply Tab.alloc)) (by omega) (by omega) o2.out).mono ?_); rintro e w' ⟨rfl, k4, rfl⟩))
  refine wp_loop_rounds 4 ?_
  rw [rounds_succ]
  go_wp2
  go_quiet (fail)
  go_wp2
  go_quiet (fail)
  go_wp2
  rw [rounds_succ]
  go_wp2
  go_quiet (fail)
  go_wp2
  rw [rounds_succ]
  go_wp2
  go_quiet (fail)
  go_wp2
  rw [rounds_succ]
  go_wp2_with (go_at_call 15; refine (works_any _ (by repeat (first | exact hT | apply Tab.drewN | apply Tab.drew | apply Tab.alloc))).mono ?_; rintro e w' ⟨rfl, k2, rfl⟩)
  go_ret
  exact ⟨rfl, by repeat (first | exact Grown.refl _ | apply Grown.drew | refine Grown.alloc ?_ _ _)⟩

set_option maxRecDepth 100000 in
set_option maxHeartbeats 1000000 in
theorem order_case2 (y z m n d c Y M D Z N C : Int) (hY : y.tmod 2000000001 = Y) (hZ : z.tmod 2000000001 = Z) (hM : m % 12 = M) (hN : n % 12 = N) (hD : d % 28 = D) (hC : c % 28 = C)
    (bm : 0 ≤ m ∧ m ≤ 255) (bn : 0 ≤ n ∧ n ≤ 255) (bd : 0 ≤ d ∧ d ≤ 255) (bc : 0 ≤ c ∧ c ≤ 255)
    (bY : -2000000001 < Y ∧ Y < 2000000001) (M1 : 0 ≤ M) (M2 : M ≤ 11) (D1 : 0 ≤ D) (D2 : D ≤ 27) (bZ : -2000000001 < Z ∧ Z < 2000000001) (N1 : 0 ≤ N) (N2 : N ≤ 11) (C1 : 0 ≤ C) (C2 : C ≤ 27) (hlt : Z < Y) (w : World) (hT : Tab w) :
    Calls Tryd.prog 8 #[.int .i64 y, .int .i64 z, .int .u8 m, .int .u8 n, .int .u8 d, .int .u8 c] w fun e w' => e = .returned (.bool true) ∧ Grown w w' := by
  have o1 := Lib.hid (show Cal.Ok Y (1 + M) (1 + D) from ⟨by omega, by omega, by omega, by have := Cal.len_in (y := Y) (m := 1 + M) (by omega) (by omega); omega⟩)
  have o2 := Lib.hid (show Cal.Ok Z (1 + N) (1 + C) from ⟨by omega, by omega, by omega, by have := Cal.len_in (y := Z) (m := 1 + N) (by omega) (by omega); omega⟩)
  have hc : Cal.num Z (1 + N) (1 + C) < Cal.num Y (1 + M) (1 + D) := (Cal.num_lt o2.out o1.out).2 (by omega)
  have hc1 : decide (Cal.num Y (1 + M) (1 + D) < Cal.num Z (1 + N) (1 + C)) = false := by simp; omega
  have hc2 : (Cal.num Y (1 + M) (1 + D) == Cal.num Z (1 + N) (1 + C)) = false := by rw [beq_eq_false_iff_ne]; omega
  have ne1 : (Y != Z) = true := by rw [bne_iff_ne]; omega
  have ne2 : (Y == Z) = false := by rw [beq_eq_false_iff_ne]; omega
  go_enter Tryd.func8, Tryd.ntmps8
  go_wp2_with (first | (go_at_call 9; (with_reducible refine (days_ok Y (1 + M) (1 + D) _ (by repeat (first | exact hT | apply Tab.drewN | apply Tab.drew | apply Tab.alloc)) (by omega) (by omega) o1.out).mono ?_); rintro e w' ⟨rfl, k4, rfl⟩) | (go_at_call 9; (with_reducible refine (days_ok Z (1 + N) (1 + C) _ (by repeat (first | exact hT | apply Tab.drewN | apply Tab.drew | apply Tab.alloc)) (by omega) (by omega) o2.out).mono ?_); rintro e w' ⟨rfl, k4, rfl⟩))
  refine wp_loop_rounds 4 ?_
  rw [rounds_succ]
  go_wp2
  go_quiet (fail)
  go_wp2
  go_quiet (fail)
  go_wp2
  rw [rounds_succ]
  go_wp2
  go_quiet (fail)
  go_wp2
  rw [rounds_succ]
  go_wp2
  go_quiet (fail)
  go_wp2
  rw [rounds_succ]
  go_wp2_with (go_at_call 15; refine (works_any _ (by repeat (first | exact hT | apply Tab.drewN | apply Tab.drew | apply Tab.alloc))).mono ?_; rintro e w' ⟨rfl, k2, rfl⟩)
  go_ret
  exact ⟨rfl, by repeat (first | exact Grown.refl _ | apply Grown.drew | refine Grown.alloc ?_ _ _)⟩

set_option maxRecDepth 100000 in
set_option maxHeartbeats 1000000 in
theorem order_case3 (y z m n d c Y M D N C : Int) (hY : y.tmod 2000000001 = Y) (hZ : z.tmod 2000000001 = Y) (hM : m % 12 = M) (hN : n % 12 = N) (hD : d % 28 = D) (hC : c % 28 = C)
    (bm : 0 ≤ m ∧ m ≤ 255) (bn : 0 ≤ n ∧ n ≤ 255) (bd : 0 ≤ d ∧ d ≤ 255) (bc : 0 ≤ c ∧ c ≤ 255)
    (bY : -2000000001 < Y ∧ Y < 2000000001) (M1 : 0 ≤ M) (M2 : M ≤ 11) (D1 : 0 ≤ D) (D2 : D ≤ 27) (N1 : 0 ≤ N) (N2 : N ≤ 11) (C1 : 0 ≤ C) (C2 : C ≤ 27) (hlt : M < N) (w : World) (hT : Tab w) :
    Calls Tryd.prog 8 #[.int .i64 y, .int .i64 z, .int .u8 m, .int .u8 n, .int .u8 d, .int .u8 c] w fun e w' => e = .returned (.bool true) ∧ Grown w w' := by
  have o1 := Lib.hid (show Cal.Ok Y (1 + M) (1 + D) from ⟨by omega, by omega, by omega, by have := Cal.len_in (y := Y) (m := 1 + M) (by omega) (by omega); omega⟩)
  have o2 := Lib.hid (show Cal.Ok Y (1 + N) (1 + C) from ⟨by omega, by omega, by omega, by have := Cal.len_in (y := Y) (m := 1 + N) (by omega) (by omega); omega⟩)
  have hc : Cal.num Y (1 + M) (1 + D) < Cal.num Y (1 + N) (1 + C) := (Cal.num_lt o1.out o2.out).2 (by omega)
  have hc2 : (Cal.num Y (1 + M) (1 + D) == Cal.num Y (1 + N) (1 + C)) = false := by rw [beq_eq_false_iff_ne]; omega
  have ne1 : (M != N) = true := by rw [bne_iff_ne]; omega
  have ne2 : (M == N) = false := by rw [beq_eq_false_iff_ne]; omega
  have ne3 : (1 + M != 1 + N) = true := by rw [bne_iff_ne]; omega
  have ne4 : (1 + M == 1 + N) = false := by rw [beq_eq_false_iff_ne]; omega
  go_enter Tryd.func8, Tryd.ntmps8
  go_wp2_with (first | (go_at_call 9; (with_reducible refine (days_ok Y (1 + M) (1 + D) _ (by repeat (first | exact hT | apply Tab.drewN | apply Tab.drew | apply Tab.alloc)) (by omega) (by omega) o1.out).mono ?_); rintro e w' ⟨rfl, k4, rfl⟩) | (go_at_call 9; (with_reducible refine (days_ok Y (1 + N) (1 + C) _ (by repeat (first | exact hT | apply Tab.drewN | apply Tab.drew | apply Tab.alloc)) (by omega) (by omega) o2.out).mono ?_); rintro e w' ⟨rfl, k4, rfl⟩))
  refine wp_loop_rounds 4 ?_
  rw [rounds_succ]
  go_wp2
  go_quiet (fail)
  go_wp2
  rw [rounds_succ]
  go_wp2
  go_quiet (fail)
  go_wp2
  go_quiet (fail)
  go_wp2
  rw [rounds_succ]
  go_wp2
  go_quiet (fail)
  go_wp2
  rw [rounds_succ]
  go_wp2_with (go_at_call 15; refine (works_any _ (by repeat (first | exact hT | apply Tab.drewN | apply Tab.drew | apply Tab.alloc))).mono ?_; rintro e w' ⟨rfl, k2, rfl⟩)
  go_ret
  exact ⟨rfl, by repeat (first | exact Grown.refl _ | apply Grown.drew | refine Grown.alloc ?_ _ _)⟩

set_option maxRecDepth 100000 in
set_option maxHeartbeats 1000000 in
theorem order_case4 (y z m n d c Y M D N C : Int) (hY : y.tmod 2000000001 = Y) (hZ : z.tmod 2000000001 = Y) (hM : m % 12 = M) (hN : n % 12 = N) (hD : d % 28 = D) (hC : c % 28 = C)
    (bm : 0 ≤ m ∧ m ≤ 255) (bn : 0 ≤ n ∧ n ≤ 255) (bd : 0 ≤ d ∧ d ≤ 255) (bc : 0 ≤ c ∧ c ≤ 255)
    (bY : -2000000001 < Y ∧ Y < 2000000001) (M1 : 0 ≤ M) (M2 : M ≤ 11) (D1 : 0 ≤ D) (D2 : D ≤ 27) (N1 : 0 ≤ N) (N2 : N ≤ 11) (C1 : 0 ≤ C) (C2 : C ≤ 27) (hlt : N < M) (w : World) (hT : Tab w) :
    Calls Tryd.prog 8 #[.int .i64 y, .int .i64 z, .int .u8 m, .int .u8 n, .int .u8 d, .int .u8 c] w fun e w' => e = .returned (.bool true) ∧ Grown w w' := by
  have o1 := Lib.hid (show Cal.Ok Y (1 + M) (1 + D) from ⟨by omega, by omega, by omega, by have := Cal.len_in (y := Y) (m := 1 + M) (by omega) (by omega); omega⟩)
  have o2 := Lib.hid (show Cal.Ok Y (1 + N) (1 + C) from ⟨by omega, by omega, by omega, by have := Cal.len_in (y := Y) (m := 1 + N) (by omega) (by omega); omega⟩)
  have hc : Cal.num Y (1 + N) (1 + C) < Cal.num Y (1 + M) (1 + D) := (Cal.num_lt o2.out o1.out).2 (by omega)
  have hc1 : decide (Cal.num Y (1 + M) (1 + D) < Cal.num Y (1 + N) (1 + C)) = false := by simp; omega
  have hc2 : (Cal.num Y (1 + M) (1 + D) == Cal.num Y (1 + N) (1 + C)) = false := by rw [beq_eq_false_iff_ne]; omega
  have ne1 : (M != N) = true := by rw [bne_iff_ne]; omega
  have ne2 : (M == N) = false := by rw [beq_eq_false_iff_ne]; omega
  have ne3 : (1 + M != 1 + N) = true := by rw [bne_iff_ne]; omega
  have ne4 : (1 + M == 1 + N) = false := by rw [beq_eq_false_iff_ne]; omega
  go_enter Tryd.func8, Tryd.ntmps8
  go_wp2_with (first | (go_at_call 9; (with_reducible refine (days_ok Y (1 + M) (1 + D) _ (by repeat (first | exact hT | apply Tab.drewN | apply Tab.drew | apply Tab.alloc)) (by omega) (by omega) o1.out).mono ?_); rintro e w' ⟨rfl, k4, rfl⟩) | (go_at_call 9; (with_reducible refine (days_ok Y (1 + N) (1 + C) _ (by repeat (first | exact hT | apply Tab.drewN | apply Tab.drew | apply Tab.alloc)) (by omega) (by omega) o2.out).mono ?_); rintro e w' ⟨rfl, k4, rfl⟩))
  refine wp_loop_rounds 4 ?_
  rw [rounds_succ]
  go_wp2
  go_quiet (fail)
  go_wp2
  rw [rounds_succ]
  go_wp2
  go_quiet (fail)
  go_wp2
  go_quiet (fail)
  go_wp2
  rw [rounds_succ]
  go_wp2
  go_quiet (fail)
  go_wp2
  rw [rounds_succ]
  go_wp2_with (go_at_call 15; refine (works_any _ (by repeat (first | exact hT | apply Tab.drewN | apply Tab.drew | apply Tab.alloc))).mono ?_; rintro e w' ⟨rfl, k2, rfl⟩)
  go_ret
  exact ⟨rfl, by repeat (first | exact Grown.refl _ | apply Grown.drew | refine Grown.alloc ?_ _ _)⟩

set_option maxRecDepth 100000 in
set_option maxHeartbeats 1000000 in
theorem order_case5 (y z m n d c Y M D C : Int) (hY : y.tmod 2000000001 = Y) (hZ : z.tmod 2000000001 = Y) (hM : m % 12 = M) (hN : n % 12 = M) (hD : d % 28 = D) (hC : c % 28 = C)
    (bm : 0 ≤ m ∧ m ≤ 255) (bn : 0 ≤ n ∧ n ≤ 255) (bd : 0 ≤ d ∧ d ≤ 255) (bc : 0 ≤ c ∧ c ≤ 255)
    (bY : -2000000001 < Y ∧ Y < 2000000001) (M1 : 0 ≤ M) (M2 : M ≤ 11) (D1 : 0 ≤ D) (D2 : D ≤ 27) (C1 : 0 ≤ C) (C2 : C ≤ 27) (hlt : D < C) (w : World) (hT : Tab w) :
    Calls Tryd.prog 8 #[.int .i64 y, .int .i64 z, .int .u8 m, .int .u8 n, .int .u8 d, .int .u8 c] w fun e w' => e = .returned (.bool true) ∧ Grown w w' := by
  have o1 := Lib.hid (show Cal.Ok Y (1 + M) (1 + D) from ⟨by omega, by omega, by omega, by have := Cal.len_in (y := Y) (m := 1 + M) (by omega) (by omega); omega⟩)
  have o2 := Lib.hid (show Cal.Ok Y (1 + M) (1 + C) from ⟨by omega, by omega, by omega, by have := Cal.len_in (y := Y) (m := 1 + M) (by omega) (by omega); omega⟩)
  have hc : Cal.num Y (1 + M) (1 + D) < Cal.num Y (1 + M) (1 + C) := (Cal.num_lt o1.out o2.out).2 (by omega)
  have hc2 : (Cal.num Y (1 + M) (1 + D) == Cal.num Y (1 + M) (1 + C)) = false := by rw [beq_eq_false_iff_ne]; omega
  have ne1 : (D != C) = true := by rw [bne_iff_ne]; omega
  have ne2 : (D == C) = false := by rw [beq_eq_false_iff_ne]; omega
  have ne3 : (1 + D != 1 + C) = true := by rw [bne_iff_ne]; omega
  have ne4 : (1 + D == 1 + C) = false := by rw [beq_eq_false_iff_ne]; omega
  go_enter Tryd.func8, Tryd.ntmps8
  go_wp2_with (first | (go_at_call 9; (with_reducible refine (days_ok Y (1 + M) (1 + D) _ (by repeat (first | exact hT | apply Tab.drewN | apply Tab.drew | apply Tab.alloc)) (by omega) (by omega) o1.out).mono ?_); rintro e w' ⟨rfl, k4, rfl⟩) | (go_at_call 9; (with_reducible refine (days_ok Y (1 + M) (1 + C) _ (by repeat (first | exact hT | apply Tab.drewN | apply Tab.drew | apply Tab.alloc)) (by omega) (by omega) o2.out).mono ?_); rintro e w' ⟨rfl, k4, rfl⟩))
  refine wp_loop_rounds 4 ?_
  rw [rounds_succ]
  go_wp2
  go_quiet (fail)
  go_wp2
  rw [rounds_succ]
  go_wp2
  go_quiet (fail)
  go_wp2
  rw [rounds_succ]
  go_wp2
  go_quiet (fail)
  go_wp2
  go_quiet (fail)
  go_wp2
  rw [rounds_succ]
  go_wp2_with (go_at_call 15; refine (works_any _ (by repeat (first | exact hT | apply Tab.drewN | apply Tab.drew | apply Tab.alloc))).mono ?_; rintro e w' ⟨rfl, k2, rfl⟩)
  go_ret
  exact ⟨rfl, by repeat (first | exact Grown.refl _ | apply Grown.drew | refine Grown.alloc ?_ _ _)⟩

set_option maxRecDepth 100000 in
set_option maxHeartbeats 1000000 in
theorem order_case6 (y z m n d c Y M D C : Int) (hY : y.tmod 2000000001 = Y) (hZ : z.tmod 2000000001 = Y) (hM : m % 12 = M) (hN : n % 12 = M) (hD : d % 28 = D) (hC : c % 28 = C)
    (bm : 0 ≤ m ∧ m ≤ 255) (bn : 0 ≤ n ∧ n ≤ 255) (bd : 0 ≤ d ∧ d ≤ 255) (bc : 0 ≤ c ∧ c ≤ 255)
    (bY : -2000000001 < Y ∧ Y < 2000000001) (M1 : 0 ≤ M) (M2 : M ≤ 11) (D1 : 0 ≤ D) (D2 : D ≤ 27) (C1 : 0 ≤ C) (C2 : C ≤ 27) (hlt : C < D) (w : World) (hT : Tab w) :
    Calls Tryd.prog 8 #[.int .i64 y, .int .i64 z, .int .u8 m, .int .u8 n, .int .u8 d, .int .u8 c] w fun e w' => e = .returned (.bool true) ∧ Grown w w' := by
  have o1 := Lib.hid (show Cal.Ok Y (1 + M) (1 + D) from ⟨by omega, by omega, by omega, by have := Cal.len_in (y := Y) (m := 1 + M) (by omega) (by omega); omega⟩)
  have o2 := Lib.hid (show Cal.Ok Y (1 + M) (1 + C) from ⟨by omega, by omega, by omega, by have := Cal.len_in (y := Y) (m := 1 + M) (by omega) (by omega); omega⟩)
  have hc : Cal.num Y (1 + M) (1 + C) < Cal.num Y (1 + M) (1 + D) := (Cal.num_lt o2.out o1.out).2 (by omega)
  have hc1 : decide (Cal.num Y (1 + M) (1 + D) < Cal.num Y (1 + M) (1 + C)) = false := by simp; omega
  have hc2 : (Cal.num Y (1 + M) (1 + D) == Cal.num Y (1 + M) (1 + C)) = false := by rw [beq_eq_false_iff_ne]; omega
  have ne1 : (D != C) = true := by rw [bne_iff_ne]; omega
  have ne2 : (D == C) = false := by rw [beq_eq_false_iff_ne]; omega
  have ne3 : (1 + D != 1 + C) = true := by rw [bne_iff_ne]; omega
  have ne4 : (1 + D == 1 + C) = false := by rw [beq_eq_false_iff_ne]; omega
  go_enter Tryd.func8, Tryd.ntmps8
  go_wp2_with (first | (go_at_call 9; (with_reducible refine (days_ok Y (1 + M) (1 + D) _ (by repeat (first | exact hT | apply Tab.drewN | apply Tab.drew | apply Tab.alloc)) (by omega) (by omega) o1.out).mono ?_); rintro e w' ⟨rfl, k4, rfl⟩) | (go_at_call 9; (with_reducible refine (days_ok Y (1 + M) (1 + C) _ (by repeat (first | exact hT | apply Tab.drewN | apply Tab.drew | apply Tab.alloc)) (by omega) (by omega) o2.out).mono ?_); rintro e w' ⟨rfl, k4, rfl⟩))
  refine wp_loop_rounds 4 ?_
  rw [rounds_succ]
  go_wp2
  go_quiet (fail)
  go_wp2
  rw [rounds_succ]
  go_wp2
  go_quiet (fail)
  go_wp2
  rw [rounds_succ]
  go_wp2
  go_quiet (fail)
  go_wp2
  go_quiet (fail)
  go_wp2
  rw [rounds_succ]
  go_wp2_with (go_at_call 15; refine (works_any _ (by repeat (first | exact hT | apply Tab.drewN | apply Tab.drew | apply Tab.alloc))).mono ?_; rintro e w' ⟨rfl, k2, rfl⟩)
  go_ret
  exact ⟨rfl, by repeat (first | exact Grown.refl _ | apply Grown.drew | refine Grown.alloc ?_ _ _)⟩

set_option maxRecDepth 100000 in
set_option maxHeartbeats 1000000 in
theorem order_case7 (y z m n d c Y M D : Int) (hY : y.tmod 2000000001 = Y) (hZ : z.tmod 2000000001 = Y) (hM : m % 12 = M) (hN : n % 12 = M) (hD : d % 28 = D) (hC : c % 28 = D)
    (bm : 0 ≤ m ∧ m ≤ 255) (bn : 0 ≤ n ∧ n ≤ 255) (bd : 0 ≤ d ∧ d ≤ 255) (bc : 0 ≤ c ∧ c ≤ 255)
    (bY : -2000000001 < Y ∧ Y < 2000000001) (M1 : 0 ≤ M) (M2 : M ≤ 11) (D1 : 0 ≤ D) (D2 : D ≤ 27) (w : World) (hT : Tab w) :
    Calls Tryd.prog 8 #[.int .i64 y, .int .i64 z, .int .u8 m, .int .u8 n, .int .u8 d, .int .u8 c] w fun e w' => e = .returned (.bool true) ∧ Grown w w' := by
  have o1 := Lib.hid (show Cal.Ok Y (1 + M) (1 + D) from ⟨by omega, by omega, by omega, by have := Cal.len_in (y := Y) (m := 1 + M) (by omega) (by omega); omega⟩)
  have o2 := Lib.hid (show Cal.Ok Y (1 + M) (1 + D) from ⟨by omega, by omega, by omega, by have := Cal.len_in (y := Y) (m := 1 + M) (by omega) (by omega); omega⟩)
  
  go_enter Tryd.func8, Tryd.ntmps8
  go_wp2_with (first | (go_at_call 9; (with_reducible refine (days_ok Y (1 + M) (1 + D) _ (by repeat (first | exact hT | apply Tab.drewN | apply Tab.drew | apply Tab.alloc)) (by omega) (by omega) o1.out).mono ?_); rintro e w' ⟨rfl, k4, rfl⟩) | (go_at_call 9; (with_reducible refine (days_ok Y (1 + M) (1 + D) _ (by repeat (first | exact hT | apply Tab.drewN | apply Tab.drew | apply Tab.alloc)) (by omega) (by omega) o2.out).mono ?_); rintro e w' ⟨rfl, k4, rfl⟩))
  refine wp_loop_rounds 4 ?_
  rw [rounds_succ]
  go_wp2
  go_quiet (fail)
  go_wp2
  rw [rounds_succ]
  go_wp2
  go_quiet (fail)
  go_wp2
  rw [rounds_succ]
  go_wp2
  go_quiet (fail)
  go_wp2
  rw [rounds_succ]
  go_wp2_with (go_at_call 15; refine (works_any _ (by repeat (first | exact hT | apply Tab.drewN | apply Tab.drew | apply Tab.alloc))).mono ?_; rintro e w' ⟨rfl, k2, rfl⟩)
  go_ret
  exact ⟨rfl, by repeat (first | exact Grown.refl _ | apply Grown.drew | refine Grown.alloc ?_ _ _)⟩

theorem civilOrder_walk (y z m n d c : Int) (_ : (Lit.int .i64 y).wf = true) (_ : (Lit.int .i64 z).wf = true) (wm : (Lit.int .u8 m).wf = true) (wn : (Lit.int .u8 n).wf = true) (wd : (Lit.int .u8 d).wf = true) (wc : (Lit.int .u8 c).wf = true) (w : World) (hT : Tab w) :
    Calls Tryd.prog 8 #[.int .i64 y, .int .i64 z, .int .u8 m, .int .u8 n, .int .u8 d, .int .u8 c] w fun e w' => e = .returned (.bool true) ∧ Grown w w' := by
  have bm := bounds_u8 wm
  have bn := bounds_u8 wn
  have bd := bounds_u8 wd
  have bc := bounds_u8 wc
  have bY := tmod_bd y 2000000001 (by decide)
  have bZ := tmod_bd z 2000000001 (by decide)
  obtain ⟨Y, hY⟩ : ∃ Y, y.tmod 2000000001 = Y := ⟨_, rfl⟩
  obtain ⟨Z, hZ⟩ : ∃ Z, z.tmod 2000000001 = Z := ⟨_, rfl⟩
  obtain ⟨M, hM⟩ : ∃ M, m % 12 = M := ⟨_, rfl⟩
  obtain ⟨N, hN⟩ : ∃ N, n % 12 = N := ⟨_, rfl⟩
  obtain ⟨D, hD⟩ : ∃ D, d % 28 = D := ⟨_, rfl⟩
  obtain ⟨C, hC⟩ : ∃ C, c % 28 = C := ⟨_, rfl⟩
  rw [hY] at bY
  rw [hZ] at bZ
  rcases Int.lt_trichotomy Y Z with h | h | h
  · exact order_case1 y z m n d c Y M D Z N C hY hZ hM hN hD hC bm bn bd bc bY (by omega) (by omega) (by omega) (by omega) bZ (by omega) (by omega) (by omega) (by omega) h w hT
  · subst h
    rcases Int.lt_trichotomy M N with h | h | h
    · exact order_case3 y z m n d c Y M D N C hY hZ hM hN hD hC bm bn bd bc bY (by omega) (by omega) (by omega) (by omega) (by omega) (by omega) (by omega) (by omega) h w hT
    · subst h
      rcases Int.lt_trichotomy D C with h | h | h
      · exact order_case5 y z m n d c Y M D C hY hZ hM hN hD hC bm bn bd bc bY (by omega) (by omega) (by omega) (by omega) (by omega) (by omega) h w hT
      · subst h
        exact order_case7 y z m n d c Y M D hY hZ hM hN hD hC bm bn bd bc bY (by omega) (by omega) (by omega) (by omega) w hT
      · exact order_case6 y z m n d c Y M D C hY hZ hM hN hD hC bm bn bd bc bY (by omega) (by omega) (by omega) (by omega) (by omega) (by omega) h w hT
    · exact order_case4 y z m n d c Y M D N C hY hZ hM hN hD hC bm bn bd bc bY (by omega) (by omega) (by omega) (by omega) (by omega) (by omega) (by omega) (by omega) h w hT
  · exact order_case2 y z m n d c Y M D Z N C hY hZ hM hN hD hC bm bn bd bc bY (by omega) (by omega) (by omega) (by omega) bZ (by omega) (by omega) (by omega) (by omega) h w hT
end Go.Proofs.YtolljjmpomjbaaaDoor
