/-
  The functions of plain data are what the program's code says.
-/
import Derived.Test.YtljbgkfoljjgbaaDoorAxT
import Derived.Test.YtljbgkfoljjgbaaDoorShelf
import Derived.Test.YtljbgkfoljjgbaaDoorFdae
namespace Go.Proofs.YtljbgkfoljjgbaaDoor
open Go.Ax
set_option linter.all false
set_option maxRecDepth 100000
set_option maxHeartbeats 4000000
variable {P : Program} [IsProg P]
variable {mx : Int}
def glList (mx : Int) : List (Nat × List AV) := [(0, [.int .i64 (.lit 0), .int .i64 (.lit 31), .int .i64 (.lit 59), .int .i64 (.lit 90), .int .i64 (.lit 120), .int .i64 (.lit 151), .int .i64 (.lit 181), .int .i64 (.lit 212), .int .i64 (.lit 243), .int .i64 (.lit 273), .int .i64 (.lit 304), .int .i64 (.lit 334), .int .i64 (.lit 365)])]
def gl (mx : Int) : Nat → Option (List AV) := Ax.look (glList mx)
noncomputable def E0 : List (Nat × Ax.Fn) := []
omit [IsProg P] in theorem E0_ok : EOk P (gl mx) (Ax.look E0) := eok_nil
def F_law02_fixed_T : List (Nat × List (Nat × Nat × Ax.Tm)) := []
theorem F_law02_fixed_eq : (fun ds => (fnO tau (gl mx) (xd F_law02_fixed_T) (Ax.look E0) 100 24 [.int .i64] (.agg [.int .i64, .int .i64, .int .i64]) ds).run) = F_law02_fixed := by kernel_rfl
theorem F_law02_fixed_ok : FnOk P (gl mx) 24 ⟨[.int .i64], (.agg [.int .i64, .int .i64, .int .i64]), F_law02_fixed⟩ := F_law02_fixed_eq ▸ fnO_ok tau_ok mix (xd_ok _) (E0_ok)
noncomputable def E1 : List (Nat × Ax.Fn) := (24, ⟨[.int .i64], (.agg [.int .i64, .int .i64, .int .i64]), F_law02_fixed⟩) :: E0
theorem E1_ok : EOk P (gl mx) (Ax.look E1) := eok_cons F_law02_fixed_ok E0_ok
def F_law02_last_T : List (Nat × List (Nat × Nat × Ax.Tm)) := []
theorem F_law02_last_eq : (fun ds => (fnO tau (gl mx) (xd F_law02_last_T) (Ax.look E1) 100 22 [.int .i64] (.agg [.int .i64, .int .i64, .int .i64]) ds).run) = F_law02_last := by kernel_rfl
theorem F_law02_last_ok : FnOk P (gl mx) 22 ⟨[.int .i64], (.agg [.int .i64, .int .i64, .int .i64]), F_law02_last⟩ := F_law02_last_eq ▸ fnO_ok tau_ok mix (xd_ok _) (E1_ok)
noncomputable def E2 : List (Nat × Ax.Fn) := (22, ⟨[.int .i64], (.agg [.int .i64, .int .i64, .int .i64]), F_law02_last⟩) :: E1
theorem E2_ok : EOk P (gl mx) (Ax.look E2) := eok_cons F_law02_last_ok E1_ok
def F_law02_from_T : List (Nat × List (Nat × Nat × Ax.Tm)) := []
theorem F_law02_from_eq : (fun ds => (fnO tau (gl mx) (xd F_law02_from_T) (Ax.look E2) 100 21 [.int .i64, .int .i64] (.agg [.int .i64, .int .i64, .int .i64]) ds).run) = F_law02_from := by kernel_rfl
theorem F_law02_from_ok : FnOk P (gl mx) 21 ⟨[.int .i64, .int .i64], (.agg [.int .i64, .int .i64, .int .i64]), F_law02_from⟩ := F_law02_from_eq ▸ fnO_ok tau_ok mix (xd_ok _) (E2_ok)
noncomputable def E3 : List (Nat × Ax.Fn) := (21, ⟨[.int .i64, .int .i64], (.agg [.int .i64, .int .i64, .int .i64]), F_law02_from⟩) :: E2
theorem E3_ok : EOk P (gl mx) (Ax.look E3) := eok_cons F_law02_from_ok E2_ok
def F_law02_to_T : List (Nat × List (Nat × Nat × Ax.Tm)) := []
theorem F_law02_to_eq : (fun ds => (fnO tau (gl mx) (xd F_law02_to_T) (Ax.look E3) 100 23 [.int .i64, .int .i64] (.agg [.int .i64, .int .i64, .int .i64]) ds).run) = F_law02_to := by kernel_rfl
theorem F_law02_to_ok : FnOk P (gl mx) 23 ⟨[.int .i64, .int .i64], (.agg [.int .i64, .int .i64, .int .i64]), F_law02_to⟩ := F_law02_to_eq ▸ fnO_ok tau_ok mix (xd_ok _) (E3_ok)
noncomputable def E4 : List (Nat × Ax.Fn) := (23, ⟨[.int .i64, .int .i64], (.agg [.int .i64, .int .i64, .int .i64]), F_law02_to⟩) :: E3
theorem E4_ok : EOk P (gl mx) (Ax.look E4) := eok_cons F_law02_to_ok E3_ok
def F__law02_Draft__Made_T : List (Nat × List (Nat × Nat × Ax.Tm)) := []
theorem F__law02_Draft__Made_eq : (fun ds => (fnO tau (gl mx) (xd F__law02_Draft__Made_T) (Ax.look E4) 100 16 [.agg [.int .u8, .int .u8, .int .u8]] (.agg [.int .i64, .int .i64, .int .i64]) ds).run) = F__law02_Draft__Made := by kernel_rfl
theorem F__law02_Draft__Made_ok : FnOk P (gl mx) 16 ⟨[.agg [.int .u8, .int .u8, .int .u8]], (.agg [.int .i64, .int .i64, .int .i64]), F__law02_Draft__Made⟩ := F__law02_Draft__Made_eq ▸ fnO_ok tau_ok mix (xd_ok _) (E4_ok)
noncomputable def E5 : List (Nat × Ax.Fn) := (16, ⟨[.agg [.int .u8, .int .u8, .int .u8]], (.agg [.int .i64, .int .i64, .int .i64]), F__law02_Draft__Made⟩) :: E4
theorem E5_ok : EOk P (gl mx) (Ax.look E5) := eok_cons F__law02_Draft__Made_ok E4_ok
def F_law02_year_T : List (Nat × List (Nat × Nat × Ax.Tm)) := []
theorem F_law02_year_eq : (fun ds => (fnO tau (gl mx) (xd F_law02_year_T) (Ax.look E5) 100 17 [.int .i32] (.int .i64) ds).run) = F_law02_year := by kernel_rfl
theorem F_law02_year_ok : FnOk P (gl mx) 17 ⟨[.int .i32], (.int .i64), F_law02_year⟩ := F_law02_year_eq ▸ fnO_ok tau_ok mix (xd_ok _) (E5_ok)
noncomputable def E6 : List (Nat × Ax.Fn) := (17, ⟨[.int .i32], (.int .i64), F_law02_year⟩) :: E5
theorem E6_ok : EOk P (gl mx) (Ax.look E6) := eok_cons F_law02_year_ok E5_ok
def F_civil_Leap_T : List (Nat × List (Nat × Nat × Ax.Tm)) := []
theorem F_civil_Leap_eq : (fun ds => (fnO tau (gl mx) (xd F_civil_Leap_T) (Ax.look E6) 100 32 [.int .i64] (.bool) ds).run) = F_civil_Leap := by kernel_rfl
theorem F_civil_Leap_ok : FnOk P (gl mx) 32 ⟨[.int .i64], (.bool), F_civil_Leap⟩ := F_civil_Leap_eq ▸ fnO_ok tau_ok mix (xd_ok _) (E6_ok)
noncomputable def E7 : List (Nat × Ax.Fn) := (32, ⟨[.int .i64], (.bool), F_civil_Leap⟩) :: E6
theorem E7_ok : EOk P (gl mx) (Ax.look E7) := eok_cons F_civil_Leap_ok E6_ok
def F_civil_Len_T : List (Nat × List (Nat × Nat × Ax.Tm)) := []
theorem F_civil_Len_eq : (fun ds => (fnO tau (gl mx) (xd F_civil_Len_T) (Ax.look E7) 100 19 [.int .i64, .int .i64] (.int .i64) ds).run) = F_civil_Len := by kernel_rfl
theorem F_civil_Len_ok : FnOk P (gl mx) 19 ⟨[.int .i64, .int .i64], (.int .i64), F_civil_Len⟩ := F_civil_Len_eq ▸ fnO_ok tau_ok mix (xd_ok _) (E7_ok)
noncomputable def E8 : List (Nat × Ax.Fn) := (19, ⟨[.int .i64, .int .i64], (.int .i64), F_civil_Len⟩) :: E7
theorem E8_ok : EOk P (gl mx) (Ax.look E8) := eok_cons F_civil_Len_ok E7_ok
def F_civil_floor_T : List (Nat × List (Nat × Nat × Ax.Tm)) := []
theorem F_civil_floor_eq : (fun ds => (fnO tau (gl mx) (xd F_civil_floor_T) (Ax.look E8) 100 34 [.int .i64, .int .i64] (.int .i64) ds).run) = F_civil_floor := by kernel_rfl
theorem F_civil_floor_ok : FnOk P (gl mx) 34 ⟨[.int .i64, .int .i64], (.int .i64), F_civil_floor⟩ := F_civil_floor_eq ▸ fnO_ok tau_ok mix (xd_ok _) (E8_ok)
noncomputable def E9 : List (Nat × Ax.Fn) := (34, ⟨[.int .i64, .int .i64], (.int .i64), F_civil_floor⟩) :: E8
theorem E9_ok : EOk P (gl mx) (Ax.look E9) := eok_cons F_civil_floor_ok E8_ok
def F_civil_Days_T : List (Nat × List (Nat × Nat × Ax.Tm)) := []
theorem F_civil_Days_eq : (fun ds => (fnO tau (gl mx) (xd F_civil_Days_T) (Ax.look E9) 100 18 [.int .i64, .int .i64, .int .i64] (.tuple [.int .i64, .int .i64]) ds).run) = F_civil_Days := by kernel_rfl
theorem F_civil_Days_ok : FnOk P (gl mx) 18 ⟨[.int .i64, .int .i64, .int .i64], (.tuple [.int .i64, .int .i64]), F_civil_Days⟩ := F_civil_Days_eq ▸ fnO_ok tau_ok mix (xd_ok _) (E9_ok)
noncomputable def E10 : List (Nat × Ax.Fn) := (18, ⟨[.int .i64, .int .i64, .int .i64], (.tuple [.int .i64, .int .i64]), F_civil_Days⟩) :: E9
theorem E10_ok : EOk P (gl mx) (Ax.look E10) := eok_cons F_civil_Days_ok E9_ok
def F_dayform_dayOf_T : List (Nat × List (Nat × Nat × Ax.Tm)) := []
theorem F_dayform_dayOf_eq : (fun ds => (fnO tau (gl mx) (xd F_dayform_dayOf_T) (Ax.look E10) 100 40 [.agg [.int .i64, .int .i64, .int .i64], .int .i64] (.int .i64) ds).run) = F_dayform_dayOf := by kernel_rfl
theorem F_dayform_dayOf_ok : FnOk P (gl mx) 40 ⟨[.agg [.int .i64, .int .i64, .int .i64], .int .i64], (.int .i64), F_dayform_dayOf⟩ := F_dayform_dayOf_eq ▸ fnO_ok tau_ok mix (xd_ok _) (E10_ok)
noncomputable def E11 : List (Nat × Ax.Fn) := (40, ⟨[.agg [.int .i64, .int .i64, .int .i64], .int .i64], (.int .i64), F_dayform_dayOf⟩) :: E10
theorem E11_ok : EOk P (gl mx) (Ax.look E11) := eok_cons F_dayform_dayOf_ok E10_ok
def F_civil_Weekday_T : List (Nat × List (Nat × Nat × Ax.Tm)) := []
theorem F_civil_Weekday_eq : (fun ds => (fnO tau (gl mx) (xd F_civil_Weekday_T) (Ax.look E11) 100 20 [.int .i64] (.int .i64) ds).run) = F_civil_Weekday := by kernel_rfl
theorem F_civil_Weekday_ok : FnOk P (gl mx) 20 ⟨[.int .i64], (.int .i64), F_civil_Weekday⟩ := F_civil_Weekday_eq ▸ fnO_ok tau_ok mix (xd_ok _) (E11_ok)
noncomputable def E12 : List (Nat × Ax.Fn) := (20, ⟨[.int .i64], (.int .i64), F_civil_Weekday⟩) :: E11
theorem E12_ok : EOk P (gl mx) (Ax.look E12) := eok_cons F_civil_Weekday_ok E11_ok
def F_dayform_back_T : List (Nat × List (Nat × Nat × Ax.Tm)) := []
theorem F_dayform_back_eq : (fun ds => (fnO tau (gl mx) (xd F_dayform_back_T) (Ax.look E12) 100 42 [.int .i64, .int .i64] (.int .i64) ds).run) = F_dayform_back := by kernel_rfl
theorem F_dayform_back_ok : FnOk P (gl mx) 42 ⟨[.int .i64, .int .i64], (.int .i64), F_dayform_back⟩ := F_dayform_back_eq ▸ fnO_ok tau_ok mix (xd_ok _) (E12_ok)
noncomputable def E13 : List (Nat × Ax.Fn) := (42, ⟨[.int .i64, .int .i64], (.int .i64), F_dayform_back⟩) :: E12
theorem E13_ok : EOk P (gl mx) (Ax.look E13) := eok_cons F_dayform_back_ok E12_ok
def F_dayform_kinds_T : List (Nat × List (Nat × Nat × Ax.Tm)) := []
theorem F_dayform_kinds_eq : (fun ds => (fnO tau (gl mx) (xd F_dayform_kinds_T) (Ax.look E13) 100 35 [] (.agg [.bool, .bool, .nilFunc, .bool, .bool, .func 39 [] [], .bool, .bool, .func 41 [] [], .bool, .bool, .func 43 [] [], .bool, .bool, .func 44 [] []]) ds).run) = F_dayform_kinds := by kernel_rfl
theorem F_dayform_kinds_ok : FnOk P (gl mx) 35 ⟨[], (.agg [.bool, .bool, .nilFunc, .bool, .bool, .func 39 [] [], .bool, .bool, .func 41 [] [], .bool, .bool, .func 43 [] [], .bool, .bool, .func 44 [] []]), F_dayform_kinds⟩ := F_dayform_kinds_eq ▸ fnO_ok tau_ok mix (xd_ok _) (E13_ok)
noncomputable def E14 : List (Nat × Ax.Fn) := (35, ⟨[], (.agg [.bool, .bool, .nilFunc, .bool, .bool, .func 39 [] [], .bool, .bool, .func 41 [] [], .bool, .bool, .func 43 [] [], .bool, .bool, .func 44 [] []]), F_dayform_kinds⟩) :: E13
theorem E14_ok : EOk P (gl mx) (Ax.look E14) := eok_cons F_dayform_kinds_ok E13_ok
def F_dayform_On_T : List (Nat × List (Nat × Nat × Ax.Tm)) := []
theorem F_dayform_On_eq : (fun ds => (fnO tau (gl mx) (xd F_dayform_On_T) (Ax.look E14) 100 9 [.int .i64, .int .i64, .agg [.int .i64, .int .i64, .int .i64]] (.tuple [.int .i64, .int .i64]) ds).run) = F_dayform_On := by kernel_rfl
theorem F_dayform_On_ok : FnOk P (gl mx) 9 ⟨[.int .i64, .int .i64, .agg [.int .i64, .int .i64, .int .i64]], (.tuple [.int .i64, .int .i64]), F_dayform_On⟩ := F_dayform_On_eq ▸ fnO_ok tau_ok mix (xd_ok _) (E14_ok)
noncomputable def E15 : List (Nat × Ax.Fn) := (9, ⟨[.int .i64, .int .i64, .agg [.int .i64, .int .i64, .int .i64]], (.tuple [.int .i64, .int .i64]), F_dayform_On⟩) :: E14
theorem E15_ok : EOk P (gl mx) (Ax.look E15) := eok_cons F_dayform_On_ok E14_ok
def F_dayform_Check_T : List (Nat × List (Nat × Nat × Ax.Tm)) := []
theorem F_dayform_Check_eq : (fun ds => (fnO tau (gl mx) (xd F_dayform_Check_T) (Ax.look E15) 100 11 [.agg [.int .i64, .int .i64, .int .i64]] (.int .i64) ds).run) = F_dayform_Check := by kernel_rfl
theorem F_dayform_Check_ok : FnOk P (gl mx) 11 ⟨[.agg [.int .i64, .int .i64, .int .i64]], (.int .i64), F_dayform_Check⟩ := F_dayform_Check_eq ▸ fnO_ok tau_ok mix (xd_ok _) (E15_ok)
noncomputable def E16 : List (Nat × Ax.Fn) := (11, ⟨[.agg [.int .i64, .int .i64, .int .i64]], (.int .i64), F_dayform_Check⟩) :: E15
theorem E16_ok : EOk P (gl mx) (Ax.look E16) := eok_cons F_dayform_Check_ok E15_ok
def F_dayform_Always_T : List (Nat × List (Nat × Nat × Ax.Tm)) := []
theorem F_dayform_Always_eq : (fun ds => (fnO tau (gl mx) (xd F_dayform_Always_T) (Ax.look E16) 100 14 [.int .i64, .int .i64, .int .i64, .agg [.int .i64, .int .i64, .int .i64]] (.bool) ds).run) = F_dayform_Always := by kernel_rfl
theorem F_dayform_Always_ok : FnOk P (gl mx) 14 ⟨[.int .i64, .int .i64, .int .i64, .agg [.int .i64, .int .i64, .int .i64]], (.bool), F_dayform_Always⟩ := F_dayform_Always_eq ▸ fnO_ok tau_ok mix (xd_ok _) (E16_ok)
noncomputable def E17 : List (Nat × Ax.Fn) := (14, ⟨[.int .i64, .int .i64, .int .i64, .agg [.int .i64, .int .i64, .int .i64]], (.bool), F_dayform_Always⟩) :: E16
theorem E17_ok : EOk P (gl mx) (Ax.look E17) := eok_cons F_dayform_Always_ok E16_ok
def F_law02_means_T : List (Nat × List (Nat × Nat × Ax.Tm)) := []
theorem F_law02_means_eq : (fun ds => (fnO tau (gl mx) (xd F_law02_means_T) (Ax.look E17) 100 31 [.int .i64, .int .i64, .agg [.int .i64, .int .i64, .int .i64], .int .i64, .int .i64] (.bool) ds).run) = F_law02_means := by kernel_rfl
theorem F_law02_means_ok : FnOk P (gl mx) 31 ⟨[.int .i64, .int .i64, .agg [.int .i64, .int .i64, .int .i64], .int .i64, .int .i64], (.bool), F_law02_means⟩ := F_law02_means_eq ▸ fnO_ok tau_ok mix (xd_ok _) (E17_ok)
noncomputable def E18 : List (Nat × Ax.Fn) := (31, ⟨[.int .i64, .int .i64, .agg [.int .i64, .int .i64, .int .i64], .int .i64, .int .i64], (.bool), F_law02_means⟩) :: E17
theorem E18_ok : EOk P (gl mx) (Ax.look E18) := eok_cons F_law02_means_ok E17_ok
def F_law02_fails_T : List (Nat × List (Nat × Nat × Ax.Tm)) := []
theorem F_law02_fails_eq : (fun ds => (fnO tau (gl mx) (xd F_law02_fails_T) (Ax.look E18) 100 25 [.int .i64, .int .i64, .agg [.int .i64, .int .i64, .int .i64], .int .i64] (.bool) ds).run) = F_law02_fails := by kernel_rfl
theorem F_law02_fails_ok : FnOk P (gl mx) 25 ⟨[.int .i64, .int .i64, .agg [.int .i64, .int .i64, .int .i64], .int .i64], (.bool), F_law02_fails⟩ := F_law02_fails_eq ▸ fnO_ok tau_ok mix (xd_ok _) (E18_ok)
noncomputable def E19 : List (Nat × Ax.Fn) := (25, ⟨[.int .i64, .int .i64, .agg [.int .i64, .int .i64, .int .i64], .int .i64], (.bool), F_law02_fails⟩) :: E18
theorem E19_ok : EOk P (gl mx) (Ax.look E19) := eok_cons F_law02_fails_ok E18_ok
theorem F_law02_works_eq : (fun ds => (fnO tau (gl mx) (xd []) (Ax.look E19) 3000 13 [] (.bool) ds).run) = F_law02_works := by kernel_rfl
theorem F_law02_works_ok : FnOk P (gl mx) 13 ⟨[], (.bool), F_law02_works⟩ := F_law02_works_eq ▸ fnO_ok tau_ok mix (xd_ok _) (E19_ok)
noncomputable def E20 : List (Nat × Ax.Fn) := (13, ⟨[], (.bool), F_law02_works⟩) :: E19
theorem E20_ok : EOk P (gl mx) (Ax.look E20) := eok_cons F_law02_works_ok E19_ok
def F_law02_DayformEach_T : List (Nat × List (Nat × Nat × Ax.Tm)) := [(6, [(5, 2, (⟨[(9, .ptr 0 0), (10, .int .i64), (11, .int .i64), (12, .int .i64), (13, .bool), (14, .int .i64)], [(0, .each [.int .i64, .int .i64, .int .i64])], 1⟩ : Go.Ax.Tm))])]
theorem F_law02_DayformEach_eq : (fun ds => (fnO tau (gl mx) (xd F_law02_DayformEach_T) (Ax.look E20) 100 6 [.agg [.int .u8, .int .u8, .int .u8], .int .i32, .int .u8, .int .u8] (.bool) ds).run) = F_law02_DayformEach := by kernel_rfl
theorem F_law02_DayformEach_ok : FnOk P (gl mx) 6 ⟨[.agg [.int .u8, .int .u8, .int .u8], .int .i32, .int .u8, .int .u8], (.bool), F_law02_DayformEach⟩ := F_law02_DayformEach_eq ▸ fnO_ok tau_ok mix (xd_ok _) (E20_ok)
noncomputable def E21 : List (Nat × Ax.Fn) := (6, ⟨[.agg [.int .u8, .int .u8, .int .u8], .int .i32, .int .u8, .int .u8], (.bool), F_law02_DayformEach⟩) :: E20
theorem E21_ok : EOk P (gl mx) (Ax.look E21) := eok_cons F_law02_DayformEach_ok E20_ok
end Go.Proofs.YtljbgkfoljjgbaaDoor
