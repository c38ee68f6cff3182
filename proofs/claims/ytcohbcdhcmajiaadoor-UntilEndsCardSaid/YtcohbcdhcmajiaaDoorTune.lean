/-
  The functions of plain data are what the program's code says.
-/
import Derived.Test.YtcohbcdhcmajiaaDoorAxT
import Derived.Test.YtcohbcdhcmajiaaDoorShelf
import Derived.Test.YtcohbcdhcmajiaaDoorFune
import Derived.Test.YtcohbcdhcmajiaaDoorHBuilder
namespace Go.Proofs.YtcohbcdhcmajiaaDoor
open Go.Ax
set_option linter.all false
set_option maxRecDepth 100000
set_option maxHeartbeats 4000000
variable {P : Program} [IsProg P]
variable {mx : Int}
def glList (mx : Int) : List (Nat × List AV) := [(4, [.int .i64 (.lit 0), .int .i64 (.lit 31), .int .i64 (.lit 59), .int .i64 (.lit 90), .int .i64 (.lit 120), .int .i64 (.lit 151), .int .i64 (.lit 181), .int .i64 (.lit 212), .int .i64 (.lit 243), .int .i64 (.lit 273), .int .i64 (.lit 304), .int .i64 (.lit 334), .int .i64 (.lit 365)]), (1, [.int .i64 (.sym mx)])]
def gl (mx : Int) : Nat → Option (List AV) := Ax.look (glList mx)
noncomputable def rl : Nat → Option Rule := Ax.look [(101, ruleCopy 99), (68, ruleString 99 5)]
theorem rl_ok : RulesOk P (gl mx) rl := (rules_cons copyCheck_rule (rules_cons builderString_rule rules_nil))
noncomputable def E0 : List (Nat × Ax.Fn) := []
omit [IsProg P] in theorem E0_ok : EOk P (gl mx) (Ax.look E0) := eok_nil
def F_civil_Leap_T : List (Nat × List (Nat × Nat × Ax.Tm)) := []
theorem F_civil_Leap_eq : (fun ds => (fnO tau (gl mx) (xd F_civil_Leap_T) rl (Ax.look E0) 100 155 [.int .i64] (.bool) ds).run) = F_civil_Leap := by kernel_rfl
theorem F_civil_Leap_ok : FnOk P (gl mx) 155 ⟨[.int .i64], (.bool), F_civil_Leap⟩ := F_civil_Leap_eq ▸ fnO_ok tau_ok mix (xd_ok _) rl_ok (E0_ok)
noncomputable def E1 : List (Nat × Ax.Fn) := (155, ⟨[.int .i64], (.bool), F_civil_Leap⟩) :: E0
theorem E1_ok : EOk P (gl mx) (Ax.look E1) := eok_cons F_civil_Leap_ok E0_ok
def F_civil_Len_T : List (Nat × List (Nat × Nat × Ax.Tm)) := []
theorem F_civil_Len_eq : (fun ds => (fnO tau (gl mx) (xd F_civil_Len_T) rl (Ax.look E1) 100 137 [.int .i64, .int .i64] (.int .i64) ds).run) = F_civil_Len := by kernel_rfl
theorem F_civil_Len_ok : FnOk P (gl mx) 137 ⟨[.int .i64, .int .i64], (.int .i64), F_civil_Len⟩ := F_civil_Len_eq ▸ fnO_ok tau_ok mix (xd_ok _) rl_ok (E1_ok)
noncomputable def E2 : List (Nat × Ax.Fn) := (137, ⟨[.int .i64, .int .i64], (.int .i64), F_civil_Len⟩) :: E1
theorem E2_ok : EOk P (gl mx) (Ax.look E2) := eok_cons F_civil_Len_ok E1_ok
def F_civil_floor_T : List (Nat × List (Nat × Nat × Ax.Tm)) := []
theorem F_civil_floor_eq : (fun ds => (fnO tau (gl mx) (xd F_civil_floor_T) rl (Ax.look E2) 100 154 [.int .i64, .int .i64] (.int .i64) ds).run) = F_civil_floor := by kernel_rfl
theorem F_civil_floor_ok : FnOk P (gl mx) 154 ⟨[.int .i64, .int .i64], (.int .i64), F_civil_floor⟩ := F_civil_floor_eq ▸ fnO_ok tau_ok mix (xd_ok _) rl_ok (E2_ok)
noncomputable def E3 : List (Nat × Ax.Fn) := (154, ⟨[.int .i64, .int .i64], (.int .i64), F_civil_floor⟩) :: E2
theorem E3_ok : EOk P (gl mx) (Ax.look E3) := eok_cons F_civil_floor_ok E2_ok
def F_civil_Days_T : List (Nat × List (Nat × Nat × Ax.Tm)) := []
theorem F_civil_Days_eq : (fun ds => (fnO tau (gl mx) (xd F_civil_Days_T) rl (Ax.look E3) 100 135 [.int .i64, .int .i64, .int .i64] (.tuple [.int .i64, .int .i64]) ds).run) = F_civil_Days := by kernel_rfl
theorem F_civil_Days_ok : FnOk P (gl mx) 135 ⟨[.int .i64, .int .i64, .int .i64], (.tuple [.int .i64, .int .i64]), F_civil_Days⟩ := F_civil_Days_eq ▸ fnO_ok tau_ok mix (xd_ok _) rl_ok (E3_ok)
noncomputable def E4 : List (Nat × Ax.Fn) := (135, ⟨[.int .i64, .int .i64, .int .i64], (.tuple [.int .i64, .int .i64]), F_civil_Days⟩) :: E3
theorem E4_ok : EOk P (gl mx) (Ax.look E4) := eok_cons F_civil_Days_ok E3_ok
def F_dayform_dayOf_T : List (Nat × List (Nat × Nat × Ax.Tm)) := []
theorem F_dayform_dayOf_eq : (fun ds => (fnO tau (gl mx) (xd F_dayform_dayOf_T) rl (Ax.look E4) 100 172 [.agg [.int .i64, .int .i64, .int .i64], .int .i64] (.int .i64) ds).run) = F_dayform_dayOf := by kernel_rfl
theorem F_dayform_dayOf_ok : FnOk P (gl mx) 172 ⟨[.agg [.int .i64, .int .i64, .int .i64], .int .i64], (.int .i64), F_dayform_dayOf⟩ := F_dayform_dayOf_eq ▸ fnO_ok tau_ok mix (xd_ok _) rl_ok (E4_ok)
noncomputable def E5 : List (Nat × Ax.Fn) := (172, ⟨[.agg [.int .i64, .int .i64, .int .i64], .int .i64], (.int .i64), F_dayform_dayOf⟩) :: E4
theorem E5_ok : EOk P (gl mx) (Ax.look E5) := eok_cons F_dayform_dayOf_ok E4_ok
def F_civil_Weekday_T : List (Nat × List (Nat × Nat × Ax.Tm)) := []
theorem F_civil_Weekday_eq : (fun ds => (fnO tau (gl mx) (xd F_civil_Weekday_T) rl (Ax.look E5) 100 181 [.int .i64] (.int .i64) ds).run) = F_civil_Weekday := by kernel_rfl
theorem F_civil_Weekday_ok : FnOk P (gl mx) 181 ⟨[.int .i64], (.int .i64), F_civil_Weekday⟩ := F_civil_Weekday_eq ▸ fnO_ok tau_ok mix (xd_ok _) rl_ok (E5_ok)
noncomputable def E6 : List (Nat × Ax.Fn) := (181, ⟨[.int .i64], (.int .i64), F_civil_Weekday⟩) :: E5
theorem E6_ok : EOk P (gl mx) (Ax.look E6) := eok_cons F_civil_Weekday_ok E5_ok
def F_dayform_back_T : List (Nat × List (Nat × Nat × Ax.Tm)) := []
theorem F_dayform_back_eq : (fun ds => (fnO tau (gl mx) (xd F_dayform_back_T) rl (Ax.look E6) 100 174 [.int .i64, .int .i64] (.int .i64) ds).run) = F_dayform_back := by kernel_rfl
theorem F_dayform_back_ok : FnOk P (gl mx) 174 ⟨[.int .i64, .int .i64], (.int .i64), F_dayform_back⟩ := F_dayform_back_eq ▸ fnO_ok tau_ok mix (xd_ok _) rl_ok (E6_ok)
noncomputable def E7 : List (Nat × Ax.Fn) := (174, ⟨[.int .i64, .int .i64], (.int .i64), F_dayform_back⟩) :: E6
theorem E7_ok : EOk P (gl mx) (Ax.look E7) := eok_cons F_dayform_back_ok E6_ok
def F_dayform_kinds_T : List (Nat × List (Nat × Nat × Ax.Tm)) := []
theorem F_dayform_kinds_eq : (fun ds => (fnO tau (gl mx) (xd F_dayform_kinds_T) rl (Ax.look E7) 100 156 [] (.agg [.bool, .bool, .nilFunc, .bool, .bool, .func 171 [] [], .bool, .bool, .func 173 [] [], .bool, .bool, .func 175 [] [], .bool, .bool, .func 176 [] []]) ds).run) = F_dayform_kinds := by kernel_rfl
theorem F_dayform_kinds_ok : FnOk P (gl mx) 156 ⟨[], (.agg [.bool, .bool, .nilFunc, .bool, .bool, .func 171 [] [], .bool, .bool, .func 173 [] [], .bool, .bool, .func 175 [] [], .bool, .bool, .func 176 [] []]), F_dayform_kinds⟩ := F_dayform_kinds_eq ▸ fnO_ok tau_ok mix (xd_ok _) rl_ok (E7_ok)
noncomputable def E8 : List (Nat × Ax.Fn) := (156, ⟨[], (.agg [.bool, .bool, .nilFunc, .bool, .bool, .func 171 [] [], .bool, .bool, .func 173 [] [], .bool, .bool, .func 175 [] [], .bool, .bool, .func 176 [] []]), F_dayform_kinds⟩) :: E7
theorem E8_ok : EOk P (gl mx) (Ax.look E8) := eok_cons F_dayform_kinds_ok E7_ok
def F_dayform_On_T : List (Nat × List (Nat × Nat × Ax.Tm)) := []
theorem F_dayform_On_eq : (fun ds => (fnO tau (gl mx) (xd F_dayform_On_T) rl (Ax.look E8) 100 106 [.int .i64, .int .i64, .agg [.int .i64, .int .i64, .int .i64]] (.tuple [.int .i64, .int .i64]) ds).run) = F_dayform_On := by kernel_rfl
theorem F_dayform_On_ok : FnOk P (gl mx) 106 ⟨[.int .i64, .int .i64, .agg [.int .i64, .int .i64, .int .i64]], (.tuple [.int .i64, .int .i64]), F_dayform_On⟩ := F_dayform_On_eq ▸ fnO_ok tau_ok mix (xd_ok _) rl_ok (E8_ok)
noncomputable def E9 : List (Nat × Ax.Fn) := (106, ⟨[.int .i64, .int .i64, .agg [.int .i64, .int .i64, .int .i64]], (.tuple [.int .i64, .int .i64]), F_dayform_On⟩) :: E8
theorem E9_ok : EOk P (gl mx) (Ax.look E9) := eok_cons F_dayform_On_ok E8_ok
def F_number_Named_T : List (Nat × List (Nat × Nat × Ax.Tm)) := []
theorem F_number_Named_eq : (fun ds => (fnO tau (gl mx) (xd F_number_Named_T) rl (Ax.look E9) 100 107 [.int .i64] (.bool) ds).run) = F_number_Named := by kernel_rfl
theorem F_number_Named_ok : FnOk P (gl mx) 107 ⟨[.int .i64], (.bool), F_number_Named⟩ := F_number_Named_eq ▸ fnO_ok tau_ok mix (xd_ok _) rl_ok (E9_ok)
noncomputable def E10 : List (Nat × Ax.Fn) := (107, ⟨[.int .i64], (.bool), F_number_Named⟩) :: E9
theorem E10_ok : EOk P (gl mx) (Ax.look E10) := eok_cons F_number_Named_ok E9_ok
def F_clock_Check_T : List (Nat × List (Nat × Nat × Ax.Tm)) := []
theorem F_clock_Check_eq : (fun ds => (fnO tau (gl mx) (xd F_clock_Check_T) rl (Ax.look E10) 100 108 [.agg [.int .i64, .int .i64]] (.int .i64) ds).run) = F_clock_Check := by kernel_rfl
theorem F_clock_Check_ok : FnOk P (gl mx) 108 ⟨[.agg [.int .i64, .int .i64]], (.int .i64), F_clock_Check⟩ := F_clock_Check_eq ▸ fnO_ok tau_ok mix (xd_ok _) rl_ok (E10_ok)
noncomputable def E11 : List (Nat × Ax.Fn) := (108, ⟨[.agg [.int .i64, .int .i64]], (.int .i64), F_clock_Check⟩) :: E10
theorem E11_ok : EOk P (gl mx) (Ax.look E11) := eok_cons F_clock_Check_ok E10_ok
def F_until_nominal_T : List (Nat × List (Nat × Nat × Ax.Tm)) := []
theorem F_until_nominal_eq : (fun ds => (fnO tau (gl mx) (xd F_until_nominal_T) rl (Ax.look E11) 100 73 [.agg [.bool, .int .i64, .int .i64, .int .i64, .int .i64, .int .i64, .int .i64, .int .i64], .int .i64] (.tuple [.int .i64, .bool]) ds).run) = F_until_nominal := by kernel_rfl
theorem F_until_nominal_ok : FnOk P (gl mx) 73 ⟨[.agg [.bool, .int .i64, .int .i64, .int .i64, .int .i64, .int .i64, .int .i64, .int .i64], .int .i64], (.tuple [.int .i64, .bool]), F_until_nominal⟩ := F_until_nominal_eq ▸ fnO_ok tau_ok mix (xd_ok _) rl_ok (E11_ok)
noncomputable def E12 : List (Nat × Ax.Fn) := (73, ⟨[.agg [.bool, .int .i64, .int .i64, .int .i64, .int .i64, .int .i64, .int .i64, .int .i64], .int .i64], (.tuple [.int .i64, .bool]), F_until_nominal⟩) :: E11
theorem E12_ok : EOk P (gl mx) (Ax.look E12) := eok_cons F_until_nominal_ok E11_ok
def F_until_Nominal_T : List (Nat × List (Nat × Nat × Ax.Tm)) := []
theorem F_until_Nominal_eq : (fun ds => (fnO tau (gl mx) (xd F_until_Nominal_T) rl (Ax.look E12) 100 35 [.agg [.bool, .int .i64, .int .i64, .int .i64, .int .i64, .int .i64, .int .i64, .int .i64], .int .i64] (.tuple [.int .i64, .int .i64]) ds).run) = F_until_Nominal := by kernel_rfl
theorem F_until_Nominal_ok : FnOk P (gl mx) 35 ⟨[.agg [.bool, .int .i64, .int .i64, .int .i64, .int .i64, .int .i64, .int .i64, .int .i64], .int .i64], (.tuple [.int .i64, .int .i64]), F_until_Nominal⟩ := F_until_Nominal_eq ▸ fnO_ok tau_ok mix (xd_ok _) rl_ok (E12_ok)
noncomputable def E13 : List (Nat × Ax.Fn) := (35, ⟨[.agg [.bool, .int .i64, .int .i64, .int .i64, .int .i64, .int .i64, .int .i64, .int .i64], .int .i64], (.tuple [.int .i64, .int .i64]), F_until_Nominal⟩) :: E12
theorem E13_ok : EOk P (gl mx) (Ax.look E13) := eok_cons F_until_Nominal_ok E12_ok
def F_ref02_in_T : List (Nat × List (Nat × Nat × Ax.Tm)) := []
theorem F_ref02_in_eq : (fun ds => (fnO tau (gl mx) (xd F_ref02_in_T) rl (Ax.look E13) 100 109 [.int .i64, .int .i64, .int .i64] (.bool) ds).run) = F_ref02_in := by kernel_rfl
theorem F_ref02_in_ok : FnOk P (gl mx) 109 ⟨[.int .i64, .int .i64, .int .i64], (.bool), F_ref02_in⟩ := F_ref02_in_eq ▸ fnO_ok tau_ok mix (xd_ok _) rl_ok (E13_ok)
noncomputable def E14 : List (Nat × Ax.Fn) := (109, ⟨[.int .i64, .int .i64, .int .i64], (.bool), F_ref02_in⟩) :: E13
theorem E14_ok : EOk P (gl mx) (Ax.look E14) := eok_cons F_ref02_in_ok E13_ok
def F_ref02_Check_T : List (Nat × List (Nat × Nat × Ax.Tm)) := []
theorem F_ref02_Check_eq : (fun ds => (fnO tau (gl mx) (xd F_ref02_Check_T) rl (Ax.look E14) 100 110 [.agg [.int .i64, .int .i64, .int .i64]] (.int .i64) ds).run) = F_ref02_Check := by kernel_rfl
theorem F_ref02_Check_ok : FnOk P (gl mx) 110 ⟨[.agg [.int .i64, .int .i64, .int .i64]], (.int .i64), F_ref02_Check⟩ := F_ref02_Check_eq ▸ fnO_ok tau_ok mix (xd_ok _) rl_ok (E14_ok)
noncomputable def E15 : List (Nat × Ax.Fn) := (110, ⟨[.agg [.int .i64, .int .i64, .int .i64]], (.int .i64), F_ref02_Check⟩) :: E14
theorem E15_ok : EOk P (gl mx) (Ax.look E15) := eok_cons F_ref02_Check_ok E14_ok
def F_ref01_Leap_T : List (Nat × List (Nat × Nat × Ax.Tm)) := []
theorem F_ref01_Leap_eq : (fun ds => (fnO tau (gl mx) (xd F_ref01_Leap_T) rl (Ax.look E15) 100 138 [.int .i64] (.bool) ds).run) = F_ref01_Leap := by kernel_rfl
theorem F_ref01_Leap_ok : FnOk P (gl mx) 138 ⟨[.int .i64], (.bool), F_ref01_Leap⟩ := F_ref01_Leap_eq ▸ fnO_ok tau_ok mix (xd_ok _) rl_ok (E15_ok)
noncomputable def E16 : List (Nat × Ax.Fn) := (138, ⟨[.int .i64], (.bool), F_ref01_Leap⟩) :: E15
theorem E16_ok : EOk P (gl mx) (Ax.look E16) := eok_cons F_ref01_Leap_ok E15_ok
def F_ref01_Len_T : List (Nat × List (Nat × Nat × Ax.Tm)) := []
theorem F_ref01_Len_eq : (fun ds => (fnO tau (gl mx) (xd F_ref01_Len_T) rl (Ax.look E16) 100 111 [.int .i64, .int .i64] (.int .i64) ds).run) = F_ref01_Len := by kernel_rfl
theorem F_ref01_Len_ok : FnOk P (gl mx) 111 ⟨[.int .i64, .int .i64], (.int .i64), F_ref01_Len⟩ := F_ref01_Len_eq ▸ fnO_ok tau_ok mix (xd_ok _) rl_ok (E16_ok)
noncomputable def E17 : List (Nat × Ax.Fn) := (111, ⟨[.int .i64, .int .i64], (.int .i64), F_ref01_Len⟩) :: E16
theorem E17_ok : EOk P (gl mx) (Ax.look E17) := eok_cons F_ref01_Len_ok E16_ok
def F_ref01_in_T : List (Nat × List (Nat × Nat × Ax.Tm)) := []
theorem F_ref01_in_eq : (fun ds => (fnO tau (gl mx) (xd F_ref01_in_T) rl (Ax.look E17) 100 139 [.int .i64] (.bool) ds).run) = F_ref01_in := by kernel_rfl
theorem F_ref01_in_ok : FnOk P (gl mx) 139 ⟨[.int .i64], (.bool), F_ref01_in⟩ := F_ref01_in_eq ▸ fnO_ok tau_ok mix (xd_ok _) rl_ok (E17_ok)
noncomputable def E18 : List (Nat × Ax.Fn) := (139, ⟨[.int .i64], (.bool), F_ref01_in⟩) :: E17
theorem E18_ok : EOk P (gl mx) (Ax.look E18) := eok_cons F_ref01_in_ok E17_ok
def F_ref01_floor_T : List (Nat × List (Nat × Nat × Ax.Tm)) := []
theorem F_ref01_floor_eq : (fun ds => (fnO tau (gl mx) (xd F_ref01_floor_T) rl (Ax.look E18) 100 157 [.int .i64, .int .i64] (.int .i64) ds).run) = F_ref01_floor := by kernel_rfl
theorem F_ref01_floor_ok : FnOk P (gl mx) 157 ⟨[.int .i64, .int .i64], (.int .i64), F_ref01_floor⟩ := F_ref01_floor_eq ▸ fnO_ok tau_ok mix (xd_ok _) rl_ok (E18_ok)
noncomputable def E19 : List (Nat × Ax.Fn) := (157, ⟨[.int .i64, .int .i64], (.int .i64), F_ref01_floor⟩) :: E18
theorem E19_ok : EOk P (gl mx) (Ax.look E19) := eok_cons F_ref01_floor_ok E18_ok
def F_ref01_size_T : List (Nat × List (Nat × Nat × Ax.Tm)) := []
theorem F_ref01_size_eq : (fun ds => (fnO tau (gl mx) (xd F_ref01_size_T) rl (Ax.look E19) 100 158 [.int .i64] (.int .i64) ds).run) = F_ref01_size := by kernel_rfl
theorem F_ref01_size_ok : FnOk P (gl mx) 158 ⟨[.int .i64], (.int .i64), F_ref01_size⟩ := F_ref01_size_eq ▸ fnO_ok tau_ok mix (xd_ok _) rl_ok (E19_ok)
noncomputable def E20 : List (Nat × Ax.Fn) := (158, ⟨[.int .i64], (.int .i64), F_ref01_size⟩) :: E19
theorem E20_ok : EOk P (gl mx) (Ax.look E20) := eok_cons F_ref01_size_ok E19_ok
def F_ref01_first_T : List (Nat × List (Nat × Nat × Ax.Tm)) := [(140, [(4, 0, (⟨[(0, .int .i64), (4, .int .i64), (5, .int .i64)], [], 0⟩ : Go.Ax.Tm))])]
theorem F_ref01_first_eq : (fun ds => (fnO tau (gl mx) (xd F_ref01_first_T) rl (Ax.look E20) 100 140 [.int .i64] (.int .i64) ds).run) = F_ref01_first := by kernel_rfl
theorem F_ref01_first_ok : FnOk P (gl mx) 140 ⟨[.int .i64], (.int .i64), F_ref01_first⟩ := F_ref01_first_eq ▸ fnO_ok tau_ok mix (xd_ok _) rl_ok (E20_ok)
noncomputable def E21 : List (Nat × Ax.Fn) := (140, ⟨[.int .i64], (.int .i64), F_ref01_first⟩) :: E20
theorem E21_ok : EOk P (gl mx) (Ax.look E21) := eok_cons F_ref01_first_ok E20_ok
def F_ref01_Days_T : List (Nat × List (Nat × Nat × Ax.Tm)) := [(112, [(5, 0, (⟨[(0, .int .i64), (1, .int .i64), (2, .int .i64), (8, .int .i64), (9, .int .i64)], [], 0⟩ : Go.Ax.Tm))])]
theorem F_ref01_Days_eq : (fun ds => (fnO tau (gl mx) (xd F_ref01_Days_T) rl (Ax.look E21) 100 112 [.int .i64, .int .i64, .int .i64] (.tuple [.int .i64, .int .i64]) ds).run) = F_ref01_Days := by kernel_rfl
theorem F_ref01_Days_ok : FnOk P (gl mx) 112 ⟨[.int .i64, .int .i64, .int .i64], (.tuple [.int .i64, .int .i64]), F_ref01_Days⟩ := F_ref01_Days_eq ▸ fnO_ok tau_ok mix (xd_ok _) rl_ok (E21_ok)
noncomputable def E22 : List (Nat × Ax.Fn) := (112, ⟨[.int .i64, .int .i64, .int .i64], (.tuple [.int .i64, .int .i64]), F_ref01_Days⟩) :: E21
theorem E22_ok : EOk P (gl mx) (Ax.look E22) := eok_cons F_ref01_Days_ok E21_ok
def F_ref01_Weekday_T : List (Nat × List (Nat × Nat × Ax.Tm)) := []
theorem F_ref01_Weekday_eq : (fun ds => (fnO tau (gl mx) (xd F_ref01_Weekday_T) rl (Ax.look E22) 100 113 [.int .i64] (.int .i64) ds).run) = F_ref01_Weekday := by kernel_rfl
theorem F_ref01_Weekday_ok : FnOk P (gl mx) 113 ⟨[.int .i64], (.int .i64), F_ref01_Weekday⟩ := F_ref01_Weekday_eq ▸ fnO_ok tau_ok mix (xd_ok _) rl_ok (E22_ok)
noncomputable def E23 : List (Nat × Ax.Fn) := (113, ⟨[.int .i64], (.int .i64), F_ref01_Weekday⟩) :: E22
theorem E23_ok : EOk P (gl mx) (Ax.look E23) := eok_cons F_ref01_Weekday_ok E22_ok
def F_ref02_On_T : List (Nat × List (Nat × Nat × Ax.Tm)) := [(75, [(13, 1, (⟨[(5, .ptr 0 0), (10, .int .i64)], [(0, .each [.int .i64, .int .i64, .int .i64])], 1⟩ : Go.Ax.Tm)), (19, 1, (⟨[(5, .ptr 0 0), (11, .int .i64)], [(0, .each [.int .i64, .int .i64, .int .i64])], 1⟩ : Go.Ax.Tm))])]
theorem F_ref02_On_eq : (fun ds => (fnO tau (gl mx) (xd F_ref02_On_T) rl (Ax.look E23) 100 75 [.int .i64, .int .i64, .agg [.int .i64, .int .i64, .int .i64]] (.tuple [.int .i64, .int .i64]) ds).run) = F_ref02_On := by kernel_rfl
theorem F_ref02_On_ok : FnOk P (gl mx) 75 ⟨[.int .i64, .int .i64, .agg [.int .i64, .int .i64, .int .i64]], (.tuple [.int .i64, .int .i64]), F_ref02_On⟩ := F_ref02_On_eq ▸ fnO_ok tau_ok mix (xd_ok _) rl_ok (E23_ok)
noncomputable def E24 : List (Nat × Ax.Fn) := (75, ⟨[.int .i64, .int .i64, .agg [.int .i64, .int .i64, .int .i64]], (.tuple [.int .i64, .int .i64]), F_ref02_On⟩) :: E23
theorem E24_ok : EOk P (gl mx) (Ax.look E24) := eok_cons F_ref02_On_ok E23_ok
def F_ref22_Check_T : List (Nat × List (Nat × Nat × Ax.Tm)) := []
theorem F_ref22_Check_eq : (fun ds => (fnO tau (gl mx) (xd F_ref22_Check_T) rl (Ax.look E24) 100 38 [.agg [.bool, .int .i64, .int .i64, .int .i64, .int .i64, .int .i64, .int .i64, .int .i64], .int .i64] (.int .i64) ds).run) = F_ref22_Check := by kernel_rfl
theorem F_ref22_Check_ok : FnOk P (gl mx) 38 ⟨[.agg [.bool, .int .i64, .int .i64, .int .i64, .int .i64, .int .i64, .int .i64, .int .i64], .int .i64], (.int .i64), F_ref22_Check⟩ := F_ref22_Check_eq ▸ fnO_ok tau_ok mix (xd_ok _) rl_ok (E24_ok)
noncomputable def E25 : List (Nat × Ax.Fn) := (38, ⟨[.agg [.bool, .int .i64, .int .i64, .int .i64, .int .i64, .int .i64, .int .i64, .int .i64], .int .i64], (.int .i64), F_ref22_Check⟩) :: E24
theorem E25_ok : EOk P (gl mx) (Ax.look E25) := eok_cons F_ref22_Check_ok E24_ok
def F_ref22_seconds_T : List (Nat × List (Nat × Nat × Ax.Tm)) := []
theorem F_ref22_seconds_eq : (fun ds => (fnO tau (gl mx) (xd F_ref22_seconds_T) rl (Ax.look E25) 100 74 [.agg [.bool, .int .i64, .int .i64, .int .i64, .int .i64, .int .i64, .int .i64, .int .i64]] (.int .i64) ds).run) = F_ref22_seconds := by kernel_rfl
theorem F_ref22_seconds_ok : FnOk P (gl mx) 74 ⟨[.agg [.bool, .int .i64, .int .i64, .int .i64, .int .i64, .int .i64, .int .i64, .int .i64]], (.int .i64), F_ref22_seconds⟩ := F_ref22_seconds_eq ▸ fnO_ok tau_ok mix (xd_ok _) rl_ok (E25_ok)
noncomputable def E26 : List (Nat × Ax.Fn) := (74, ⟨[.agg [.bool, .int .i64, .int .i64, .int .i64, .int .i64, .int .i64, .int .i64, .int .i64]], (.int .i64), F_ref22_seconds⟩) :: E25
theorem E26_ok : EOk P (gl mx) (Ax.look E26) := eok_cons F_ref22_seconds_ok E25_ok
def F_ref22_Nominal_T : List (Nat × List (Nat × Nat × Ax.Tm)) := []
theorem F_ref22_Nominal_eq : (fun ds => (fnO tau (gl mx) (xd F_ref22_Nominal_T) rl (Ax.look E26) 100 36 [.agg [.bool, .int .i64, .int .i64, .int .i64, .int .i64, .int .i64, .int .i64, .int .i64], .int .i64] (.tuple [.int .i64, .int .i64]) ds).run) = F_ref22_Nominal := by kernel_rfl
theorem F_ref22_Nominal_ok : FnOk P (gl mx) 36 ⟨[.agg [.bool, .int .i64, .int .i64, .int .i64, .int .i64, .int .i64, .int .i64, .int .i64], .int .i64], (.tuple [.int .i64, .int .i64]), F_ref22_Nominal⟩ := F_ref22_Nominal_eq ▸ fnO_ok tau_ok mix (xd_ok _) rl_ok (E26_ok)
noncomputable def E27 : List (Nat × Ax.Fn) := (36, ⟨[.agg [.bool, .int .i64, .int .i64, .int .i64, .int .i64, .int .i64, .int .i64, .int .i64], .int .i64], (.tuple [.int .i64, .int .i64]), F_ref22_Nominal⟩) :: E26
theorem E27_ok : EOk P (gl mx) (Ax.look E27) := eok_cons F_ref22_Nominal_ok E26_ok
def F_until_Check_T : List (Nat × List (Nat × Nat × Ax.Tm)) := []
theorem F_until_Check_eq : (fun ds => (fnO tau (gl mx) (xd F_until_Check_T) rl (Ax.look E27) 100 37 [.agg [.bool, .int .i64, .int .i64, .int .i64, .int .i64, .int .i64, .int .i64, .int .i64], .int .i64] (.int .i64) ds).run) = F_until_Check := by kernel_rfl
theorem F_until_Check_ok : FnOk P (gl mx) 37 ⟨[.agg [.bool, .int .i64, .int .i64, .int .i64, .int .i64, .int .i64, .int .i64, .int .i64], .int .i64], (.int .i64), F_until_Check⟩ := F_until_Check_eq ▸ fnO_ok tau_ok mix (xd_ok _) rl_ok (E27_ok)
noncomputable def E28 : List (Nat × Ax.Fn) := (37, ⟨[.agg [.bool, .int .i64, .int .i64, .int .i64, .int .i64, .int .i64, .int .i64, .int .i64], .int .i64], (.int .i64), F_until_Check⟩) :: E27
theorem E28_ok : EOk P (gl mx) (Ax.look E28) := eok_cons F_until_Check_ok E27_ok
def F_law22_end_T : List (Nat × List (Nat × Nat × Ax.Tm)) := []
theorem F_law22_end_eq : (fun ds => (fnO tau (gl mx) (xd F_law22_end_T) rl (Ax.look E28) 100 76 [.int .i64, .int .i64, .int .i64, .int .i64, .int .i64] (.agg [.bool, .int .i64, .int .i64, .int .i64, .int .i64, .int .i64, .int .i64, .int .i64]) ds).run) = F_law22_end := by kernel_rfl
theorem F_law22_end_ok : FnOk P (gl mx) 76 ⟨[.int .i64, .int .i64, .int .i64, .int .i64, .int .i64], (.agg [.bool, .int .i64, .int .i64, .int .i64, .int .i64, .int .i64, .int .i64, .int .i64]), F_law22_end⟩ := F_law22_end_eq ▸ fnO_ok tau_ok mix (xd_ok _) rl_ok (E28_ok)
noncomputable def E29 : List (Nat × Ax.Fn) := (76, ⟨[.int .i64, .int .i64, .int .i64, .int .i64, .int .i64], (.agg [.bool, .int .i64, .int .i64, .int .i64, .int .i64, .int .i64, .int .i64, .int .i64]), F_law22_end⟩) :: E28
theorem E29_ok : EOk P (gl mx) (Ax.look E29) := eok_cons F_law22_end_ok E28_ok
def F_until_moderate_T : List (Nat × List (Nat × Nat × Ax.Tm)) := []
theorem F_until_moderate_eq : (fun ds => (fnO tau (gl mx) (xd F_until_moderate_T) rl (Ax.look E29) 100 78 [.int .i64] (.bool) ds).run) = F_until_moderate := by kernel_rfl
theorem F_until_moderate_ok : FnOk P (gl mx) 78 ⟨[.int .i64], (.bool), F_until_moderate⟩ := F_until_moderate_eq ▸ fnO_ok tau_ok mix (xd_ok _) rl_ok (E29_ok)
noncomputable def E30 : List (Nat × Ax.Fn) := (78, ⟨[.int .i64], (.bool), F_until_moderate⟩) :: E29
theorem E30_ok : EOk P (gl mx) (Ax.look E30) := eok_cons F_until_moderate_ok E29_ok
def F_ruleset_Least_T : List (Nat × List (Nat × Nat × Ax.Tm)) := [(42, [(3, 0, (⟨[(3, .int .i64), (6, .seq), (7, .int .i64), (8, .int .i64)], [], 0⟩ : Go.Ax.Tm))])]
theorem F_ruleset_Least_eq : (fun ds => (fnO tau (gl mx) (xd F_ruleset_Least_T) rl (Ax.look E30) 100 42 [.seq] (.int .i64) ds).run) = F_ruleset_Least := by kernel_rfl
theorem F_ruleset_Least_ok : FnOk P (gl mx) 42 ⟨[.seq], (.int .i64), F_ruleset_Least⟩ := F_ruleset_Least_eq ▸ fnO_ok tau_ok mix (xd_ok _) rl_ok (E30_ok)
noncomputable def E31 : List (Nat × Ax.Fn) := (42, ⟨[.seq], (.int .i64), F_ruleset_Least⟩) :: E30
theorem E31_ok : EOk P (gl mx) (Ax.look E31) := eok_cons F_ruleset_Least_ok E30_ok
def F_until_baseSave_T : List (Nat × List (Nat × Nat × Ax.Tm)) := []
theorem F_until_baseSave_eq : (fun ds => (fnO tau (gl mx) (xd F_until_baseSave_T) rl (Ax.look E31) 100 79 [.agg [.int .i64, .int .i64, .int .i64, .str, .str, .bool, .int .i64, .int .i64, .int .i64, .int .i64, .int .i64, .int .i64, .int .i64], .seq] (.int .i64) ds).run) = F_until_baseSave := by kernel_rfl
theorem F_until_baseSave_ok : FnOk P (gl mx) 79 ⟨[.agg [.int .i64, .int .i64, .int .i64, .str, .str, .bool, .int .i64, .int .i64, .int .i64, .int .i64, .int .i64, .int .i64, .int .i64], .seq], (.int .i64), F_until_baseSave⟩ := F_until_baseSave_eq ▸ fnO_ok tau_ok mix (xd_ok _) rl_ok (E31_ok)
noncomputable def E32 : List (Nat × Ax.Fn) := (79, ⟨[.agg [.int .i64, .int .i64, .int .i64, .str, .str, .bool, .int .i64, .int .i64, .int .i64, .int .i64, .int .i64, .int .i64, .int .i64], .seq], (.int .i64), F_until_baseSave⟩) :: E31
theorem E32_ok : EOk P (gl mx) (Ax.look E32) := eok_cons F_until_baseSave_ok E31_ok
def F_events_baseSave_T : List (Nat × List (Nat × Nat × Ax.Tm)) := []
theorem F_events_baseSave_eq : (fun ds => (fnO tau (gl mx) (xd F_events_baseSave_T) rl (Ax.look E32) 100 146 [.seq] (.int .i64) ds).run) = F_events_baseSave := by kernel_rfl
theorem F_events_baseSave_ok : FnOk P (gl mx) 146 ⟨[.seq], (.int .i64), F_events_baseSave⟩ := F_events_baseSave_eq ▸ fnO_ok tau_ok mix (xd_ok _) rl_ok (E32_ok)
noncomputable def E33 : List (Nat × Ax.Fn) := (146, ⟨[.seq], (.int .i64), F_events_baseSave⟩) :: E32
theorem E33_ok : EOk P (gl mx) (Ax.look E33) := eok_cons F_events_baseSave_ok E32_ok
def F_civil_fromMarch_T : List (Nat × List (Nat × Nat × Ax.Tm)) := []
theorem F_civil_fromMarch_eq : (fun ds => (fnO tau (gl mx) (xd F_civil_fromMarch_T) rl (Ax.look E33) 100 177 [.int .i64] (.tuple [.int .i64, .int .i64]) ds).run) = F_civil_fromMarch := by kernel_rfl
theorem F_civil_fromMarch_ok : FnOk P (gl mx) 177 ⟨[.int .i64], (.tuple [.int .i64, .int .i64]), F_civil_fromMarch⟩ := F_civil_fromMarch_eq ▸ fnO_ok tau_ok mix (xd_ok _) rl_ok (E33_ok)
noncomputable def E34 : List (Nat × Ax.Fn) := (177, ⟨[.int .i64], (.tuple [.int .i64, .int .i64]), F_civil_fromMarch⟩) :: E33
theorem E34_ok : EOk P (gl mx) (Ax.look E34) := eok_cons F_civil_fromMarch_ok E33_ok
def F_civil_Date_T : List (Nat × List (Nat × Nat × Ax.Tm)) := []
theorem F_civil_Date_eq : (fun ds => (fnO tau (gl mx) (xd F_civil_Date_T) rl (Ax.look E34) 100 163 [.int .i64] (.tuple [.int .i64, .int .i64, .int .i64, .int .i64]) ds).run) = F_civil_Date := by kernel_rfl
theorem F_civil_Date_ok : FnOk P (gl mx) 163 ⟨[.int .i64], (.tuple [.int .i64, .int .i64, .int .i64, .int .i64]), F_civil_Date⟩ := F_civil_Date_eq ▸ fnO_ok tau_ok mix (xd_ok _) rl_ok (E34_ok)
noncomputable def E35 : List (Nat × Ax.Fn) := (163, ⟨[.int .i64], (.tuple [.int .i64, .int .i64, .int .i64, .int .i64]), F_civil_Date⟩) :: E34
theorem E35_ok : EOk P (gl mx) (Ax.look E35) := eok_cons F_civil_Date_ok E34_ok
def F_civil_Year_T : List (Nat × List (Nat × Nat × Ax.Tm)) := []
theorem F_civil_Year_eq : (fun ds => (fnO tau (gl mx) (xd F_civil_Year_T) rl (Ax.look E35) 100 147 [.int .i64] (.int .i64) ds).run) = F_civil_Year := by kernel_rfl
theorem F_civil_Year_ok : FnOk P (gl mx) 147 ⟨[.int .i64], (.int .i64), F_civil_Year⟩ := F_civil_Year_eq ▸ fnO_ok tau_ok mix (xd_ok _) rl_ok (E35_ok)
noncomputable def E36 : List (Nat × Ax.Fn) := (147, ⟨[.int .i64], (.int .i64), F_civil_Year⟩) :: E35
theorem E36_ok : EOk P (gl mx) (Ax.look E36) := eok_cons F_civil_Year_ok E35_ok
def F_cmp_isNaN_T : List (Nat × List (Nat × Nat × Ax.Tm)) := []
theorem F_cmp_isNaN_eq : (fun ds => (fnO tau (gl mx) (xd F_cmp_isNaN_T) rl (Ax.look E36) 100 178 [.int .i64] (.bool) ds).run) = F_cmp_isNaN := by kernel_rfl
theorem F_cmp_isNaN_ok : FnOk P (gl mx) 178 ⟨[.int .i64], (.bool), F_cmp_isNaN⟩ := F_cmp_isNaN_eq ▸ fnO_ok tau_ok mix (xd_ok _) rl_ok (E36_ok)
noncomputable def E37 : List (Nat × Ax.Fn) := (178, ⟨[.int .i64], (.bool), F_cmp_isNaN⟩) :: E36
theorem E37_ok : EOk P (gl mx) (Ax.look E37) := eok_cons F_cmp_isNaN_ok E36_ok
def F_cmp_Compare_T : List (Nat × List (Nat × Nat × Ax.Tm)) := []
theorem F_cmp_Compare_eq : (fun ds => (fnO tau (gl mx) (xd F_cmp_Compare_T) rl (Ax.look E37) 100 165 [.int .i64, .int .i64] (.int .i64) ds).run) = F_cmp_Compare := by kernel_rfl
theorem F_cmp_Compare_ok : FnOk P (gl mx) 165 ⟨[.int .i64, .int .i64], (.int .i64), F_cmp_Compare⟩ := F_cmp_Compare_eq ▸ fnO_ok tau_ok mix (xd_ok _) rl_ok (E37_ok)
noncomputable def E38 : List (Nat × Ax.Fn) := (165, ⟨[.int .i64, .int .i64], (.int .i64), F_cmp_Compare⟩) :: E37
theorem E38_ok : EOk P (gl mx) (Ax.look E38) := eok_cons F_cmp_Compare_ok E37_ok
def F_cmp_isNaN_2_T : List (Nat × List (Nat × Nat × Ax.Tm)) := []
theorem F_cmp_isNaN_2_eq : (fun ds => (fnO tau (gl mx) (xd F_cmp_isNaN_2_T) rl (Ax.look E38) 100 179 [.int .i64] (.bool) ds).run) = F_cmp_isNaN_2 := by kernel_rfl
theorem F_cmp_isNaN_2_ok : FnOk P (gl mx) 179 ⟨[.int .i64], (.bool), F_cmp_isNaN_2⟩ := F_cmp_isNaN_2_eq ▸ fnO_ok tau_ok mix (xd_ok _) rl_ok (E38_ok)
noncomputable def E39 : List (Nat × Ax.Fn) := (179, ⟨[.int .i64], (.bool), F_cmp_isNaN_2⟩) :: E38
theorem E39_ok : EOk P (gl mx) (Ax.look E39) := eok_cons F_cmp_isNaN_2_ok E38_ok
def F_cmp_Compare_2_T : List (Nat × List (Nat × Nat × Ax.Tm)) := []
theorem F_cmp_Compare_2_eq : (fun ds => (fnO tau (gl mx) (xd F_cmp_Compare_2_T) rl (Ax.look E39) 100 167 [.int .i64, .int .i64] (.int .i64) ds).run) = F_cmp_Compare_2 := by kernel_rfl
theorem F_cmp_Compare_2_ok : FnOk P (gl mx) 167 ⟨[.int .i64, .int .i64], (.int .i64), F_cmp_Compare_2⟩ := F_cmp_Compare_2_eq ▸ fnO_ok tau_ok mix (xd_ok _) rl_ok (E39_ok)
noncomputable def E40 : List (Nat × Ax.Fn) := (167, ⟨[.int .i64, .int .i64], (.int .i64), F_cmp_Compare_2⟩) :: E39
theorem E40_ok : EOk P (gl mx) (Ax.look E40) := eok_cons F_cmp_Compare_2_ok E39_ok
def F_cmp_Or_T : List (Nat × List (Nat × Nat × Ax.Tm)) := [(166, [(3, 0, (⟨[(3, .ilit .i64 0), (6, .seq), (7, .int .i64), (8, .int .i64)], [], 0⟩ : Go.Ax.Tm))])]
theorem F_cmp_Or_eq : (fun ds => (fnO tau (gl mx) (xd F_cmp_Or_T) rl (Ax.look E40) 100 166 [.seq] (.int .i64) ds).run) = F_cmp_Or := by kernel_rfl
theorem F_cmp_Or_ok : FnOk P (gl mx) 166 ⟨[.seq], (.int .i64), F_cmp_Or⟩ := F_cmp_Or_eq ▸ fnO_ok tau_ok mix (xd_ok _) rl_ok (E40_ok)
noncomputable def E41 : List (Nat × Ax.Fn) := (166, ⟨[.seq], (.int .i64), F_cmp_Or⟩) :: E40
theorem E41_ok : EOk P (gl mx) (Ax.look E41) := eok_cons F_cmp_Or_ok E40_ok
def F_events_compare_T : List (Nat × List (Nat × Nat × Ax.Tm)) := []
theorem F_events_compare_eq : (fun ds => (fnO tau (gl mx) (xd F_events_compare_T) rl (Ax.look E41) 100 150 [.agg [.int .i64, .int .i64, .int .i64], .agg [.int .i64, .int .i64, .int .i64]] (.int .i64) ds).run) = F_events_compare := by kernel_rfl
theorem F_events_compare_ok : FnOk P (gl mx) 150 ⟨[.agg [.int .i64, .int .i64, .int .i64], .agg [.int .i64, .int .i64, .int .i64]], (.int .i64), F_events_compare⟩ := F_events_compare_eq ▸ fnO_ok tau_ok mix (xd_ok _) rl_ok (E41_ok)
noncomputable def E42 : List (Nat × Ax.Fn) := (150, ⟨[.agg [.int .i64, .int .i64, .int .i64], .agg [.int .i64, .int .i64, .int .i64]], (.int .i64), F_events_compare⟩) :: E41
theorem E42_ok : EOk P (gl mx) (Ax.look E42) := eok_cons F_events_compare_ok E41_ok
noncomputable def E43 : List (Nat × Ax.Fn) := E42
theorem E43_ok : EOk P (gl mx) (Ax.look E43) := E42_ok
noncomputable def E44 : List (Nat × Ax.Fn) := E43
theorem E44_ok : EOk P (gl mx) (Ax.look E44) := E43_ok
def F_state_baseSave_T : List (Nat × List (Nat × Nat × Ax.Tm)) := [(169, [(3, 0, (⟨[(3, .int .i64), (6, .seq), (7, .int .i64), (8, .int .i64)], [], 0⟩ : Go.Ax.Tm))])]
theorem F_state_baseSave_eq : (fun ds => (fnO tau (gl mx) (xd F_state_baseSave_T) rl (Ax.look E44) 100 169 [.seq] (.int .i64) ds).run) = F_state_baseSave := by kernel_rfl
theorem F_state_baseSave_ok : FnOk P (gl mx) 169 ⟨[.seq], (.int .i64), F_state_baseSave⟩ := F_state_baseSave_eq ▸ fnO_ok tau_ok mix (xd_ok _) rl_ok (E44_ok)
noncomputable def E45 : List (Nat × Ax.Fn) := (169, ⟨[.seq], (.int .i64), F_state_baseSave⟩) :: E44
theorem E45_ok : EOk P (gl mx) (Ax.look E45) := eok_cons F_state_baseSave_ok E44_ok
noncomputable def E46 : List (Nat × Ax.Fn) := E45
theorem E46_ok : EOk P (gl mx) (Ax.look E46) := E45_ok
noncomputable def E47 : List (Nat × Ax.Fn) := E46
theorem E47_ok : EOk P (gl mx) (Ax.look E47) := E46_ok
def F_state_behind_T : List (Nat × List (Nat × Nat × Ax.Tm)) := []
theorem F_state_behind_eq : (fun ds => (fnO tau (gl mx) (xd F_state_behind_T) rl (Ax.look E47) 100 86 [.seq, .agg [.int .i64, .int .i64, .int .i64]] (.agg [.int .i64, .str]) ds).run) = F_state_behind := by kernel_rfl
theorem F_state_behind_ok : FnOk P (gl mx) 86 ⟨[.seq, .agg [.int .i64, .int .i64, .int .i64]], (.agg [.int .i64, .str]), F_state_behind⟩ := F_state_behind_eq ▸ fnO_ok tau_ok mix (xd_ok _) rl_ok (E47_ok)
noncomputable def E48 : List (Nat × Ax.Fn) := (86, ⟨[.seq, .agg [.int .i64, .int .i64, .int .i64]], (.agg [.int .i64, .str]), F_state_behind⟩) :: E47
theorem E48_ok : EOk P (gl mx) (Ax.look E48) := eok_cons F_state_behind_ok E47_ok
noncomputable def E49 : List (Nat × Ax.Fn) := E48
theorem E49_ok : EOk P (gl mx) (Ax.look E49) := E48_ok
noncomputable def E50 : List (Nat × Ax.Fn) := E49
theorem E50_ok : EOk P (gl mx) (Ax.look E50) := E49_ok
def F_until_saveBefore_T : List (Nat × List (Nat × Nat × Ax.Tm)) := []
theorem F_until_saveBefore_eq : (fun ds => (fnO tau (gl mx) (xd F_until_saveBefore_T) rl (Ax.look E50) 100 80 [.agg [.int .i64, .int .i64, .int .i64, .str, .str, .bool, .int .i64, .int .i64, .int .i64, .int .i64, .int .i64, .int .i64, .int .i64], .seq, .int .i64] (.int .i64) ds).run) = F_until_saveBefore := by kernel_rfl
theorem F_until_saveBefore_ok : FnOk P (gl mx) 80 ⟨[.agg [.int .i64, .int .i64, .int .i64, .str, .str, .bool, .int .i64, .int .i64, .int .i64, .int .i64, .int .i64, .int .i64, .int .i64], .seq, .int .i64], (.int .i64), F_until_saveBefore⟩ := F_until_saveBefore_eq ▸ fnO_ok tau_ok mix (xd_ok _) rl_ok (E50_ok)
noncomputable def E51 : List (Nat × Ax.Fn) := (80, ⟨[.agg [.int .i64, .int .i64, .int .i64, .str, .str, .bool, .int .i64, .int .i64, .int .i64, .int .i64, .int .i64, .int .i64, .int .i64], .seq, .int .i64], (.int .i64), F_until_saveBefore⟩) :: E50
theorem E51_ok : EOk P (gl mx) (Ax.look E51) := eok_cons F_until_saveBefore_ok E50_ok
def F_until_Instant_T : List (Nat × List (Nat × Nat × Ax.Tm)) := []
theorem F_until_Instant_eq : (fun ds => (fnO tau (gl mx) (xd F_until_Instant_T) rl (Ax.look E51) 100 40 [.agg [.int .i64, .int .i64, .int .i64, .str, .str, .bool, .int .i64, .int .i64, .int .i64, .int .i64, .int .i64, .int .i64, .int .i64], .seq] (.tuple [.int .i64, .int .i64]) ds).run) = F_until_Instant := by kernel_rfl
theorem F_until_Instant_ok : FnOk P (gl mx) 40 ⟨[.agg [.int .i64, .int .i64, .int .i64, .str, .str, .bool, .int .i64, .int .i64, .int .i64, .int .i64, .int .i64, .int .i64, .int .i64], .seq], (.tuple [.int .i64, .int .i64]), F_until_Instant⟩ := F_until_Instant_eq ▸ fnO_ok tau_ok mix (xd_ok _) rl_ok (E51_ok)
noncomputable def E52 : List (Nat × Ax.Fn) := (40, ⟨[.agg [.int .i64, .int .i64, .int .i64, .str, .str, .bool, .int .i64, .int .i64, .int .i64, .int .i64, .int .i64, .int .i64, .int .i64], .seq], (.tuple [.int .i64, .int .i64]), F_until_Instant⟩) :: E51
theorem E52_ok : EOk P (gl mx) (Ax.look E52) := eok_cons F_until_Instant_ok E51_ok
def F_law22_ends_T : List (Nat × List (Nat × Nat × Ax.Tm)) := []
theorem F_law22_ends_eq : (fun ds => (fnO tau (gl mx) (xd F_law22_ends_T) rl (Ax.look E52) 100 77 [.agg [.int .i64, .int .i64, .int .i64, .str, .str, .bool, .int .i64, .int .i64, .int .i64, .int .i64, .int .i64, .int .i64, .int .i64], .int .i64] (.bool) ds).run) = F_law22_ends := by kernel_rfl
theorem F_law22_ends_ok : FnOk P (gl mx) 77 ⟨[.agg [.int .i64, .int .i64, .int .i64, .str, .str, .bool, .int .i64, .int .i64, .int .i64, .int .i64, .int .i64, .int .i64, .int .i64], .int .i64], (.bool), F_law22_ends⟩ := F_law22_ends_eq ▸ fnO_ok tau_ok mix (xd_ok _) rl_ok (E52_ok)
noncomputable def E53 : List (Nat × Ax.Fn) := (77, ⟨[.agg [.int .i64, .int .i64, .int .i64, .str, .str, .bool, .int .i64, .int .i64, .int .i64, .int .i64, .int .i64, .int .i64, .int .i64], .int .i64], (.bool), F_law22_ends⟩) :: E52
theorem E53_ok : EOk P (gl mx) (Ax.look E53) := eok_cons F_law22_ends_ok E52_ok
theorem F_law22_works_eq : (fun ds => (fnO tau (gl mx) (xd []) rl (Ax.look E53) 3000 39 [] (.bool) ds).run) = F_law22_works := by kernel_rfl
theorem F_law22_works_ok : FnOk P (gl mx) 39 ⟨[], (.bool), F_law22_works⟩ := F_law22_works_eq ▸ fnO_ok tau_ok mix (xd_ok _) rl_ok (E53_ok)
noncomputable def E54 : List (Nat × Ax.Fn) := (39, ⟨[], (.bool), F_law22_works⟩) :: E53
theorem E54_ok : EOk P (gl mx) (Ax.look E54) := eok_cons F_law22_works_ok E53_ok
def F_law22_UntilEnds_T : List (Nat × List (Nat × Nat × Ax.Tm)) := []
theorem F_law22_UntilEnds_eq : (fun ds => (fnO tau (gl mx) (xd F_law22_UntilEnds_T) rl (Ax.look E54) 100 9 [.agg [.bool, .int .i64, .int .i64, .int .i64, .int .i64, .int .i64, .int .i64, .int .i64], .int .i64] (.bool) ds).run) = F_law22_UntilEnds := by kernel_rfl
theorem F_law22_UntilEnds_ok : FnOk P (gl mx) 9 ⟨[.agg [.bool, .int .i64, .int .i64, .int .i64, .int .i64, .int .i64, .int .i64, .int .i64], .int .i64], (.bool), F_law22_UntilEnds⟩ := F_law22_UntilEnds_eq ▸ fnO_ok tau_ok mix (xd_ok _) rl_ok (E54_ok)
noncomputable def E55 : List (Nat × Ax.Fn) := (9, ⟨[.agg [.bool, .int .i64, .int .i64, .int .i64, .int .i64, .int .i64, .int .i64, .int .i64], .int .i64], (.bool), F_law22_UntilEnds⟩) :: E54
theorem E55_ok : EOk P (gl mx) (Ax.look E55) := eok_cons F_law22_UntilEnds_ok E54_ok
end Go.Proofs.YtcohbcdhcmajiaaDoor
