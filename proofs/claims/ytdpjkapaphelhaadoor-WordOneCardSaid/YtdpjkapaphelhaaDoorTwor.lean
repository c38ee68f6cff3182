/-
  The functions of plain data are what the program's code says.
-/
import Derived.Test.YtdpjkapaphelhaaDoorAxT
import Derived.Test.YtdpjkapaphelhaaDoorShelf
import Derived.Test.YtdpjkapaphelhaaDoorFwor
import Derived.Test.YtdpjkapaphelhaaDoorHWordFind
namespace Go.Proofs.YtdpjkapaphelhaaDoor
open Go.Ax
set_option linter.all false
set_option maxRecDepth 100000
set_option maxHeartbeats 4000000
variable {P : Program} [IsProg P]
variable {mx : Int}
def glList (mx : Int) : List (Nat × List AV) := [(1, [.str (.lit [114, 117, 108, 101]), .str (.lit [122, 111, 110, 101]), .str (.lit [108, 105, 110, 107]), .str (.lit [115, 104, 105, 102, 116]), .str (.lit []), .str (.lit []), .str (.lit []), .str (.lit []), .str (.lit []), .str (.lit []), .str (.lit []), .str (.lit [])]), (2, [.str (.lit [106, 97, 110, 117, 97, 114, 121]), .str (.lit [102, 101, 98, 114, 117, 97, 114, 121]), .str (.lit [109, 97, 114, 99, 104]), .str (.lit [97, 112, 114, 105, 108]), .str (.lit [109, 97, 121]), .str (.lit [106, 117, 110, 101]), .str (.lit [106, 117, 108, 121]), .str (.lit [97, 117, 103, 117, 115, 116]), .str (.lit [115, 101, 112, 116, 101, 109, 98, 101, 114]), .str (.lit [111, 99, 116, 111, 98, 101, 114]), .str (.lit [110, 111, 118, 101, 109, 98, 101, 114]), .str (.lit [100, 101, 99, 101, 109, 98, 101, 114])]), (3, [.str (.lit [115, 117, 110, 100, 97, 121]), .str (.lit [109, 111, 110, 100, 97, 121]), .str (.lit [116, 117, 101, 115, 100, 97, 121]), .str (.lit [119, 101, 100, 110, 101, 115, 100, 97, 121]), .str (.lit [116, 104, 117, 114, 115, 100, 97, 121]), .str (.lit [102, 114, 105, 100, 97, 121]), .str (.lit [115, 97, 116, 117, 114, 100, 97, 121]), .str (.lit []), .str (.lit []), .str (.lit []), .str (.lit []), .str (.lit [])]), (4, [.str (.lit [111, 110, 108, 121]), .str (.lit [109, 97, 120, 105, 109, 117, 109]), .str (.lit []), .str (.lit []), .str (.lit []), .str (.lit []), .str (.lit []), .str (.lit []), .str (.lit []), .str (.lit []), .str (.lit []), .str (.lit [])]), (5, [.int .i64 (.sym mx)])]
def gl (mx : Int) : Nat → Option (List AV) := Ax.look (glList mx)
noncomputable def rl : Nat → Option Rule := noR
theorem rl_ok : RulesOk P (gl mx) rl := noR_ok
noncomputable def E0 : List (Nat × Ax.Fn) := []
omit [IsProg P] in theorem E0_ok : EOk P (gl mx) (Ax.look E0) := eok_nil
theorem shelf50 : FnOk P (gl mx) 50 ⟨[.agg [.str, .str, .str, .str, .str, .str, .str, .str, .str, .str, .str, .str], .int .i64, .str], (.tuple [.int .i64, .int .i64]), wordFind⟩ := by
  have h := IsProg.eq (P := P)
  subst h
  exact wordFind_ok
noncomputable def E1 : List (Nat × Ax.Fn) := (50, ⟨[.agg [.str, .str, .str, .str, .str, .str, .str, .str, .str, .str, .str, .str], .int .i64, .str], (.tuple [.int .i64, .int .i64]), wordFind⟩) :: E0
theorem E1_ok : EOk P (gl mx) (Ax.look E1) := eok_cons shelf50 E0_ok
def F_word_Line_T : List (Nat × List (Nat × Nat × Ax.Tm)) := []
theorem F_word_Line_eq : (fun ds => (fnO tau (gl mx) (xd F_word_Line_T) rl (Ax.look E1) 100 26 [.str] (.tuple [.int .i64, .int .i64]) ds).run) = F_word_Line := by kernel_rfl
theorem F_word_Line_ok : FnOk P (gl mx) 26 ⟨[.str], (.tuple [.int .i64, .int .i64]), F_word_Line⟩ := F_word_Line_eq ▸ fnO_ok tau_ok mix (xd_ok _) rl_ok (E1_ok)
noncomputable def E2 : List (Nat × Ax.Fn) := (26, ⟨[.str], (.tuple [.int .i64, .int .i64]), F_word_Line⟩) :: E1
theorem E2_ok : EOk P (gl mx) (Ax.look E2) := eok_cons F_word_Line_ok E1_ok
def F_word_Month_T : List (Nat × List (Nat × Nat × Ax.Tm)) := []
theorem F_word_Month_eq : (fun ds => (fnO tau (gl mx) (xd F_word_Month_T) rl (Ax.look E2) 100 28 [.str] (.tuple [.int .i64, .int .i64]) ds).run) = F_word_Month := by kernel_rfl
theorem F_word_Month_ok : FnOk P (gl mx) 28 ⟨[.str], (.tuple [.int .i64, .int .i64]), F_word_Month⟩ := F_word_Month_eq ▸ fnO_ok tau_ok mix (xd_ok _) rl_ok (E2_ok)
noncomputable def E3 : List (Nat × Ax.Fn) := (28, ⟨[.str], (.tuple [.int .i64, .int .i64]), F_word_Month⟩) :: E2
theorem E3_ok : EOk P (gl mx) (Ax.look E3) := eok_cons F_word_Month_ok E2_ok
def F_word_Week_T : List (Nat × List (Nat × Nat × Ax.Tm)) := []
theorem F_word_Week_eq : (fun ds => (fnO tau (gl mx) (xd F_word_Week_T) rl (Ax.look E3) 100 30 [.str] (.tuple [.int .i64, .int .i64]) ds).run) = F_word_Week := by kernel_rfl
theorem F_word_Week_ok : FnOk P (gl mx) 30 ⟨[.str], (.tuple [.int .i64, .int .i64]), F_word_Week⟩ := F_word_Week_eq ▸ fnO_ok tau_ok mix (xd_ok _) rl_ok (E3_ok)
noncomputable def E4 : List (Nat × Ax.Fn) := (30, ⟨[.str], (.tuple [.int .i64, .int .i64]), F_word_Week⟩) :: E3
theorem E4_ok : EOk P (gl mx) (Ax.look E4) := eok_cons F_word_Week_ok E3_ok
def F_word_To_T : List (Nat × List (Nat × Nat × Ax.Tm)) := []
theorem F_word_To_eq : (fun ds => (fnO tau (gl mx) (xd F_word_To_T) rl (Ax.look E4) 100 32 [.str] (.tuple [.int .i64, .int .i64]) ds).run) = F_word_To := by kernel_rfl
theorem F_word_To_ok : FnOk P (gl mx) 32 ⟨[.str], (.tuple [.int .i64, .int .i64]), F_word_To⟩ := F_word_To_eq ▸ fnO_ok tau_ok mix (xd_ok _) rl_ok (E4_ok)
noncomputable def E5 : List (Nat × Ax.Fn) := (32, ⟨[.str], (.tuple [.int .i64, .int .i64]), F_word_To⟩) :: E4
theorem E5_ok : EOk P (gl mx) (Ax.look E5) := eok_cons F_word_To_ok E4_ok
def F_word_short_T : List (Nat × List (Nat × Nat × Ax.Tm)) := []
theorem F_word_short_eq : (fun ds => (fnO tau (gl mx) (xd F_word_short_T) rl (Ax.look E5) 100 57 [.agg [.str, .str, .str, .str, .str, .str, .str, .str, .str, .str, .str, .str], .int .i64] (.str) ds).run) = F_word_short := by kernel_rfl
theorem F_word_short_ok : FnOk P (gl mx) 57 ⟨[.agg [.str, .str, .str, .str, .str, .str, .str, .str, .str, .str, .str, .str], .int .i64], (.str), F_word_short⟩ := F_word_short_eq ▸ fnO_ok tau_ok mix (xd_ok _) rl_ok (E5_ok)
noncomputable def E6 : List (Nat × Ax.Fn) := (57, ⟨[.agg [.str, .str, .str, .str, .str, .str, .str, .str, .str, .str, .str, .str], .int .i64], (.str), F_word_short⟩) :: E5
theorem E6_ok : EOk P (gl mx) (Ax.look E6) := eok_cons F_word_short_ok E5_ok
def F_word_MonthText_T : List (Nat × List (Nat × Nat × Ax.Tm)) := []
theorem F_word_MonthText_eq : (fun ds => (fnO tau (gl mx) (xd F_word_MonthText_T) rl (Ax.look E6) 100 34 [.int .i64] (.str) ds).run) = F_word_MonthText := by kernel_rfl
theorem F_word_MonthText_ok : FnOk P (gl mx) 34 ⟨[.int .i64], (.str), F_word_MonthText⟩ := F_word_MonthText_eq ▸ fnO_ok tau_ok mix (xd_ok _) rl_ok (E6_ok)
noncomputable def E7 : List (Nat × Ax.Fn) := (34, ⟨[.int .i64], (.str), F_word_MonthText⟩) :: E6
theorem E7_ok : EOk P (gl mx) (Ax.look E7) := eok_cons F_word_MonthText_ok E6_ok
def F_word_WeekText_T : List (Nat × List (Nat × Nat × Ax.Tm)) := []
theorem F_word_WeekText_eq : (fun ds => (fnO tau (gl mx) (xd F_word_WeekText_T) rl (Ax.look E7) 100 36 [.int .i64] (.str) ds).run) = F_word_WeekText := by kernel_rfl
theorem F_word_WeekText_ok : FnOk P (gl mx) 36 ⟨[.int .i64], (.str), F_word_WeekText⟩ := F_word_WeekText_eq ▸ fnO_ok tau_ok mix (xd_ok _) rl_ok (E7_ok)
noncomputable def E8 : List (Nat × Ax.Fn) := (36, ⟨[.int .i64], (.str), F_word_WeekText⟩) :: E7
theorem E8_ok : EOk P (gl mx) (Ax.look E8) := eok_cons F_word_WeekText_ok E7_ok
theorem F_law08_works_eq : (fun ds => (fnO tau (gl mx) (xd []) rl (Ax.look E8) 3000 25 [] (.bool) ds).run) = F_law08_works := by kernel_rfl
theorem F_law08_works_ok : FnOk P (gl mx) 25 ⟨[], (.bool), F_law08_works⟩ := F_law08_works_eq ▸ fnO_ok tau_ok mix (xd_ok _) rl_ok (E8_ok)
noncomputable def E9 : List (Nat × Ax.Fn) := (25, ⟨[], (.bool), F_law08_works⟩) :: E8
theorem E9_ok : EOk P (gl mx) (Ax.look E9) := eok_cons F_law08_works_ok E8_ok
def F_ref08_lines_T : List (Nat × List (Nat × Nat × Ax.Tm)) := []
theorem F_ref08_lines_eq : (fun ds => (fnO tau (gl mx) (xd F_ref08_lines_T) rl (Ax.look E9) 100 52 [] (.seq) ds).run) = F_ref08_lines := by kernel_rfl
theorem F_ref08_lines_ok : FnOk P (gl mx) 52 ⟨[], (.seq), F_ref08_lines⟩ := F_ref08_lines_eq ▸ fnO_ok tau_ok mix (xd_ok _) rl_ok (E9_ok)
noncomputable def E10 : List (Nat × Ax.Fn) := (52, ⟨[], (.seq), F_ref08_lines⟩) :: E9
theorem E10_ok : EOk P (gl mx) (Ax.look E10) := eok_cons F_ref08_lines_ok E9_ok
def F_ref08_small_T : List (Nat × List (Nat × Nat × Ax.Tm)) := [(70, [(3, 0, (⟨[(0, .str), (3, .acc 0 1), (4, .int .i64)], [(0, .whole)], 1⟩ : Go.Ax.Tm))])]
theorem F_ref08_small_eq : (fun ds => (fnO tau (gl mx) (xd F_ref08_small_T) rl (Ax.look E10) 100 70 [.str] (.str) ds).run) = F_ref08_small := by kernel_rfl
theorem F_ref08_small_ok : FnOk P (gl mx) 70 ⟨[.str], (.str), F_ref08_small⟩ := F_ref08_small_eq ▸ fnO_ok tau_ok mix (xd_ok _) rl_ok (E10_ok)
noncomputable def E11 : List (Nat × Ax.Fn) := (70, ⟨[.str], (.str), F_ref08_small⟩) :: E10
theorem E11_ok : EOk P (gl mx) (Ax.look E11) := eok_cons F_ref08_small_ok E10_ok
def F_ref08_find_T : List (Nat × List (Nat × Nat × Ax.Tm)) := [(51, [(5, 0, (⟨[(0, .seq), (1, .str), (6, .int .i64), (7, .int .i64), (8, .int .i64)], [], 0⟩ : Go.Ax.Tm))])]
theorem F_ref08_find_eq : (fun ds => (fnO tau (gl mx) (xd F_ref08_find_T) rl (Ax.look E11) 100 51 [.seq, .str] (.tuple [.int .i64, .int .i64]) ds).run) = F_ref08_find := by kernel_rfl
theorem F_ref08_find_ok : FnOk P (gl mx) 51 ⟨[.seq, .str], (.tuple [.int .i64, .int .i64]), F_ref08_find⟩ := F_ref08_find_eq ▸ fnO_ok tau_ok mix (xd_ok _) rl_ok (E11_ok)
noncomputable def E12 : List (Nat × Ax.Fn) := (51, ⟨[.seq, .str], (.tuple [.int .i64, .int .i64]), F_ref08_find⟩) :: E11
theorem E12_ok : EOk P (gl mx) (Ax.look E12) := eok_cons F_ref08_find_ok E11_ok
def F_ref08_more_T : List (Nat × List (Nat × Nat × Ax.Tm)) := []
theorem F_ref08_more_eq : (fun ds => (fnO tau (gl mx) (xd F_ref08_more_T) rl (Ax.look E12) 100 53 [.int .i64, .int .i64] (.tuple [.int .i64, .int .i64]) ds).run) = F_ref08_more := by kernel_rfl
theorem F_ref08_more_ok : FnOk P (gl mx) 53 ⟨[.int .i64, .int .i64], (.tuple [.int .i64, .int .i64]), F_ref08_more⟩ := F_ref08_more_eq ▸ fnO_ok tau_ok mix (xd_ok _) rl_ok (E12_ok)
noncomputable def E13 : List (Nat × Ax.Fn) := (53, ⟨[.int .i64, .int .i64], (.tuple [.int .i64, .int .i64]), F_ref08_more⟩) :: E12
theorem E13_ok : EOk P (gl mx) (Ax.look E13) := eok_cons F_ref08_more_ok E12_ok
def F_ref08_Line_T : List (Nat × List (Nat × Nat × Ax.Tm)) := []
theorem F_ref08_Line_eq : (fun ds => (fnO tau (gl mx) (xd F_ref08_Line_T) rl (Ax.look E13) 100 27 [.str] (.tuple [.int .i64, .int .i64]) ds).run) = F_ref08_Line := by kernel_rfl
theorem F_ref08_Line_ok : FnOk P (gl mx) 27 ⟨[.str], (.tuple [.int .i64, .int .i64]), F_ref08_Line⟩ := F_ref08_Line_eq ▸ fnO_ok tau_ok mix (xd_ok _) rl_ok (E13_ok)
noncomputable def E14 : List (Nat × Ax.Fn) := (27, ⟨[.str], (.tuple [.int .i64, .int .i64]), F_ref08_Line⟩) :: E13
theorem E14_ok : EOk P (gl mx) (Ax.look E14) := eok_cons F_ref08_Line_ok E13_ok
def F_ref08_months_T : List (Nat × List (Nat × Nat × Ax.Tm)) := []
theorem F_ref08_months_eq : (fun ds => (fnO tau (gl mx) (xd F_ref08_months_T) rl (Ax.look E14) 100 54 [] (.seq) ds).run) = F_ref08_months := by kernel_rfl
theorem F_ref08_months_ok : FnOk P (gl mx) 54 ⟨[], (.seq), F_ref08_months⟩ := F_ref08_months_eq ▸ fnO_ok tau_ok mix (xd_ok _) rl_ok (E14_ok)
noncomputable def E15 : List (Nat × Ax.Fn) := (54, ⟨[], (.seq), F_ref08_months⟩) :: E14
theorem E15_ok : EOk P (gl mx) (Ax.look E15) := eok_cons F_ref08_months_ok E14_ok
def F_ref08_Month_T : List (Nat × List (Nat × Nat × Ax.Tm)) := []
theorem F_ref08_Month_eq : (fun ds => (fnO tau (gl mx) (xd F_ref08_Month_T) rl (Ax.look E15) 100 29 [.str] (.tuple [.int .i64, .int .i64]) ds).run) = F_ref08_Month := by kernel_rfl
theorem F_ref08_Month_ok : FnOk P (gl mx) 29 ⟨[.str], (.tuple [.int .i64, .int .i64]), F_ref08_Month⟩ := F_ref08_Month_eq ▸ fnO_ok tau_ok mix (xd_ok _) rl_ok (E15_ok)
noncomputable def E16 : List (Nat × Ax.Fn) := (29, ⟨[.str], (.tuple [.int .i64, .int .i64]), F_ref08_Month⟩) :: E15
theorem E16_ok : EOk P (gl mx) (Ax.look E16) := eok_cons F_ref08_Month_ok E15_ok
def F_ref08_weeks_T : List (Nat × List (Nat × Nat × Ax.Tm)) := []
theorem F_ref08_weeks_eq : (fun ds => (fnO tau (gl mx) (xd F_ref08_weeks_T) rl (Ax.look E16) 100 55 [] (.seq) ds).run) = F_ref08_weeks := by kernel_rfl
theorem F_ref08_weeks_ok : FnOk P (gl mx) 55 ⟨[], (.seq), F_ref08_weeks⟩ := F_ref08_weeks_eq ▸ fnO_ok tau_ok mix (xd_ok _) rl_ok (E16_ok)
noncomputable def E17 : List (Nat × Ax.Fn) := (55, ⟨[], (.seq), F_ref08_weeks⟩) :: E16
theorem E17_ok : EOk P (gl mx) (Ax.look E17) := eok_cons F_ref08_weeks_ok E16_ok
def F_ref08_Week_T : List (Nat × List (Nat × Nat × Ax.Tm)) := []
theorem F_ref08_Week_eq : (fun ds => (fnO tau (gl mx) (xd F_ref08_Week_T) rl (Ax.look E17) 100 31 [.str] (.tuple [.int .i64, .int .i64]) ds).run) = F_ref08_Week := by kernel_rfl
theorem F_ref08_Week_ok : FnOk P (gl mx) 31 ⟨[.str], (.tuple [.int .i64, .int .i64]), F_ref08_Week⟩ := F_ref08_Week_eq ▸ fnO_ok tau_ok mix (xd_ok _) rl_ok (E17_ok)
noncomputable def E18 : List (Nat × Ax.Fn) := (31, ⟨[.str], (.tuple [.int .i64, .int .i64]), F_ref08_Week⟩) :: E17
theorem E18_ok : EOk P (gl mx) (Ax.look E18) := eok_cons F_ref08_Week_ok E17_ok
def F_ref08_years_T : List (Nat × List (Nat × Nat × Ax.Tm)) := []
theorem F_ref08_years_eq : (fun ds => (fnO tau (gl mx) (xd F_ref08_years_T) rl (Ax.look E18) 100 56 [] (.seq) ds).run) = F_ref08_years := by kernel_rfl
theorem F_ref08_years_ok : FnOk P (gl mx) 56 ⟨[], (.seq), F_ref08_years⟩ := F_ref08_years_eq ▸ fnO_ok tau_ok mix (xd_ok _) rl_ok (E18_ok)
noncomputable def E19 : List (Nat × Ax.Fn) := (56, ⟨[], (.seq), F_ref08_years⟩) :: E18
theorem E19_ok : EOk P (gl mx) (Ax.look E19) := eok_cons F_ref08_years_ok E18_ok
def F_ref08_To_T : List (Nat × List (Nat × Nat × Ax.Tm)) := []
theorem F_ref08_To_eq : (fun ds => (fnO tau (gl mx) (xd F_ref08_To_T) rl (Ax.look E19) 100 33 [.str] (.tuple [.int .i64, .int .i64]) ds).run) = F_ref08_To := by kernel_rfl
theorem F_ref08_To_ok : FnOk P (gl mx) 33 ⟨[.str], (.tuple [.int .i64, .int .i64]), F_ref08_To⟩ := F_ref08_To_eq ▸ fnO_ok tau_ok mix (xd_ok _) rl_ok (E19_ok)
noncomputable def E20 : List (Nat × Ax.Fn) := (33, ⟨[.str], (.tuple [.int .i64, .int .i64]), F_ref08_To⟩) :: E19
theorem E20_ok : EOk P (gl mx) (Ax.look E20) := eok_cons F_ref08_To_ok E19_ok
def F_law08_WordFinds_T : List (Nat × List (Nat × Nat × Ax.Tm)) := []
theorem F_law08_WordFinds_eq : (fun ds => (fnO tau (gl mx) (xd F_law08_WordFinds_T) rl (Ax.look E20) 100 10 [.str] (.bool) ds).run) = F_law08_WordFinds := by kernel_rfl
theorem F_law08_WordFinds_ok : FnOk P (gl mx) 10 ⟨[.str], (.bool), F_law08_WordFinds⟩ := F_law08_WordFinds_eq ▸ fnO_ok tau_ok mix (xd_ok _) rl_ok (E20_ok)
noncomputable def E21 : List (Nat × Ax.Fn) := (10, ⟨[.str], (.bool), F_law08_WordFinds⟩) :: E20
theorem E21_ok : EOk P (gl mx) (Ax.look E21) := eok_cons F_law08_WordFinds_ok E20_ok
def F_ref08_short_T : List (Nat × List (Nat × Nat × Ax.Tm)) := []
theorem F_ref08_short_eq : (fun ds => (fnO tau (gl mx) (xd F_ref08_short_T) rl (Ax.look E21) 100 58 [.str] (.str) ds).run) = F_ref08_short := by kernel_rfl
theorem F_ref08_short_ok : FnOk P (gl mx) 58 ⟨[.str], (.str), F_ref08_short⟩ := F_ref08_short_eq ▸ fnO_ok tau_ok mix (xd_ok _) rl_ok (E21_ok)
noncomputable def E22 : List (Nat × Ax.Fn) := (58, ⟨[.str], (.str), F_ref08_short⟩) :: E21
theorem E22_ok : EOk P (gl mx) (Ax.look E22) := eok_cons F_ref08_short_ok E21_ok
def F_ref08_MonthText_T : List (Nat × List (Nat × Nat × Ax.Tm)) := []
theorem F_ref08_MonthText_eq : (fun ds => (fnO tau (gl mx) (xd F_ref08_MonthText_T) rl (Ax.look E22) 100 35 [.int .i64] (.str) ds).run) = F_ref08_MonthText := by kernel_rfl
theorem F_ref08_MonthText_ok : FnOk P (gl mx) 35 ⟨[.int .i64], (.str), F_ref08_MonthText⟩ := F_ref08_MonthText_eq ▸ fnO_ok tau_ok mix (xd_ok _) rl_ok (E22_ok)
noncomputable def E23 : List (Nat × Ax.Fn) := (35, ⟨[.int .i64], (.str), F_ref08_MonthText⟩) :: E22
theorem E23_ok : EOk P (gl mx) (Ax.look E23) := eok_cons F_ref08_MonthText_ok E22_ok
def F_ref08_WeekText_T : List (Nat × List (Nat × Nat × Ax.Tm)) := []
theorem F_ref08_WeekText_eq : (fun ds => (fnO tau (gl mx) (xd F_ref08_WeekText_T) rl (Ax.look E23) 100 37 [.int .i64] (.str) ds).run) = F_ref08_WeekText := by kernel_rfl
theorem F_ref08_WeekText_ok : FnOk P (gl mx) 37 ⟨[.int .i64], (.str), F_ref08_WeekText⟩ := F_ref08_WeekText_eq ▸ fnO_ok tau_ok mix (xd_ok _) rl_ok (E23_ok)
noncomputable def E24 : List (Nat × Ax.Fn) := (37, ⟨[.int .i64], (.str), F_ref08_WeekText⟩) :: E23
theorem E24_ok : EOk P (gl mx) (Ax.look E24) := eok_cons F_ref08_WeekText_ok E23_ok
def F_law08_WordTexts_T : List (Nat × List (Nat × Nat × Ax.Tm)) := []
theorem F_law08_WordTexts_eq : (fun ds => (fnO tau (gl mx) (xd F_law08_WordTexts_T) rl (Ax.look E24) 100 11 [.int .i64] (.bool) ds).run) = F_law08_WordTexts := by kernel_rfl
theorem F_law08_WordTexts_ok : FnOk P (gl mx) 11 ⟨[.int .i64], (.bool), F_law08_WordTexts⟩ := F_law08_WordTexts_eq ▸ fnO_ok tau_ok mix (xd_ok _) rl_ok (E24_ok)
noncomputable def E25 : List (Nat × Ax.Fn) := (11, ⟨[.int .i64], (.bool), F_law08_WordTexts⟩) :: E24
theorem E25_ok : EOk P (gl mx) (Ax.look E25) := eok_cons F_law08_WordTexts_ok E24_ok
def F_law08_cased_T : List (Nat × List (Nat × Nat × Ax.Tm)) := [(39, [(3, 1, (⟨[(1, .int .u16), (5, .own 0 1), (10, .int .i64), (11, .int .i64)], [(0, .whole)], 1⟩ : Go.Ax.Tm))])]
theorem F_law08_cased_eq : (fun ds => (fnO tau (gl mx) (xd F_law08_cased_T) rl (Ax.look E25) 100 39 [.str, .int .u16] (.str) ds).run) = F_law08_cased := by kernel_rfl
theorem F_law08_cased_ok : FnOk P (gl mx) 39 ⟨[.str, .int .u16], (.str), F_law08_cased⟩ := F_law08_cased_eq ▸ fnO_ok tau_ok mix (xd_ok _) rl_ok (E25_ok)
noncomputable def E26 : List (Nat × Ax.Fn) := (39, ⟨[.str, .int .u16], (.str), F_law08_cased⟩) :: E25
theorem E26_ok : EOk P (gl mx) (Ax.look E26) := eok_cons F_law08_cased_ok E25_ok
def F_law08_WordShort_T : List (Nat × List (Nat × Nat × Ax.Tm)) := []
theorem F_law08_WordShort_eq : (fun ds => (fnO tau (gl mx) (xd F_law08_WordShort_T) rl (Ax.look E26) 100 13 [.int .u8, .int .u16] (.bool) ds).run) = F_law08_WordShort := by kernel_rfl
theorem F_law08_WordShort_ok : FnOk P (gl mx) 13 ⟨[.int .u8, .int .u16], (.bool), F_law08_WordShort⟩ := F_law08_WordShort_eq ▸ fnO_ok tau_ok mix (xd_ok _) rl_ok (E26_ok)
noncomputable def E27 : List (Nat × Ax.Fn) := (13, ⟨[.int .u8, .int .u16], (.bool), F_law08_WordShort⟩) :: E26
theorem E27_ok : EOk P (gl mx) (Ax.look E27) := eok_cons F_law08_WordShort_ok E26_ok
def F_law08_WordMore_T : List (Nat × List (Nat × Nat × Ax.Tm)) := []
theorem F_law08_WordMore_eq : (fun ds => (fnO tau (gl mx) (xd F_law08_WordMore_T) rl (Ax.look E27) 100 14 [.int .u8, .int .u8, .int .u8, .int .u8] (.bool) ds).run) = F_law08_WordMore := by kernel_rfl
theorem F_law08_WordMore_ok : FnOk P (gl mx) 14 ⟨[.int .u8, .int .u8, .int .u8, .int .u8], (.bool), F_law08_WordMore⟩ := F_law08_WordMore_eq ▸ fnO_ok tau_ok mix (xd_ok _) rl_ok (E27_ok)
noncomputable def E28 : List (Nat × Ax.Fn) := (14, ⟨[.int .u8, .int .u8, .int .u8, .int .u8], (.bool), F_law08_WordMore⟩) :: E27
theorem E28_ok : EOk P (gl mx) (Ax.look E28) := eok_cons F_law08_WordMore_ok E27_ok
def F_law08_WordOne_T : List (Nat × List (Nat × Nat × Ax.Tm)) := [(15, [(5, 1, (⟨[(0, .seq), (3, .ownS 0 0 1), (21, .int .i64), (22, .int .i64)], [(0, .whole)], 1⟩ : Go.Ax.Tm))])]
theorem F_law08_WordOne_eq : (fun ds => (fnO tau (gl mx) (xd F_law08_WordOne_T) rl (Ax.look E28) 100 15 [.seq] (.bool) ds).run) = F_law08_WordOne := by kernel_rfl
theorem F_law08_WordOne_ok : FnOk P (gl mx) 15 ⟨[.seq], (.bool), F_law08_WordOne⟩ := F_law08_WordOne_eq ▸ fnO_ok tau_ok mix (xd_ok _) rl_ok (E28_ok)
noncomputable def E29 : List (Nat × Ax.Fn) := (15, ⟨[.seq], (.bool), F_law08_WordOne⟩) :: E28
theorem E29_ok : EOk P (gl mx) (Ax.look E29) := eok_cons F_law08_WordOne_ok E28_ok
def F_law08_WordNumbers_T : List (Nat × List (Nat × Nat × Ax.Tm)) := []
theorem F_law08_WordNumbers_eq : (fun ds => (fnO tau (gl mx) (xd F_law08_WordNumbers_T) rl (Ax.look E29) 100 16 [.int .u32] (.bool) ds).run) = F_law08_WordNumbers := by kernel_rfl
theorem F_law08_WordNumbers_ok : FnOk P (gl mx) 16 ⟨[.int .u32], (.bool), F_law08_WordNumbers⟩ := F_law08_WordNumbers_eq ▸ fnO_ok tau_ok mix (xd_ok _) rl_ok (E29_ok)
noncomputable def E30 : List (Nat × Ax.Fn) := (16, ⟨[.int .u32], (.bool), F_law08_WordNumbers⟩) :: E29
theorem E30_ok : EOk P (gl mx) (Ax.look E30) := eok_cons F_law08_WordNumbers_ok E29_ok
end Go.Proofs.YtdpjkapaphelhaaDoor
