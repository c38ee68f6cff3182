/-
  The functions of plain data are what the program's code says.
-/
import Derived.Test.YtnfgmffcnmifkaaDoorAxT
import Derived.Test.YtnfgmffcnmifkaaDoorShelf
import Derived.Test.YtnfgmffcnmifkaaDoorFclo
import Derived.Test.YtnfgmffcnmifkaaDoorHClockFind
namespace Go.Proofs.YtnfgmffcnmifkaaDoor
open Go.Ax
set_option linter.all false
set_option maxRecDepth 100000
set_option maxHeartbeats 4000000
variable {P : Program} [IsProg P]
variable {mx : Int}
def glList (mx : Int) : List (Nat × List AV) := [(3, [.int .u8 (.lit 0), .int .u8 (.lit 1), .int .u8 (.lit 28), .int .u8 (.lit 2), .int .u8 (.lit 29), .int .u8 (.lit 14), .int .u8 (.lit 24), .int .u8 (.lit 3), .int .u8 (.lit 30), .int .u8 (.lit 22), .int .u8 (.lit 20), .int .u8 (.lit 15), .int .u8 (.lit 25), .int .u8 (.lit 17), .int .u8 (.lit 4), .int .u8 (.lit 8), .int .u8 (.lit 31), .int .u8 (.lit 27), .int .u8 (.lit 13), .int .u8 (.lit 23), .int .u8 (.lit 21), .int .u8 (.lit 19), .int .u8 (.lit 16), .int .u8 (.lit 7), .int .u8 (.lit 26), .int .u8 (.lit 12), .int .u8 (.lit 18), .int .u8 (.lit 6), .int .u8 (.lit 11), .int .u8 (.lit 5), .int .u8 (.lit 10), .int .u8 (.lit 9)]), (4, [.int .u8 (.lit 0), .int .u8 (.lit 1), .int .u8 (.lit 56), .int .u8 (.lit 2), .int .u8 (.lit 57), .int .u8 (.lit 49), .int .u8 (.lit 28), .int .u8 (.lit 3), .int .u8 (.lit 61), .int .u8 (.lit 58), .int .u8 (.lit 42), .int .u8 (.lit 50), .int .u8 (.lit 38), .int .u8 (.lit 29), .int .u8 (.lit 17), .int .u8 (.lit 4), .int .u8 (.lit 62), .int .u8 (.lit 47), .int .u8 (.lit 59), .int .u8 (.lit 36), .int .u8 (.lit 45), .int .u8 (.lit 43), .int .u8 (.lit 51), .int .u8 (.lit 22), .int .u8 (.lit 53), .int .u8 (.lit 39), .int .u8 (.lit 33), .int .u8 (.lit 30), .int .u8 (.lit 24), .int .u8 (.lit 18), .int .u8 (.lit 12), .int .u8 (.lit 5), .int .u8 (.lit 63), .int .u8 (.lit 55), .int .u8 (.lit 48), .int .u8 (.lit 27), .int .u8 (.lit 60), .int .u8 (.lit 41), .int .u8 (.lit 37), .int .u8 (.lit 16), .int .u8 (.lit 46), .int .u8 (.lit 35), .int .u8 (.lit 44), .int .u8 (.lit 21), .int .u8 (.lit 52), .int .u8 (.lit 32), .int .u8 (.lit 23), .int .u8 (.lit 11), .int .u8 (.lit 54), .int .u8 (.lit 26), .int .u8 (.lit 40), .int .u8 (.lit 15), .int .u8 (.lit 34), .int .u8 (.lit 20), .int .u8 (.lit 31), .int .u8 (.lit 10), .int .u8 (.lit 25), .int .u8 (.lit 14), .int .u8 (.lit 19), .int .u8 (.lit 9), .int .u8 (.lit 13), .int .u8 (.lit 8), .int .u8 (.lit 7), .int .u8 (.lit 6)]), (2, [.int .u64 (.lit 1), .int .u64 (.lit 10), .int .u64 (.lit 100), .int .u64 (.lit 1000), .int .u64 (.lit 10000), .int .u64 (.lit 100000), .int .u64 (.lit 1000000), .int .u64 (.lit 10000000), .int .u64 (.lit 100000000), .int .u64 (.lit 1000000000), .int .u64 (.lit 10000000000), .int .u64 (.lit 100000000000), .int .u64 (.lit 1000000000000), .int .u64 (.lit 10000000000000), .int .u64 (.lit 100000000000000), .int .u64 (.lit 1000000000000000), .int .u64 (.lit 10000000000000000), .int .u64 (.lit 100000000000000000), .int .u64 (.lit 1000000000000000000), .int .u64 (.lit 10000000000000000000)]), (1, [.int .i64 (.lit 3600), .int .i64 (.lit 60), .int .i64 (.lit 1)]), (0, [.str (.lit [119]), .str (.lit [115]), .str (.lit [103, 122, 117])])]
def gl (mx : Int) : Nat → Option (List AV) := Ax.look (glList mx)
noncomputable def E0 : List (Nat × Ax.Fn) := []
omit [IsProg P] in theorem E0_ok : EOk P (gl mx) (Ax.look E0) := eok_nil
theorem shelf21 : FnOk P (gl mx) 21 ⟨[.int .u8], (.tuple [.int .i64, .bool]), clockFind⟩ := by
  have h := IsProg.eq (P := P)
  subst h
  exact clockFind_ok (by kernel_rfl)
noncomputable def E1 : List (Nat × Ax.Fn) := (21, ⟨[.int .u8], (.tuple [.int .i64, .bool]), clockFind⟩) :: E0
theorem E1_ok : EOk P (gl mx) (Ax.look E1) := eok_cons shelf21 E0_ok
def F_internal_stringslite_HasPrefix_T : List (Nat × List (Nat × Nat × Ax.Tm)) := []
theorem F_internal_stringslite_HasPrefix_eq : (fun ds => (fnO tau (gl mx) (xd F_internal_stringslite_HasPrefix_T) (Ax.look E1) 100 42 [.str, .str] (.bool) ds).run) = F_internal_stringslite_HasPrefix := by kernel_rfl
theorem F_internal_stringslite_HasPrefix_ok : FnOk P (gl mx) 42 ⟨[.str, .str], (.bool), F_internal_stringslite_HasPrefix⟩ := F_internal_stringslite_HasPrefix_eq ▸ fnO_ok tau_ok mix (xd_ok _) (E1_ok)
noncomputable def E2 : List (Nat × Ax.Fn) := (42, ⟨[.str, .str], (.bool), F_internal_stringslite_HasPrefix⟩) :: E1
theorem E2_ok : EOk P (gl mx) (Ax.look E2) := eok_cons F_internal_stringslite_HasPrefix_ok E1_ok
def F_internal_stringslite_CutPrefix_T : List (Nat × List (Nat × Nat × Ax.Tm)) := []
theorem F_internal_stringslite_CutPrefix_eq : (fun ds => (fnO tau (gl mx) (xd F_internal_stringslite_CutPrefix_T) (Ax.look E2) 100 34 [.str, .str] (.tuple [.str, .bool]) ds).run) = F_internal_stringslite_CutPrefix := by kernel_rfl
theorem F_internal_stringslite_CutPrefix_ok : FnOk P (gl mx) 34 ⟨[.str, .str], (.tuple [.str, .bool]), F_internal_stringslite_CutPrefix⟩ := F_internal_stringslite_CutPrefix_eq ▸ fnO_ok tau_ok mix (xd_ok _) (E2_ok)
noncomputable def E3 : List (Nat × Ax.Fn) := (34, ⟨[.str, .str], (.tuple [.str, .bool]), F_internal_stringslite_CutPrefix⟩) :: E2
theorem E3_ok : EOk P (gl mx) (Ax.look E3) := eok_cons F_internal_stringslite_CutPrefix_ok E2_ok
def F_strings_CutPrefix_T : List (Nat × List (Nat × Nat × Ax.Tm)) := []
theorem F_strings_CutPrefix_eq : (fun ds => (fnO tau (gl mx) (xd F_strings_CutPrefix_T) (Ax.look E3) 100 28 [.str, .str] (.tuple [.str, .bool]) ds).run) = F_strings_CutPrefix := by kernel_rfl
theorem F_strings_CutPrefix_ok : FnOk P (gl mx) 28 ⟨[.str, .str], (.tuple [.str, .bool]), F_strings_CutPrefix⟩ := F_strings_CutPrefix_eq ▸ fnO_ok tau_ok mix (xd_ok _) (E3_ok)
noncomputable def E4 : List (Nat × Ax.Fn) := (28, ⟨[.str, .str], (.tuple [.str, .bool]), F_strings_CutPrefix⟩) :: E3
theorem E4_ok : EOk P (gl mx) (Ax.look E4) := eok_cons F_strings_CutPrefix_ok E3_ok
def F_offset_split_T : List (Nat × List (Nat × Nat × Ax.Tm)) := [(35, [(2, 3, (⟨[(0, .ptr 2 0), (1, .ptr 0 0), (3, .int .i64)], [(2, .each [.int .i64]), (0, .each [.str]), (1, .whole)], 3⟩ : Go.Ax.Tm))]), (29, [(7, 3, (⟨[(1, .ptr 0 0), (2, .ptr 1 0), (4, .ptr 2 0), (5, .func 35 [] [.ptr 2 0, .ptr 0 0]), (6, .int .i64)], [(0, .each [.str]), (1, .whole), (2, .each [.int .i64])], 3⟩ : Go.Ax.Tm))])]
theorem F_offset_split_eq : (fun ds => (fnO tau (gl mx) (xd F_offset_split_T) (Ax.look E4) 100 29 [.str] (.tuple [.agg [.int .i64, .int .i64, .int .i64], .bool]) ds).run) = F_offset_split := by kernel_rfl
theorem F_offset_split_ok : FnOk P (gl mx) 29 ⟨[.str], (.tuple [.agg [.int .i64, .int .i64, .int .i64], .bool]), F_offset_split⟩ := F_offset_split_eq ▸ fnO_ok tau_ok mix (xd_ok _) (E4_ok)
noncomputable def E5 : List (Nat × Ax.Fn) := (29, ⟨[.str], (.tuple [.agg [.int .i64, .int .i64, .int .i64], .bool]), F_offset_split⟩) :: E4
theorem E5_ok : EOk P (gl mx) (Ax.look E5) := eok_cons F_offset_split_ok E4_ok
def F_offset_Parse_T : List (Nat × List (Nat × Nat × Ax.Tm)) := []
theorem F_offset_Parse_eq : (fun ds => (fnO tau (gl mx) (xd F_offset_Parse_T) (Ax.look E5) 100 22 [.str] (.tuple [.int .i64, .int .i64]) ds).run) = F_offset_Parse := by kernel_rfl
theorem F_offset_Parse_ok : FnOk P (gl mx) 22 ⟨[.str], (.tuple [.int .i64, .int .i64]), F_offset_Parse⟩ := F_offset_Parse_eq ▸ fnO_ok tau_ok mix (xd_ok _) (E5_ok)
noncomputable def E6 : List (Nat × Ax.Fn) := (22, ⟨[.str], (.tuple [.int .i64, .int .i64]), F_offset_Parse⟩) :: E5
theorem E6_ok : EOk P (gl mx) (Ax.look E6) := eok_cons F_offset_Parse_ok E5_ok
def F_clock_Parse_T : List (Nat × List (Nat × Nat × Ax.Tm)) := []
theorem F_clock_Parse_eq : (fun ds => (fnO tau (gl mx) (xd F_clock_Parse_T) (Ax.look E6) 100 10 [.str] (.tuple [.agg [.int .i64, .int .i64], .int .i64]) ds).run) = F_clock_Parse := by kernel_rfl
theorem F_clock_Parse_ok : FnOk P (gl mx) 10 ⟨[.str], (.tuple [.agg [.int .i64, .int .i64], .int .i64]), F_clock_Parse⟩ := F_clock_Parse_eq ▸ fnO_ok tau_ok mix (xd_ok _) (E6_ok)
noncomputable def E7 : List (Nat × Ax.Fn) := (10, ⟨[.str], (.tuple [.agg [.int .i64, .int .i64], .int .i64]), F_clock_Parse⟩) :: E6
theorem E7_ok : EOk P (gl mx) (Ax.look E7) := eok_cons F_clock_Parse_ok E6_ok
def F_law06_reads_T : List (Nat × List (Nat × Nat × Ax.Tm)) := []
theorem F_law06_reads_eq : (fun ds => (fnO tau (gl mx) (xd F_law06_reads_T) (Ax.look E7) 100 18 [.str, .int .i64, .int .i64] (.bool) ds).run) = F_law06_reads := by kernel_rfl
theorem F_law06_reads_ok : FnOk P (gl mx) 18 ⟨[.str, .int .i64, .int .i64], (.bool), F_law06_reads⟩ := F_law06_reads_eq ▸ fnO_ok tau_ok mix (xd_ok _) (E7_ok)
noncomputable def E8 : List (Nat × Ax.Fn) := (18, ⟨[.str, .int .i64, .int .i64], (.bool), F_law06_reads⟩) :: E7
theorem E8_ok : EOk P (gl mx) (Ax.look E8) := eok_cons F_law06_reads_ok E7_ok
def F_law06_fails_T : List (Nat × List (Nat × Nat × Ax.Tm)) := []
theorem F_law06_fails_eq : (fun ds => (fnO tau (gl mx) (xd F_law06_fails_T) (Ax.look E8) 100 19 [.str, .int .i64] (.bool) ds).run) = F_law06_fails := by kernel_rfl
theorem F_law06_fails_ok : FnOk P (gl mx) 19 ⟨[.str, .int .i64], (.bool), F_law06_fails⟩ := F_law06_fails_eq ▸ fnO_ok tau_ok mix (xd_ok _) (E8_ok)
noncomputable def E9 : List (Nat × Ax.Fn) := (19, ⟨[.str, .int .i64], (.bool), F_law06_fails⟩) :: E8
theorem E9_ok : EOk P (gl mx) (Ax.look E9) := eok_cons F_law06_fails_ok E8_ok
def F_clock_Check_T : List (Nat × List (Nat × Nat × Ax.Tm)) := []
theorem F_clock_Check_eq : (fun ds => (fnO tau (gl mx) (xd F_clock_Check_T) (Ax.look E9) 100 14 [.agg [.int .i64, .int .i64]] (.int .i64) ds).run) = F_clock_Check := by kernel_rfl
theorem F_clock_Check_ok : FnOk P (gl mx) 14 ⟨[.agg [.int .i64, .int .i64]], (.int .i64), F_clock_Check⟩ := F_clock_Check_eq ▸ fnO_ok tau_ok mix (xd_ok _) (E9_ok)
noncomputable def E10 : List (Nat × Ax.Fn) := (14, ⟨[.agg [.int .i64, .int .i64]], (.int .i64), F_clock_Check⟩) :: E9
theorem E10_ok : EOk P (gl mx) (Ax.look E10) := eok_cons F_clock_Check_ok E9_ok
theorem shelf26 : FnOk P (gl mx) 26 ⟨[.int .i64, .ilit .i64 10], .str, formatInt⟩ := by
  have h := IsProg.eq (P := P)
  subst h
  exact formatInt_ok Tryd.func26 (c := code26) (by kernel_rfl) (by kernel_rfl) (fun n h0 h1 w h => Tryd.strconv_FormatInt_10 n h0 h1 w h) (g := 2) (by kernel_rfl) (by kernel_rfl)
noncomputable def E11 : List (Nat × Ax.Fn) := (26, ⟨[.int .i64, .ilit .i64 10], .str, formatInt⟩) :: E10
theorem E11_ok : EOk P (gl mx) (Ax.look E11) := eok_cons shelf26 E10_ok
def F_offset_two_T : List (Nat × List (Nat × Nat × Ax.Tm)) := []
theorem F_offset_two_eq : (fun ds => (fnO tau (gl mx) (xd F_offset_two_T) (Ax.look E11) 100 27 [.int .i64] (.str) ds).run) = F_offset_two := by kernel_rfl
theorem F_offset_two_ok : FnOk P (gl mx) 27 ⟨[.int .i64], (.str), F_offset_two⟩ := F_offset_two_eq ▸ fnO_ok tau_ok mix (xd_ok _) (E11_ok)
noncomputable def E12 : List (Nat × Ax.Fn) := (27, ⟨[.int .i64], (.str), F_offset_two⟩) :: E11
theorem E12_ok : EOk P (gl mx) (Ax.look E12) := eok_cons F_offset_two_ok E11_ok
def F_offset_Print_T : List (Nat × List (Nat × Nat × Ax.Tm)) := []
theorem F_offset_Print_eq : (fun ds => (fnO tau (gl mx) (xd F_offset_Print_T) (Ax.look E12) 100 17 [.int .i64] (.tuple [.str, .int .i64]) ds).run) = F_offset_Print := by kernel_rfl
theorem F_offset_Print_ok : FnOk P (gl mx) 17 ⟨[.int .i64], (.tuple [.str, .int .i64]), F_offset_Print⟩ := F_offset_Print_eq ▸ fnO_ok tau_ok mix (xd_ok _) (E12_ok)
noncomputable def E13 : List (Nat × Ax.Fn) := (17, ⟨[.int .i64], (.tuple [.str, .int .i64]), F_offset_Print⟩) :: E12
theorem E13_ok : EOk P (gl mx) (Ax.look E13) := eok_cons F_offset_Print_ok E12_ok
def F_clock_Print_T : List (Nat × List (Nat × Nat × Ax.Tm)) := []
theorem F_clock_Print_eq : (fun ds => (fnO tau (gl mx) (xd F_clock_Print_T) (Ax.look E13) 100 12 [.agg [.int .i64, .int .i64]] (.tuple [.str, .int .i64]) ds).run) = F_clock_Print := by kernel_rfl
theorem F_clock_Print_ok : FnOk P (gl mx) 12 ⟨[.agg [.int .i64, .int .i64]], (.tuple [.str, .int .i64]), F_clock_Print⟩ := F_clock_Print_eq ▸ fnO_ok tau_ok mix (xd_ok _) (E13_ok)
noncomputable def E14 : List (Nat × Ax.Fn) := (12, ⟨[.agg [.int .i64, .int .i64]], (.tuple [.str, .int .i64]), F_clock_Print⟩) :: E13
theorem E14_ok : EOk P (gl mx) (Ax.look E14) := eok_cons F_clock_Print_ok E13_ok
def F_law06_prints_T : List (Nat × List (Nat × Nat × Ax.Tm)) := []
theorem F_law06_prints_eq : (fun ds => (fnO tau (gl mx) (xd F_law06_prints_T) (Ax.look E14) 100 20 [.int .i64, .int .i64, .str] (.bool) ds).run) = F_law06_prints := by kernel_rfl
theorem F_law06_prints_ok : FnOk P (gl mx) 20 ⟨[.int .i64, .int .i64, .str], (.bool), F_law06_prints⟩ := F_law06_prints_eq ▸ fnO_ok tau_ok mix (xd_ok _) (E14_ok)
noncomputable def E15 : List (Nat × Ax.Fn) := (20, ⟨[.int .i64, .int .i64, .str], (.bool), F_law06_prints⟩) :: E14
theorem E15_ok : EOk P (gl mx) (Ax.look E15) := eok_cons F_law06_prints_ok E14_ok
theorem F_law06_works_eq : (fun ds => (fnO tau (gl mx) (xd []) (Ax.look E15) 3000 9 [] (.bool) ds).run) = F_law06_works := by kernel_rfl
theorem F_law06_works_ok : FnOk P (gl mx) 9 ⟨[], (.bool), F_law06_works⟩ := F_law06_works_eq ▸ fnO_ok tau_ok mix (xd_ok _) (E15_ok)
noncomputable def E16 : List (Nat × Ax.Fn) := (9, ⟨[], (.bool), F_law06_works⟩) :: E15
theorem E16_ok : EOk P (gl mx) (Ax.look E16) := eok_cons F_law06_works_ok E15_ok
def F_ref06_base_T : List (Nat × List (Nat × Nat × Ax.Tm)) := []
theorem F_ref06_base_eq : (fun ds => (fnO tau (gl mx) (xd F_ref06_base_T) (Ax.look E16) 100 23 [.int .u8] (.int .i64) ds).run) = F_ref06_base := by kernel_rfl
theorem F_ref06_base_ok : FnOk P (gl mx) 23 ⟨[.int .u8], (.int .i64), F_ref06_base⟩ := F_ref06_base_eq ▸ fnO_ok tau_ok mix (xd_ok _) (E16_ok)
noncomputable def E17 : List (Nat × Ax.Fn) := (23, ⟨[.int .u8], (.int .i64), F_ref06_base⟩) :: E16
theorem E17_ok : EOk P (gl mx) (Ax.look E17) := eok_cons F_ref06_base_ok E16_ok
def F_ref04_digit_T : List (Nat × List (Nat × Nat × Ax.Tm)) := []
theorem F_ref04_digit_eq : (fun ds => (fnO tau (gl mx) (xd F_ref04_digit_T) (Ax.look E17) 100 36 [.int .u8] (.int .i64) ds).run) = F_ref04_digit := by kernel_rfl
theorem F_ref04_digit_ok : FnOk P (gl mx) 36 ⟨[.int .u8], (.int .i64), F_ref04_digit⟩ := F_ref04_digit_eq ▸ fnO_ok tau_ok mix (xd_ok _) (E17_ok)
noncomputable def E18 : List (Nat × Ax.Fn) := (36, ⟨[.int .u8], (.int .i64), F_ref04_digit⟩) :: E17
theorem E18_ok : EOk P (gl mx) (Ax.look E18) := eok_cons F_ref04_digit_ok E17_ok
def F_ref04_pair_T : List (Nat × List (Nat × Nat × Ax.Tm)) := []
theorem F_ref04_pair_eq : (fun ds => (fnO tau (gl mx) (xd F_ref04_pair_T) (Ax.look E18) 100 37 [.str, .int .i64] (.int .i64) ds).run) = F_ref04_pair := by kernel_rfl
theorem F_ref04_pair_ok : FnOk P (gl mx) 37 ⟨[.str, .int .i64], (.int .i64), F_ref04_pair⟩ := F_ref04_pair_eq ▸ fnO_ok tau_ok mix (xd_ok _) (E18_ok)
noncomputable def E19 : List (Nat × Ax.Fn) := (37, ⟨[.str, .int .i64], (.int .i64), F_ref04_pair⟩) :: E18
theorem E19_ok : EOk P (gl mx) (Ax.look E19) := eok_cons F_ref04_pair_ok E18_ok
def F_ref04_form_T : List (Nat × List (Nat × Nat × Ax.Tm)) := [(30, [(3, 0, (⟨[(0, .str), (4, .int .i64), (5, .int .i64)], [], 0⟩ : Go.Ax.Tm))])]
theorem F_ref04_form_eq : (fun ds => (fnO tau (gl mx) (xd F_ref04_form_T) (Ax.look E19) 100 30 [.str] (.tuple [.int .i64, .bool]) ds).run) = F_ref04_form := by kernel_rfl
theorem F_ref04_form_ok : FnOk P (gl mx) 30 ⟨[.str], (.tuple [.int .i64, .bool]), F_ref04_form⟩ := F_ref04_form_eq ▸ fnO_ok tau_ok mix (xd_ok _) (E19_ok)
noncomputable def E20 : List (Nat × Ax.Fn) := (30, ⟨[.str], (.tuple [.int .i64, .bool]), F_ref04_form⟩) :: E19
theorem E20_ok : EOk P (gl mx) (Ax.look E20) := eok_cons F_ref04_form_ok E19_ok
def F_ref04_Parse_T : List (Nat × List (Nat × Nat × Ax.Tm)) := []
theorem F_ref04_Parse_eq : (fun ds => (fnO tau (gl mx) (xd F_ref04_Parse_T) (Ax.look E20) 100 24 [.str] (.tuple [.int .i64, .int .i64]) ds).run) = F_ref04_Parse := by kernel_rfl
theorem F_ref04_Parse_ok : FnOk P (gl mx) 24 ⟨[.str], (.tuple [.int .i64, .int .i64]), F_ref04_Parse⟩ := F_ref04_Parse_eq ▸ fnO_ok tau_ok mix (xd_ok _) (E20_ok)
noncomputable def E21 : List (Nat × Ax.Fn) := (24, ⟨[.str], (.tuple [.int .i64, .int .i64]), F_ref04_Parse⟩) :: E20
theorem E21_ok : EOk P (gl mx) (Ax.look E21) := eok_cons F_ref04_Parse_ok E20_ok
def F_ref06_Parse_T : List (Nat × List (Nat × Nat × Ax.Tm)) := []
theorem F_ref06_Parse_eq : (fun ds => (fnO tau (gl mx) (xd F_ref06_Parse_T) (Ax.look E21) 100 11 [.str] (.tuple [.agg [.int .i64, .int .i64], .int .i64]) ds).run) = F_ref06_Parse := by kernel_rfl
theorem F_ref06_Parse_ok : FnOk P (gl mx) 11 ⟨[.str], (.tuple [.agg [.int .i64, .int .i64], .int .i64]), F_ref06_Parse⟩ := F_ref06_Parse_eq ▸ fnO_ok tau_ok mix (xd_ok _) (E21_ok)
noncomputable def E22 : List (Nat × Ax.Fn) := (11, ⟨[.str], (.tuple [.agg [.int .i64, .int .i64], .int .i64]), F_ref06_Parse⟩) :: E21
theorem E22_ok : EOk P (gl mx) (Ax.look E22) := eok_cons F_ref06_Parse_ok E21_ok
def F_law06_ClockStrings_T : List (Nat × List (Nat × Nat × Ax.Tm)) := []
theorem F_law06_ClockStrings_eq : (fun ds => (fnO tau (gl mx) (xd F_law06_ClockStrings_T) (Ax.look E22) 100 3 [.str] (.bool) ds).run) = F_law06_ClockStrings := by kernel_rfl
theorem F_law06_ClockStrings_ok : FnOk P (gl mx) 3 ⟨[.str], (.bool), F_law06_ClockStrings⟩ := F_law06_ClockStrings_eq ▸ fnO_ok tau_ok mix (xd_ok _) (E22_ok)
noncomputable def E23 : List (Nat × Ax.Fn) := (3, ⟨[.str], (.bool), F_law06_ClockStrings⟩) :: E22
theorem E23_ok : EOk P (gl mx) (Ax.look E23) := eok_cons F_law06_ClockStrings_ok E22_ok
def F_ref06_Check_T : List (Nat × List (Nat × Nat × Ax.Tm)) := []
theorem F_ref06_Check_eq : (fun ds => (fnO tau (gl mx) (xd F_ref06_Check_T) (Ax.look E23) 100 15 [.agg [.int .i64, .int .i64]] (.int .i64) ds).run) = F_ref06_Check := by kernel_rfl
theorem F_ref06_Check_ok : FnOk P (gl mx) 15 ⟨[.agg [.int .i64, .int .i64]], (.int .i64), F_ref06_Check⟩ := F_ref06_Check_eq ▸ fnO_ok tau_ok mix (xd_ok _) (E23_ok)
noncomputable def E24 : List (Nat × Ax.Fn) := (15, ⟨[.agg [.int .i64, .int .i64]], (.int .i64), F_ref06_Check⟩) :: E23
theorem E24_ok : EOk P (gl mx) (Ax.look E24) := eok_cons F_ref06_Check_ok E23_ok
def F_ref04_Decimal_T : List (Nat × List (Nat × Nat × Ax.Tm)) := []
theorem F_ref04_Decimal_eq (self : List Dat → Option (List Dat)) : (fun ds => (fnO tau (gl mx) (xd F_ref04_Decimal_T) (Ax.look ((31, ⟨[.int .i64], (.str), self⟩) :: E24)) 100 31 [.int .i64] (.str) ds).run) = F_ref04_Decimal_body self := by kernel_rfl
theorem F_ref04_Decimal_step (self : List Dat → Option (List Dat)) (h : FnOk P (gl mx) 31 ⟨[.int .i64], (.str), self⟩) : FnOk P (gl mx) 31 ⟨[.int .i64], (.str), F_ref04_Decimal_body self⟩ := F_ref04_Decimal_eq self ▸ fnO_ok tau_ok mix (xd_ok _) (eok_cons h E24_ok)
theorem F_ref04_Decimal_ok : FnOk P (gl mx) 31 ⟨[.int .i64], (.str), F_ref04_Decimal⟩ := fixN_ok F_ref04_Decimal_step _
noncomputable def E25 : List (Nat × Ax.Fn) := (31, ⟨[.int .i64], (.str), F_ref04_Decimal⟩) :: E24
theorem E25_ok : EOk P (gl mx) (Ax.look E25) := eok_cons F_ref04_Decimal_ok E24_ok
def F_ref04_Two_T : List (Nat × List (Nat × Nat × Ax.Tm)) := []
theorem F_ref04_Two_eq : (fun ds => (fnO tau (gl mx) (xd F_ref04_Two_T) (Ax.look E25) 100 32 [.int .i64] (.str) ds).run) = F_ref04_Two := by kernel_rfl
theorem F_ref04_Two_ok : FnOk P (gl mx) 32 ⟨[.int .i64], (.str), F_ref04_Two⟩ := F_ref04_Two_eq ▸ fnO_ok tau_ok mix (xd_ok _) (E25_ok)
noncomputable def E26 : List (Nat × Ax.Fn) := (32, ⟨[.int .i64], (.str), F_ref04_Two⟩) :: E25
theorem E26_ok : EOk P (gl mx) (Ax.look E26) := eok_cons F_ref04_Two_ok E25_ok
def F_ref04_Print_T : List (Nat × List (Nat × Nat × Ax.Tm)) := []
theorem F_ref04_Print_eq (self : List Dat → Option (List Dat)) : (fun ds => (fnO tau (gl mx) (xd F_ref04_Print_T) (Ax.look ((25, ⟨[.int .i64], (.tuple [.str, .int .i64]), self⟩) :: E26)) 100 25 [.int .i64] (.tuple [.str, .int .i64]) ds).run) = F_ref04_Print_body self := by kernel_rfl
theorem F_ref04_Print_step (self : List Dat → Option (List Dat)) (h : FnOk P (gl mx) 25 ⟨[.int .i64], (.tuple [.str, .int .i64]), self⟩) : FnOk P (gl mx) 25 ⟨[.int .i64], (.tuple [.str, .int .i64]), F_ref04_Print_body self⟩ := F_ref04_Print_eq self ▸ fnO_ok tau_ok mix (xd_ok _) (eok_cons h E26_ok)
theorem F_ref04_Print_ok : FnOk P (gl mx) 25 ⟨[.int .i64], (.tuple [.str, .int .i64]), F_ref04_Print⟩ := fixN_ok F_ref04_Print_step _
noncomputable def E27 : List (Nat × Ax.Fn) := (25, ⟨[.int .i64], (.tuple [.str, .int .i64]), F_ref04_Print⟩) :: E26
theorem E27_ok : EOk P (gl mx) (Ax.look E27) := eok_cons F_ref04_Print_ok E26_ok
def F_ref06_Print_T : List (Nat × List (Nat × Nat × Ax.Tm)) := []
theorem F_ref06_Print_eq : (fun ds => (fnO tau (gl mx) (xd F_ref06_Print_T) (Ax.look E27) 100 13 [.agg [.int .i64, .int .i64]] (.tuple [.str, .int .i64]) ds).run) = F_ref06_Print := by kernel_rfl
theorem F_ref06_Print_ok : FnOk P (gl mx) 13 ⟨[.agg [.int .i64, .int .i64]], (.tuple [.str, .int .i64]), F_ref06_Print⟩ := F_ref06_Print_eq ▸ fnO_ok tau_ok mix (xd_ok _) (E27_ok)
noncomputable def E28 : List (Nat × Ax.Fn) := (13, ⟨[.agg [.int .i64, .int .i64]], (.tuple [.str, .int .i64]), F_ref06_Print⟩) :: E27
theorem E28_ok : EOk P (gl mx) (Ax.look E28) := eok_cons F_ref06_Print_ok E27_ok
def F_law06_ClockTimes_T : List (Nat × List (Nat × Nat × Ax.Tm)) := []
theorem F_law06_ClockTimes_eq : (fun ds => (fnO tau (gl mx) (xd F_law06_ClockTimes_T) (Ax.look E28) 100 4 [.agg [.int .i64, .int .i64]] (.bool) ds).run) = F_law06_ClockTimes := by kernel_rfl
theorem F_law06_ClockTimes_ok : FnOk P (gl mx) 4 ⟨[.agg [.int .i64, .int .i64]], (.bool), F_law06_ClockTimes⟩ := F_law06_ClockTimes_eq ▸ fnO_ok tau_ok mix (xd_ok _) (E28_ok)
noncomputable def E29 : List (Nat × Ax.Fn) := (4, ⟨[.agg [.int .i64, .int .i64]], (.bool), F_law06_ClockTimes⟩) :: E28
theorem E29_ok : EOk P (gl mx) (Ax.look E29) := eok_cons F_law06_ClockTimes_ok E28_ok
def F_law06_Made_T : List (Nat × List (Nat × Nat × Ax.Tm)) := []
theorem F_law06_Made_eq : (fun ds => (fnO tau (gl mx) (xd F_law06_Made_T) (Ax.look E29) 100 16 [.int .i32, .int .u8] (.agg [.int .i64, .int .i64]) ds).run) = F_law06_Made := by kernel_rfl
theorem F_law06_Made_ok : FnOk P (gl mx) 16 ⟨[.int .i32, .int .u8], (.agg [.int .i64, .int .i64]), F_law06_Made⟩ := F_law06_Made_eq ▸ fnO_ok tau_ok mix (xd_ok _) (E29_ok)
noncomputable def E30 : List (Nat × Ax.Fn) := (16, ⟨[.int .i32, .int .u8], (.agg [.int .i64, .int .i64]), F_law06_Made⟩) :: E29
theorem E30_ok : EOk P (gl mx) (Ax.look E30) := eok_cons F_law06_Made_ok E29_ok
def F_law06_ClockBack_T : List (Nat × List (Nat × Nat × Ax.Tm)) := []
theorem F_law06_ClockBack_eq : (fun ds => (fnO tau (gl mx) (xd F_law06_ClockBack_T) (Ax.look E30) 100 5 [.int .i32, .int .i32, .int .u8, .int .u8] (.bool) ds).run) = F_law06_ClockBack := by kernel_rfl
theorem F_law06_ClockBack_ok : FnOk P (gl mx) 5 ⟨[.int .i32, .int .i32, .int .u8, .int .u8], (.bool), F_law06_ClockBack⟩ := F_law06_ClockBack_eq ▸ fnO_ok tau_ok mix (xd_ok _) (E30_ok)
noncomputable def E31 : List (Nat × Ax.Fn) := (5, ⟨[.int .i32, .int .i32, .int .u8, .int .u8], (.bool), F_law06_ClockBack⟩) :: E30
theorem E31_ok : EOk P (gl mx) (Ax.look E31) := eok_cons F_law06_ClockBack_ok E30_ok
def F_law06_ClockReads_T : List (Nat × List (Nat × Nat × Ax.Tm)) := []
theorem F_law06_ClockReads_eq : (fun ds => (fnO tau (gl mx) (xd F_law06_ClockReads_T) (Ax.look E31) 100 6 [.str] (.bool) ds).run) = F_law06_ClockReads := by kernel_rfl
theorem F_law06_ClockReads_ok : FnOk P (gl mx) 6 ⟨[.str], (.bool), F_law06_ClockReads⟩ := F_law06_ClockReads_eq ▸ fnO_ok tau_ok mix (xd_ok _) (E31_ok)
noncomputable def E32 : List (Nat × Ax.Fn) := (6, ⟨[.str], (.bool), F_law06_ClockReads⟩) :: E31
theorem E32_ok : EOk P (gl mx) (Ax.look E32) := eok_cons F_law06_ClockReads_ok E31_ok
def F_law06_ClockLetters_T : List (Nat × List (Nat × Nat × Ax.Tm)) := []
theorem F_law06_ClockLetters_eq : (fun ds => (fnO tau (gl mx) (xd F_law06_ClockLetters_T) (Ax.look E32) 100 7 [.int .i32, .int .u8] (.bool) ds).run) = F_law06_ClockLetters := by kernel_rfl
theorem F_law06_ClockLetters_ok : FnOk P (gl mx) 7 ⟨[.int .i32, .int .u8], (.bool), F_law06_ClockLetters⟩ := F_law06_ClockLetters_eq ▸ fnO_ok tau_ok mix (xd_ok _) (E32_ok)
noncomputable def E33 : List (Nat × Ax.Fn) := (7, ⟨[.int .i32, .int .u8], (.bool), F_law06_ClockLetters⟩) :: E32
theorem E33_ok : EOk P (gl mx) (Ax.look E33) := eok_cons F_law06_ClockLetters_ok E32_ok
def F_law06_ClockRefuses_T : List (Nat × List (Nat × Nat × Ax.Tm)) := []
theorem F_law06_ClockRefuses_eq : (fun ds => (fnO tau (gl mx) (xd F_law06_ClockRefuses_T) (Ax.look E33) 100 8 [.int .i32, .int .u8, .int .u32] (.bool) ds).run) = F_law06_ClockRefuses := by kernel_rfl
theorem F_law06_ClockRefuses_ok : FnOk P (gl mx) 8 ⟨[.int .i32, .int .u8, .int .u32], (.bool), F_law06_ClockRefuses⟩ := F_law06_ClockRefuses_eq ▸ fnO_ok tau_ok mix (xd_ok _) (E33_ok)
noncomputable def E34 : List (Nat × Ax.Fn) := (8, ⟨[.int .i32, .int .u8, .int .u32], (.bool), F_law06_ClockRefuses⟩) :: E33
theorem E34_ok : EOk P (gl mx) (Ax.look E34) := eok_cons F_law06_ClockRefuses_ok E33_ok
end Go.Proofs.YtnfgmffcnmifkaaDoor
