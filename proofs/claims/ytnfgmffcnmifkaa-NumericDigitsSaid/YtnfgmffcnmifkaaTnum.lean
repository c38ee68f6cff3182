/-
  The functions of plain data are what the program's code says.
-/
import Derived.Test.YtnfgmffcnmifkaaAxT
import Derived.Test.YtnfgmffcnmifkaaShelf
import Derived.Test.YtnfgmffcnmifkaaFnum
namespace Go.Proofs.Ytnfgmffcnmifkaa
open Go.Ax
set_option linter.all false
set_option maxRecDepth 100000
set_option maxHeartbeats 4000000
variable {P : Program} [IsProg P]
variable {mx : Int}
def glList (mx : Int) : List (Nat × List AV) := [(0, [.int .i64 (.sym mx)])]
def gl (mx : Int) : Nat → Option (List AV) := Ax.look (glList mx)
noncomputable def E0 : List (Nat × Ax.Fn) := []
omit [IsProg P] in theorem E0_ok : EOk P (gl mx) (Ax.look E0) := eok_nil
def F_numeric_Text_T : List (Nat × List (Nat × Nat × Ax.Tm)) := []
theorem F_numeric_Text_eq : (fun ds => (fnO tau (gl mx) (xd F_numeric_Text_T) (Ax.look E0) 100 13 [.int .i64] (.str) ds).run) = F_numeric_Text := by kernel_rfl
theorem F_numeric_Text_ok : FnOk P (gl mx) 13 ⟨[.int .i64], (.str), F_numeric_Text⟩ := F_numeric_Text_eq ▸ fnO_ok tau_ok mix (xd_ok _) (E0_ok)
noncomputable def E1 : List (Nat × Ax.Fn) := (13, ⟨[.int .i64], (.str), F_numeric_Text⟩) :: E0
theorem E1_ok : EOk P (gl mx) (Ax.look E1) := eok_cons F_numeric_Text_ok E0_ok
def F_numeric_Parse_T : List (Nat × List (Nat × Nat × Ax.Tm)) := [(11, [(5, 0, (⟨[(0, .str), (4, .int .i64), (5, .int .i64), (6, .int .i64)], [], 0⟩ : Go.Ax.Tm))])]
theorem F_numeric_Parse_eq : (fun ds => (fnO tau (gl mx) (xd F_numeric_Parse_T) (Ax.look E1) 100 11 [.str] (.tuple [.int .i64, .int .i64]) ds).run) = F_numeric_Parse := by kernel_rfl
theorem F_numeric_Parse_ok : FnOk P (gl mx) 11 ⟨[.str], (.tuple [.int .i64, .int .i64]), F_numeric_Parse⟩ := F_numeric_Parse_eq ▸ fnO_ok tau_ok mix (xd_ok _) (E1_ok)
noncomputable def E2 : List (Nat × Ax.Fn) := (11, ⟨[.str], (.tuple [.int .i64, .int .i64]), F_numeric_Parse⟩) :: E1
theorem E2_ok : EOk P (gl mx) (Ax.look E2) := eok_cons F_numeric_Parse_ok E1_ok
def F_law20_saves_T : List (Nat × List (Nat × Nat × Ax.Tm)) := [(18, [(3, 0, (⟨[(3, .acc 0 11), (6, .seq), (7, .int .i64), (8, .int .i64)], [(0, .whole)], 1⟩ : Go.Ax.Tm))])]
theorem F_law20_saves_eq : (fun ds => (fnO tau (gl mx) (xd F_law20_saves_T) (Ax.look E2) 100 18 [.seq] (.seq) ds).run) = F_law20_saves := by kernel_rfl
theorem F_law20_saves_ok : FnOk P (gl mx) 18 ⟨[.seq], (.seq), F_law20_saves⟩ := F_law20_saves_eq ▸ fnO_ok tau_ok mix (xd_ok _) (E2_ok)
noncomputable def E3 : List (Nat × Ax.Fn) := (18, ⟨[.seq], (.seq), F_law20_saves⟩) :: E2
theorem E3_ok : EOk P (gl mx) (Ax.look E3) := eok_cons F_law20_saves_ok E2_ok
theorem shelf32 : FnOk P (gl mx) 32 ⟨[.seq, .str], .str, strJoin⟩ := by
  have h := IsProg.eq (P := P)
  subst h
  exact strJoin_ok Try.func32 (c := code32) (by kernel_rfl) (by kernel_rfl) (fun a c sep w => Any.strings_Join_none Try.lays156 Try.Builder_Extra_156 a c sep w) (fun bk o c xs sep w h1 h2 h3 h4 h5 => Try.strings_Join bk o c xs sep w h1 h2 h3 h4 h5)
noncomputable def E4 : List (Nat × Ax.Fn) := (32, ⟨[.seq, .str], .str, strJoin⟩) :: E3
theorem E4_ok : EOk P (gl mx) (Ax.look E4) := eok_cons shelf32 E3_ok
def F_numeric_join_T : List (Nat × List (Nat × Nat × Ax.Tm)) := [(23, [(2, 0, (⟨[(0, .seq), (6, .seq), (7, .int .i64), (8, .int .i64)], [], 0⟩ : Go.Ax.Tm))])]
theorem F_numeric_join_eq : (fun ds => (fnO tau (gl mx) (xd F_numeric_join_T) (Ax.look E4) 100 23 [.seq] (.tuple [.str, .int .i64]) ds).run) = F_numeric_join := by kernel_rfl
theorem F_numeric_join_ok : FnOk P (gl mx) 23 ⟨[.seq], (.tuple [.str, .int .i64]), F_numeric_join⟩ := F_numeric_join_eq ▸ fnO_ok tau_ok mix (xd_ok _) (E4_ok)
noncomputable def E5 : List (Nat × Ax.Fn) := (23, ⟨[.seq], (.tuple [.str, .int .i64]), F_numeric_join⟩) :: E4
theorem E5_ok : EOk P (gl mx) (Ax.look E5) := eok_cons F_numeric_join_ok E4_ok
def F_numeric_sum_T : List (Nat × List (Nat × Nat × Ax.Tm)) := []
theorem F_numeric_sum_eq : (fun ds => (fnO tau (gl mx) (xd F_numeric_sum_T) (Ax.look E5) 100 24 [.int .i64, .int .i64] (.str) ds).run) = F_numeric_sum := by kernel_rfl
theorem F_numeric_sum_ok : FnOk P (gl mx) 24 ⟨[.int .i64, .int .i64], (.str), F_numeric_sum⟩ := F_numeric_sum_eq ▸ fnO_ok tau_ok mix (xd_ok _) (E5_ok)
noncomputable def E6 : List (Nat × Ax.Fn) := (24, ⟨[.int .i64, .int .i64], (.str), F_numeric_sum⟩) :: E5
theorem E6_ok : EOk P (gl mx) (Ax.look E6) := eok_cons F_numeric_sum_ok E5_ok
def F_ruleset_Other_T : List (Nat × List (Nat × Nat × Ax.Tm)) := [(25, [(3, 0, (⟨[(4, .int .i64), (7, .seq), (8, .int .i64), (9, .int .i64)], [], 0⟩ : Go.Ax.Tm))])]
theorem F_ruleset_Other_eq : (fun ds => (fnO tau (gl mx) (xd F_ruleset_Other_T) (Ax.look E6) 100 25 [.seq] (.tuple [.int .i64, .bool]) ds).run) = F_ruleset_Other := by kernel_rfl
theorem F_ruleset_Other_ok : FnOk P (gl mx) 25 ⟨[.seq], (.tuple [.int .i64, .bool]), F_ruleset_Other⟩ := F_ruleset_Other_eq ▸ fnO_ok tau_ok mix (xd_ok _) (E6_ok)
noncomputable def E7 : List (Nat × Ax.Fn) := (25, ⟨[.seq], (.tuple [.int .i64, .bool]), F_ruleset_Other⟩) :: E6
theorem E7_ok : EOk P (gl mx) (Ax.look E7) := eok_cons F_ruleset_Other_ok E6_ok
def F_numeric_saved_T : List (Nat × List (Nat × Nat × Ax.Tm)) := [(26, [(2, 0, (⟨[(5, .seq), (6, .int .i64), (7, .int .i64)], [], 0⟩ : Go.Ax.Tm))])]
theorem F_numeric_saved_eq : (fun ds => (fnO tau (gl mx) (xd F_numeric_saved_T) (Ax.look E7) 100 26 [.seq] (.bool) ds).run) = F_numeric_saved := by kernel_rfl
theorem F_numeric_saved_ok : FnOk P (gl mx) 26 ⟨[.seq], (.bool), F_numeric_saved⟩ := F_numeric_saved_eq ▸ fnO_ok tau_ok mix (xd_ok _) (E7_ok)
noncomputable def E8 : List (Nat × Ax.Fn) := (26, ⟨[.seq], (.bool), F_numeric_saved⟩) :: E7
theorem E8_ok : EOk P (gl mx) (Ax.look E8) := eok_cons F_numeric_saved_ok E7_ok
def F_numeric_Expansion_T : List (Nat × List (Nat × Nat × Ax.Tm)) := []
theorem F_numeric_Expansion_eq : (fun ds => (fnO tau (gl mx) (xd F_numeric_Expansion_T) (Ax.look E8) 100 15 [.agg [.int .i64, .int .i64, .int .i64, .str, .str, .bool, .int .i64, .int .i64, .int .i64, .int .i64, .int .i64, .int .i64, .int .i64], .seq] (.tuple [.str, .int .i64]) ds).run) = F_numeric_Expansion := by kernel_rfl
theorem F_numeric_Expansion_ok : FnOk P (gl mx) 15 ⟨[.agg [.int .i64, .int .i64, .int .i64, .str, .str, .bool, .int .i64, .int .i64, .int .i64, .int .i64, .int .i64, .int .i64, .int .i64], .seq], (.tuple [.str, .int .i64]), F_numeric_Expansion⟩ := F_numeric_Expansion_eq ▸ fnO_ok tau_ok mix (xd_ok _) (E8_ok)
noncomputable def E9 : List (Nat × Ax.Fn) := (15, ⟨[.agg [.int .i64, .int .i64, .int .i64, .str, .str, .bool, .int .i64, .int .i64, .int .i64, .int .i64, .int .i64, .int .i64, .int .i64], .seq], (.tuple [.str, .int .i64]), F_numeric_Expansion⟩) :: E8
theorem E9_ok : EOk P (gl mx) (Ax.look E9) := eok_cons F_numeric_Expansion_ok E8_ok
theorem F_law20_works_eq : (fun ds => (fnO tau (gl mx) (xd []) (Ax.look E9) 3000 10 [] (.bool) ds).run) = F_law20_works := by kernel_rfl
theorem F_law20_works_ok : FnOk P (gl mx) 10 ⟨[], (.bool), F_law20_works⟩ := F_law20_works_eq ▸ fnO_ok tau_ok mix (xd_ok _) (E9_ok)
noncomputable def E10 : List (Nat × Ax.Fn) := (10, ⟨[], (.bool), F_law20_works⟩) :: E9
theorem E10_ok : EOk P (gl mx) (Ax.look E10) := eok_cons F_law20_works_ok E9_ok
def F_ref20_two_T : List (Nat × List (Nat × Nat × Ax.Tm)) := []
theorem F_ref20_two_eq : (fun ds => (fnO tau (gl mx) (xd F_ref20_two_T) (Ax.look E10) 100 21 [.str, .int .i64] (.int .i64) ds).run) = F_ref20_two := by kernel_rfl
theorem F_ref20_two_ok : FnOk P (gl mx) 21 ⟨[.str, .int .i64], (.int .i64), F_ref20_two⟩ := F_ref20_two_eq ▸ fnO_ok tau_ok mix (xd_ok _) (E10_ok)
noncomputable def E11 : List (Nat × Ax.Fn) := (21, ⟨[.str, .int .i64], (.int .i64), F_ref20_two⟩) :: E10
theorem E11_ok : EOk P (gl mx) (Ax.look E11) := eok_cons F_ref20_two_ok E10_ok
def F_ref04_Decimal_T : List (Nat × List (Nat × Nat × Ax.Tm)) := []
theorem F_ref04_Decimal_eq (self : List Dat → Option (List Dat)) : (fun ds => (fnO tau (gl mx) (xd F_ref04_Decimal_T) (Ax.look ((31, ⟨[.int .i64], (.str), self⟩) :: E11)) 100 31 [.int .i64] (.str) ds).run) = F_ref04_Decimal_body self := by kernel_rfl
theorem F_ref04_Decimal_step (self : List Dat → Option (List Dat)) (h : FnOk P (gl mx) 31 ⟨[.int .i64], (.str), self⟩) : FnOk P (gl mx) 31 ⟨[.int .i64], (.str), F_ref04_Decimal_body self⟩ := F_ref04_Decimal_eq self ▸ fnO_ok tau_ok mix (xd_ok _) (eok_cons h E11_ok)
theorem F_ref04_Decimal_ok : FnOk P (gl mx) 31 ⟨[.int .i64], (.str), F_ref04_Decimal⟩ := fixN_ok F_ref04_Decimal_step _
noncomputable def E12 : List (Nat × Ax.Fn) := (31, ⟨[.int .i64], (.str), F_ref04_Decimal⟩) :: E11
theorem E12_ok : EOk P (gl mx) (Ax.look E12) := eok_cons F_ref04_Decimal_ok E11_ok
def F_ref04_Two_T : List (Nat × List (Nat × Nat × Ax.Tm)) := []
theorem F_ref04_Two_eq : (fun ds => (fnO tau (gl mx) (xd F_ref04_Two_T) (Ax.look E12) 100 22 [.int .i64] (.str) ds).run) = F_ref04_Two := by kernel_rfl
theorem F_ref04_Two_ok : FnOk P (gl mx) 22 ⟨[.int .i64], (.str), F_ref04_Two⟩ := F_ref04_Two_eq ▸ fnO_ok tau_ok mix (xd_ok _) (E12_ok)
noncomputable def E13 : List (Nat × Ax.Fn) := (22, ⟨[.int .i64], (.str), F_ref04_Two⟩) :: E12
theorem E13_ok : EOk P (gl mx) (Ax.look E13) := eok_cons F_ref04_Two_ok E12_ok
def F_ref20_Text_T : List (Nat × List (Nat × Nat × Ax.Tm)) := []
theorem F_ref20_Text_eq : (fun ds => (fnO tau (gl mx) (xd F_ref20_Text_T) (Ax.look E13) 100 14 [.int .i64] (.str) ds).run) = F_ref20_Text := by kernel_rfl
theorem F_ref20_Text_ok : FnOk P (gl mx) 14 ⟨[.int .i64], (.str), F_ref20_Text⟩ := F_ref20_Text_eq ▸ fnO_ok tau_ok mix (xd_ok _) (E13_ok)
noncomputable def E14 : List (Nat × Ax.Fn) := (14, ⟨[.int .i64], (.str), F_ref20_Text⟩) :: E13
theorem E14_ok : EOk P (gl mx) (Ax.look E14) := eok_cons F_ref20_Text_ok E13_ok
def F_ref20_Parse_T : List (Nat × List (Nat × Nat × Ax.Tm)) := [(12, [(4, 0, (⟨[(0, .str), (4, .int .i64), (5, .int .i64), (6, .int .i64)], [], 0⟩ : Go.Ax.Tm))])]
theorem F_ref20_Parse_eq : (fun ds => (fnO tau (gl mx) (xd F_ref20_Parse_T) (Ax.look E14) 100 12 [.str] (.tuple [.int .i64, .int .i64]) ds).run) = F_ref20_Parse := by kernel_rfl
theorem F_ref20_Parse_ok : FnOk P (gl mx) 12 ⟨[.str], (.tuple [.int .i64, .int .i64]), F_ref20_Parse⟩ := F_ref20_Parse_eq ▸ fnO_ok tau_ok mix (xd_ok _) (E14_ok)
noncomputable def E15 : List (Nat × Ax.Fn) := (12, ⟨[.str], (.tuple [.int .i64, .int .i64]), F_ref20_Parse⟩) :: E14
theorem E15_ok : EOk P (gl mx) (Ax.look E15) := eok_cons F_ref20_Parse_ok E14_ok
def F_law20_NumericTexts_T : List (Nat × List (Nat × Nat × Ax.Tm)) := []
theorem F_law20_NumericTexts_eq : (fun ds => (fnO tau (gl mx) (xd F_law20_NumericTexts_T) (Ax.look E15) 100 3 [.int .i64, .str] (.bool) ds).run) = F_law20_NumericTexts := by kernel_rfl
theorem F_law20_NumericTexts_ok : FnOk P (gl mx) 3 ⟨[.int .i64, .str], (.bool), F_law20_NumericTexts⟩ := F_law20_NumericTexts_eq ▸ fnO_ok tau_ok mix (xd_ok _) (E15_ok)
noncomputable def E16 : List (Nat × Ax.Fn) := (3, ⟨[.int .i64, .str], (.bool), F_law20_NumericTexts⟩) :: E15
theorem E16_ok : EOk P (gl mx) (Ax.look E16) := eok_cons F_law20_NumericTexts_ok E15_ok
def F_ref20_sum_T : List (Nat × List (Nat × Nat × Ax.Tm)) := []
theorem F_ref20_sum_eq : (fun ds => (fnO tau (gl mx) (xd F_ref20_sum_T) (Ax.look E16) 100 27 [.int .i64, .int .i64] (.str) ds).run) = F_ref20_sum := by kernel_rfl
theorem F_ref20_sum_ok : FnOk P (gl mx) 27 ⟨[.int .i64, .int .i64], (.str), F_ref20_sum⟩ := F_ref20_sum_eq ▸ fnO_ok tau_ok mix (xd_ok _) (E16_ok)
noncomputable def E17 : List (Nat × Ax.Fn) := (27, ⟨[.int .i64, .int .i64], (.str), F_ref20_sum⟩) :: E16
theorem E17_ok : EOk P (gl mx) (Ax.look E17) := eok_cons F_ref20_sum_ok E16_ok
def F_ref16_Other_T : List (Nat × List (Nat × Nat × Ax.Tm)) := [(28, [(3, 0, (⟨[(0, .seq), (4, .int .i64), (5, .int .i64)], [], 0⟩ : Go.Ax.Tm))])]
theorem F_ref16_Other_eq : (fun ds => (fnO tau (gl mx) (xd F_ref16_Other_T) (Ax.look E17) 100 28 [.seq] (.tuple [.int .i64, .bool]) ds).run) = F_ref16_Other := by kernel_rfl
theorem F_ref16_Other_ok : FnOk P (gl mx) 28 ⟨[.seq], (.tuple [.int .i64, .bool]), F_ref16_Other⟩ := F_ref16_Other_eq ▸ fnO_ok tau_ok mix (xd_ok _) (E17_ok)
noncomputable def E18 : List (Nat × Ax.Fn) := (28, ⟨[.seq], (.tuple [.int .i64, .bool]), F_ref16_Other⟩) :: E17
theorem E18_ok : EOk P (gl mx) (Ax.look E18) := eok_cons F_ref16_Other_ok E17_ok
def F_ref20_Expansion_T : List (Nat × List (Nat × Nat × Ax.Tm)) := [(16, [(10, 1, (⟨[(1, .seq), (2, .ptr 0 0), (6, .str), (9, .int .i64), (10, .bool), (11, .int .i64)], [(0, .each [.int .i64, .int .i64, .int .i64, .str, .str, .bool, .int .i64, .int .i64, .int .i64, .int .i64, .int .i64, .int .i64, .int .i64])], 1⟩ : Go.Ax.Tm))])]
theorem F_ref20_Expansion_eq : (fun ds => (fnO tau (gl mx) (xd F_ref20_Expansion_T) (Ax.look E18) 100 16 [.agg [.int .i64, .int .i64, .int .i64, .str, .str, .bool, .int .i64, .int .i64, .int .i64, .int .i64, .int .i64, .int .i64, .int .i64], .seq] (.tuple [.str, .int .i64]) ds).run) = F_ref20_Expansion := by kernel_rfl
theorem F_ref20_Expansion_ok : FnOk P (gl mx) 16 ⟨[.agg [.int .i64, .int .i64, .int .i64, .str, .str, .bool, .int .i64, .int .i64, .int .i64, .int .i64, .int .i64, .int .i64, .int .i64], .seq], (.tuple [.str, .int .i64]), F_ref20_Expansion⟩ := F_ref20_Expansion_eq ▸ fnO_ok tau_ok mix (xd_ok _) (E18_ok)
noncomputable def E19 : List (Nat × Ax.Fn) := (16, ⟨[.agg [.int .i64, .int .i64, .int .i64, .str, .str, .bool, .int .i64, .int .i64, .int .i64, .int .i64, .int .i64, .int .i64, .int .i64], .seq], (.tuple [.str, .int .i64]), F_ref20_Expansion⟩) :: E18
theorem E19_ok : EOk P (gl mx) (Ax.look E19) := eok_cons F_ref20_Expansion_ok E18_ok
def F_law20_NumericExpands_T : List (Nat × List (Nat × Nat × Ax.Tm)) := []
theorem F_law20_NumericExpands_eq : (fun ds => (fnO tau (gl mx) (xd F_law20_NumericExpands_T) (Ax.look E19) 100 4 [.agg [.int .i64, .int .i64, .int .i64, .str, .str, .bool, .int .i64, .int .i64, .int .i64, .int .i64, .int .i64, .int .i64, .int .i64], .seq] (.bool) ds).run) = F_law20_NumericExpands := by kernel_rfl
theorem F_law20_NumericExpands_ok : FnOk P (gl mx) 4 ⟨[.agg [.int .i64, .int .i64, .int .i64, .str, .str, .bool, .int .i64, .int .i64, .int .i64, .int .i64, .int .i64, .int .i64, .int .i64], .seq], (.bool), F_law20_NumericExpands⟩ := F_law20_NumericExpands_eq ▸ fnO_ok tau_ok mix (xd_ok _) (E19_ok)
noncomputable def E20 : List (Nat × Ax.Fn) := (4, ⟨[.agg [.int .i64, .int .i64, .int .i64, .str, .str, .bool, .int .i64, .int .i64, .int .i64, .int .i64, .int .i64, .int .i64, .int .i64], .seq], (.bool), F_law20_NumericExpands⟩) :: E19
theorem E20_ok : EOk P (gl mx) (Ax.look E20) := eok_cons F_law20_NumericExpands_ok E19_ok
def F_law20_NumericBack_T : List (Nat × List (Nat × Nat × Ax.Tm)) := []
theorem F_law20_NumericBack_eq : (fun ds => (fnO tau (gl mx) (xd F_law20_NumericBack_T) (Ax.look E20) 100 5 [.int .u32, .int .u32] (.bool) ds).run) = F_law20_NumericBack := by kernel_rfl
theorem F_law20_NumericBack_ok : FnOk P (gl mx) 5 ⟨[.int .u32, .int .u32], (.bool), F_law20_NumericBack⟩ := F_law20_NumericBack_eq ▸ fnO_ok tau_ok mix (xd_ok _) (E20_ok)
noncomputable def E21 : List (Nat × Ax.Fn) := (5, ⟨[.int .u32, .int .u32], (.bool), F_law20_NumericBack⟩) :: E20
theorem E21_ok : EOk P (gl mx) (Ax.look E21) := eok_cons F_law20_NumericBack_ok E20_ok
def F_law20_NumericDigits_T : List (Nat × List (Nat × Nat × Ax.Tm)) := []
theorem F_law20_NumericDigits_eq : (fun ds => (fnO tau (gl mx) (xd F_law20_NumericDigits_T) (Ax.look E21) 100 6 [.int .u8, .int .u8, .int .u8, .bool] (.bool) ds).run) = F_law20_NumericDigits := by kernel_rfl
theorem F_law20_NumericDigits_ok : FnOk P (gl mx) 6 ⟨[.int .u8, .int .u8, .int .u8, .bool], (.bool), F_law20_NumericDigits⟩ := F_law20_NumericDigits_eq ▸ fnO_ok tau_ok mix (xd_ok _) (E21_ok)
noncomputable def E22 : List (Nat × Ax.Fn) := (6, ⟨[.int .u8, .int .u8, .int .u8, .bool], (.bool), F_law20_NumericDigits⟩) :: E21
theorem E22_ok : EOk P (gl mx) (Ax.look E22) := eok_cons F_law20_NumericDigits_ok E21_ok
def F_law20_NumericEras_T : List (Nat × List (Nat × Nat × Ax.Tm)) := [(7, [(9, 1, (⟨[(9, .int .i64), (10, .int .i64), (11, .ptr 0 0), (12, .acc 1 11), (13, .bool), (40, .seq), (41, .int .i64), (42, .int .i64)], [(0, .each [.int .i64, .int .i64, .int .i64, .str, .str, .bool, .int .i64, .int .i64, .int .i64, .int .i64, .int .i64, .int .i64, .int .i64]), (1, .whole)], 2⟩ : Go.Ax.Tm)), (23, 2, (⟨[(11, .ptr 0 0), (12, .acc 1 11), (17, .str), (18, .str), (19, .int .i64), (20, .int .i64), (21, .int .i64)], [(0, .each [.int .i64, .int .i64, .int .i64, .str, .str, .bool, .int .i64, .int .i64, .int .i64, .int .i64, .int .i64, .int .i64, .int .i64]), (1, .whole)], 2⟩ : Go.Ax.Tm))])]
theorem F_law20_NumericEras_eq : (fun ds => (fnO tau (gl mx) (xd F_law20_NumericEras_T) (Ax.look E22) 100 7 [.int .i32, .int .i16, .int .u8, .seq] (.bool) ds).run) = F_law20_NumericEras := by kernel_rfl
theorem F_law20_NumericEras_ok : FnOk P (gl mx) 7 ⟨[.int .i32, .int .i16, .int .u8, .seq], (.bool), F_law20_NumericEras⟩ := F_law20_NumericEras_eq ▸ fnO_ok tau_ok mix (xd_ok _) (E22_ok)
noncomputable def E23 : List (Nat × Ax.Fn) := (7, ⟨[.int .i32, .int .i16, .int .u8, .seq], (.bool), F_law20_NumericEras⟩) :: E22
theorem E23_ok : EOk P (gl mx) (Ax.look E23) := eok_cons F_law20_NumericEras_ok E22_ok
theorem shelf29 : FnOk P (gl mx) 29 ⟨[.str, .str], (.int .i64), strIndex⟩ := by
  have h := IsProg.eq (P := P)
  subst h
  exact strIndex_ok Try.func29 (c := code29) (by kernel_rfl) (by kernel_rfl) (m := mx) (g := 0) (by kernel_rfl) (fun s t w hs hm => Try.strings_Index s t mx w hs hm)
noncomputable def E24 : List (Nat × Ax.Fn) := (29, ⟨[.str, .str], (.int .i64), strIndex⟩) :: E23
theorem E24_ok : EOk P (gl mx) (Ax.look E24) := eok_cons shelf29 E23_ok
def F_strings_Contains_T : List (Nat × List (Nat × Nat × Ax.Tm)) := []
theorem F_strings_Contains_eq : (fun ds => (fnO tau (gl mx) (xd F_strings_Contains_T) (Ax.look E24) 100 19 [.str, .str] (.bool) ds).run) = F_strings_Contains := by kernel_rfl
theorem F_strings_Contains_ok : FnOk P (gl mx) 19 ⟨[.str, .str], (.bool), F_strings_Contains⟩ := F_strings_Contains_eq ▸ fnO_ok tau_ok mix (xd_ok _) (E24_ok)
noncomputable def E25 : List (Nat × Ax.Fn) := (19, ⟨[.str, .str], (.bool), F_strings_Contains⟩) :: E24
theorem E25_ok : EOk P (gl mx) (Ax.look E25) := eok_cons F_strings_Contains_ok E24_ok
theorem shelf33 : FnOk P (gl mx) 33 ⟨[.str, .str], (.int .i64), strIndex⟩ := by
  have h := IsProg.eq (P := P)
  subst h
  exact strIndex_ok Try.func33 (c := code33) (by kernel_rfl) (by kernel_rfl) (m := mx) (g := 0) (by kernel_rfl) (fun s t w hs hm => Try.stringslite_Index s t mx w hs hm)
noncomputable def E26 : List (Nat × Ax.Fn) := (33, ⟨[.str, .str], (.int .i64), strIndex⟩) :: E25
theorem E26_ok : EOk P (gl mx) (Ax.look E26) := eok_cons shelf33 E25_ok
def F_internal_stringslite_Cut_T : List (Nat × List (Nat × Nat × Ax.Tm)) := []
theorem F_internal_stringslite_Cut_eq : (fun ds => (fnO tau (gl mx) (xd F_internal_stringslite_Cut_T) (Ax.look E26) 100 30 [.str, .str] (.tuple [.str, .str, .bool]) ds).run) = F_internal_stringslite_Cut := by kernel_rfl
theorem F_internal_stringslite_Cut_ok : FnOk P (gl mx) 30 ⟨[.str, .str], (.tuple [.str, .str, .bool]), F_internal_stringslite_Cut⟩ := F_internal_stringslite_Cut_eq ▸ fnO_ok tau_ok mix (xd_ok _) (E26_ok)
noncomputable def E27 : List (Nat × Ax.Fn) := (30, ⟨[.str, .str], (.tuple [.str, .str, .bool]), F_internal_stringslite_Cut⟩) :: E26
theorem E27_ok : EOk P (gl mx) (Ax.look E27) := eok_cons F_internal_stringslite_Cut_ok E26_ok
def F_strings_Cut_T : List (Nat × List (Nat × Nat × Ax.Tm)) := []
theorem F_strings_Cut_eq : (fun ds => (fnO tau (gl mx) (xd F_strings_Cut_T) (Ax.look E27) 100 20 [.str, .str] (.tuple [.str, .str, .bool]) ds).run) = F_strings_Cut := by kernel_rfl
theorem F_strings_Cut_ok : FnOk P (gl mx) 20 ⟨[.str, .str], (.tuple [.str, .str, .bool]), F_strings_Cut⟩ := F_strings_Cut_eq ▸ fnO_ok tau_ok mix (xd_ok _) (E27_ok)
noncomputable def E28 : List (Nat × Ax.Fn) := (20, ⟨[.str, .str], (.tuple [.str, .str, .bool]), F_strings_Cut⟩) :: E27
theorem E28_ok : EOk P (gl mx) (Ax.look E28) := eok_cons F_strings_Cut_ok E27_ok
def F_law20_NumericTurned_T : List (Nat × List (Nat × Nat × Ax.Tm)) := []
theorem F_law20_NumericTurned_eq : (fun ds => (fnO tau (gl mx) (xd F_law20_NumericTurned_T) (Ax.look E28) 100 8 [.int .i32, .int .i16] (.bool) ds).run) = F_law20_NumericTurned := by kernel_rfl
theorem F_law20_NumericTurned_ok : FnOk P (gl mx) 8 ⟨[.int .i32, .int .i16], (.bool), F_law20_NumericTurned⟩ := F_law20_NumericTurned_eq ▸ fnO_ok tau_ok mix (xd_ok _) (E28_ok)
noncomputable def E29 : List (Nat × Ax.Fn) := (8, ⟨[.int .i32, .int .i16], (.bool), F_law20_NumericTurned⟩) :: E28
theorem E29_ok : EOk P (gl mx) (Ax.look E29) := eok_cons F_law20_NumericTurned_ok E28_ok
def F_law20_NumericRefuses_T : List (Nat × List (Nat × Nat × Ax.Tm)) := []
theorem F_law20_NumericRefuses_eq : (fun ds => (fnO tau (gl mx) (xd F_law20_NumericRefuses_T) (Ax.look E29) 100 9 [.int .i32, .int .u16, .int .u16, .int .u32] (.bool) ds).run) = F_law20_NumericRefuses := by kernel_rfl
theorem F_law20_NumericRefuses_ok : FnOk P (gl mx) 9 ⟨[.int .i32, .int .u16, .int .u16, .int .u32], (.bool), F_law20_NumericRefuses⟩ := F_law20_NumericRefuses_eq ▸ fnO_ok tau_ok mix (xd_ok _) (E29_ok)
noncomputable def E30 : List (Nat × Ax.Fn) := (9, ⟨[.int .i32, .int .u16, .int .u16, .int .u32], (.bool), F_law20_NumericRefuses⟩) :: E29
theorem E30_ok : EOk P (gl mx) (Ax.look E30) := eok_cons F_law20_NumericRefuses_ok E29_ok
end Go.Proofs.Ytnfgmffcnmifkaa
