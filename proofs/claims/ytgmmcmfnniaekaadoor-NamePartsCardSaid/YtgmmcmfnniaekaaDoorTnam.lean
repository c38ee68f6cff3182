/-
  The functions of plain data are what the program's code says.
-/
import Derived.Test.YtgmmcmfnniaekaaDoorAxT
import Derived.Test.YtgmmcmfnniaekaaDoorShelf
import Derived.Test.YtgmmcmfnniaekaaDoorFnam
import Derived.Test.YtgmmcmfnniaekaaDoorHBuilder
import Derived.Test.YtgmmcmfnniaekaaDoorHZone
namespace Go.Proofs.YtgmmcmfnniaekaaDoor
open Go.Ax
set_option linter.all false
set_option maxRecDepth 100000
set_option maxHeartbeats 4000000
variable {P : Program} [IsProg P]
variable {mx : Int}
def glList (mx : Int) : List (Nat × List AV) := [(3, [.int .u8 (.lit 128), .int .u8 (.lit 191), .int .u8 (.lit 160), .int .u8 (.lit 191), .int .u8 (.lit 128), .int .u8 (.lit 159), .int .u8 (.lit 144), .int .u8 (.lit 191), .int .u8 (.lit 128), .int .u8 (.lit 143), .int .u8 (.lit 0), .int .u8 (.lit 0), .int .u8 (.lit 0), .int .u8 (.lit 0), .int .u8 (.lit 0), .int .u8 (.lit 0), .int .u8 (.lit 0), .int .u8 (.lit 0), .int .u8 (.lit 0), .int .u8 (.lit 0), .int .u8 (.lit 0), .int .u8 (.lit 0), .int .u8 (.lit 0), .int .u8 (.lit 0), .int .u8 (.lit 0), .int .u8 (.lit 0), .int .u8 (.lit 0), .int .u8 (.lit 0), .int .u8 (.lit 0), .int .u8 (.lit 0), .int .u8 (.lit 0), .int .u8 (.lit 0)]), (0, [.int .u8 (.lit 0), .int .u8 (.lit 0), .int .u8 (.lit 0), .int .u8 (.lit 0), .int .u8 (.lit 0), .int .u8 (.lit 0), .int .u8 (.lit 0), .int .u8 (.lit 0), .int .u8 (.lit 0), .int .u8 (.lit 0), .int .u8 (.lit 0), .int .u8 (.lit 0), .int .u8 (.lit 0), .int .u8 (.lit 0), .int .u8 (.lit 0), .int .u8 (.lit 0), .int .u8 (.lit 0), .int .u8 (.lit 0), .int .u8 (.lit 0), .int .u8 (.lit 0), .int .u8 (.lit 0), .int .u8 (.lit 0), .int .u8 (.lit 0), .int .u8 (.lit 0), .int .u8 (.lit 0), .int .u8 (.lit 0), .int .u8 (.lit 0), .int .u8 (.lit 0), .int .u8 (.lit 0), .int .u8 (.lit 0), .int .u8 (.lit 0), .int .u8 (.lit 0), .int .u8 (.lit 0), .int .u8 (.lit 0), .int .u8 (.lit 0), .int .u8 (.lit 0), .int .u8 (.lit 0), .int .u8 (.lit 0), .int .u8 (.lit 0), .int .u8 (.lit 0), .int .u8 (.lit 0), .int .u8 (.lit 0), .int .u8 (.lit 0), .int .u8 (.lit 16), .int .u8 (.lit 0), .int .u8 (.lit 4), .int .u8 (.lit 8), .int .u8 (.lit 0), .int .u8 (.lit 2), .int .u8 (.lit 2), .int .u8 (.lit 2), .int .u8 (.lit 2), .int .u8 (.lit 2), .int .u8 (.lit 2), .int .u8 (.lit 2), .int .u8 (.lit 2), .int .u8 (.lit 2), .int .u8 (.lit 2), .int .u8 (.lit 0), .int .u8 (.lit 0), .int .u8 (.lit 0), .int .u8 (.lit 0), .int .u8 (.lit 0), .int .u8 (.lit 0), .int .u8 (.lit 0), .int .u8 (.lit 1), .int .u8 (.lit 1), .int .u8 (.lit 1), .int .u8 (.lit 1), .int .u8 (.lit 1), .int .u8 (.lit 1), .int .u8 (.lit 1), .int .u8 (.lit 1), .int .u8 (.lit 1), .int .u8 (.lit 1), .int .u8 (.lit 1), .int .u8 (.lit 1), .int .u8 (.lit 1), .int .u8 (.lit 1), .int .u8 (.lit 1), .int .u8 (.lit 1), .int .u8 (.lit 1), .int .u8 (.lit 1), .int .u8 (.lit 1), .int .u8 (.lit 1), .int .u8 (.lit 1), .int .u8 (.lit 1), .int .u8 (.lit 1), .int .u8 (.lit 1), .int .u8 (.lit 1), .int .u8 (.lit 1), .int .u8 (.lit 0), .int .u8 (.lit 0), .int .u8 (.lit 0), .int .u8 (.lit 0), .int .u8 (.lit 4), .int .u8 (.lit 0), .int .u8 (.lit 1), .int .u8 (.lit 1), .int .u8 (.lit 1), .int .u8 (.lit 1), .int .u8 (.lit 1), .int .u8 (.lit 1), .int .u8 (.lit 1), .int .u8 (.lit 1), .int .u8 (.lit 1), .int .u8 (.lit 1), .int .u8 (.lit 1), .int .u8 (.lit 1), .int .u8 (.lit 1), .int .u8 (.lit 1), .int .u8 (.lit 1), .int .u8 (.lit 1), .int .u8 (.lit 1), .int .u8 (.lit 1), .int .u8 (.lit 1), .int .u8 (.lit 1), .int .u8 (.lit 1), .int .u8 (.lit 1), .int .u8 (.lit 1), .int .u8 (.lit 1), .int .u8 (.lit 1), .int .u8 (.lit 1), .int .u8 (.lit 0), .int .u8 (.lit 0), .int .u8 (.lit 0), .int .u8 (.lit 0), .int .u8 (.lit 0)]), (2, [.int .u8 (.lit 240), .int .u8 (.lit 240), .int .u8 (.lit 240), .int .u8 (.lit 240), .int .u8 (.lit 240), .int .u8 (.lit 240), .int .u8 (.lit 240), .int .u8 (.lit 240), .int .u8 (.lit 240), .int .u8 (.lit 240), .int .u8 (.lit 240), .int .u8 (.lit 240), .int .u8 (.lit 240), .int .u8 (.lit 240), .int .u8 (.lit 240), .int .u8 (.lit 240), .int .u8 (.lit 240), .int .u8 (.lit 240), .int .u8 (.lit 240), .int .u8 (.lit 240), .int .u8 (.lit 240), .int .u8 (.lit 240), .int .u8 (.lit 240), .int .u8 (.lit 240), .int .u8 (.lit 240), .int .u8 (.lit 240), .int .u8 (.lit 240), .int .u8 (.lit 240), .int .u8 (.lit 240), .int .u8 (.lit 240), .int .u8 (.lit 240), .int .u8 (.lit 240), .int .u8 (.lit 240), .int .u8 (.lit 240), .int .u8 (.lit 240), .int .u8 (.lit 240), .int .u8 (.lit 240), .int .u8 (.lit 240), .int .u8 (.lit 240), .int .u8 (.lit 240), .int .u8 (.lit 240), .int .u8 (.lit 240), .int .u8 (.lit 240), .int .u8 (.lit 240), .int .u8 (.lit 240), .int .u8 (.lit 240), .int .u8 (.lit 240), .int .u8 (.lit 240), .int .u8 (.lit 240), .int .u8 (.lit 240), .int .u8 (.lit 240), .int .u8 (.lit 240), .int .u8 (.lit 240), .int .u8 (.lit 240), .int .u8 (.lit 240), .int .u8 (.lit 240), .int .u8 (.lit 240), .int .u8 (.lit 240), .int .u8 (.lit 240), .int .u8 (.lit 240), .int .u8 (.lit 240), .int .u8 (.lit 240), .int .u8 (.lit 240), .int .u8 (.lit 240), .int .u8 (.lit 240), .int .u8 (.lit 240), .int .u8 (.lit 240), .int .u8 (.lit 240), .int .u8 (.lit 240), .int .u8 (.lit 240), .int .u8 (.lit 240), .int .u8 (.lit 240), .int .u8 (.lit 240), .int .u8 (.lit 240), .int .u8 (.lit 240), .int .u8 (.lit 240), .int .u8 (.lit 240), .int .u8 (.lit 240), .int .u8 (.lit 240), .int .u8 (.lit 240), .int .u8 (.lit 240), .int .u8 (.lit 240), .int .u8 (.lit 240), .int .u8 (.lit 240), .int .u8 (.lit 240), .int .u8 (.lit 240), .int .u8 (.lit 240), .int .u8 (.lit 240), .int .u8 (.lit 240), .int .u8 (.lit 240), .int .u8 (.lit 240), .int .u8 (.lit 240), .int .u8 (.lit 240), .int .u8 (.lit 240), .int .u8 (.lit 240), .int .u8 (.lit 240), .int .u8 (.lit 240), .int .u8 (.lit 240), .int .u8 (.lit 240), .int .u8 (.lit 240), .int .u8 (.lit 240), .int .u8 (.lit 240), .int .u8 (.lit 240), .int .u8 (.lit 240), .int .u8 (.lit 240), .int .u8 (.lit 240), .int .u8 (.lit 240), .int .u8 (.lit 240), .int .u8 (.lit 240), .int .u8 (.lit 240), .int .u8 (.lit 240), .int .u8 (.lit 240), .int .u8 (.lit 240), .int .u8 (.lit 240), .int .u8 (.lit 240), .int .u8 (.lit 240), .int .u8 (.lit 240), .int .u8 (.lit 240), .int .u8 (.lit 240), .int .u8 (.lit 240), .int .u8 (.lit 240), .int .u8 (.lit 240), .int .u8 (.lit 240), .int .u8 (.lit 240), .int .u8 (.lit 240), .int .u8 (.lit 240), .int .u8 (.lit 240), .int .u8 (.lit 240), .int .u8 (.lit 241), .int .u8 (.lit 241), .int .u8 (.lit 241), .int .u8 (.lit 241), .int .u8 (.lit 241), .int .u8 (.lit 241), .int .u8 (.lit 241), .int .u8 (.lit 241), .int .u8 (.lit 241), .int .u8 (.lit 241), .int .u8 (.lit 241), .int .u8 (.lit 241), .int .u8 (.lit 241), .int .u8 (.lit 241), .int .u8 (.lit 241), .int .u8 (.lit 241), .int .u8 (.lit 241), .int .u8 (.lit 241), .int .u8 (.lit 241), .int .u8 (.lit 241), .int .u8 (.lit 241), .int .u8 (.lit 241), .int .u8 (.lit 241), .int .u8 (.lit 241), .int .u8 (.lit 241), .int .u8 (.lit 241), .int .u8 (.lit 241), .int .u8 (.lit 241), .int .u8 (.lit 241), .int .u8 (.lit 241), .int .u8 (.lit 241), .int .u8 (.lit 241), .int .u8 (.lit 241), .int .u8 (.lit 241), .int .u8 (.lit 241), .int .u8 (.lit 241), .int .u8 (.lit 241), .int .u8 (.lit 241), .int .u8 (.lit 241), .int .u8 (.lit 241), .int .u8 (.lit 241), .int .u8 (.lit 241), .int .u8 (.lit 241), .int .u8 (.lit 241), .int .u8 (.lit 241), .int .u8 (.lit 241), .int .u8 (.lit 241), .int .u8 (.lit 241), .int .u8 (.lit 241), .int .u8 (.lit 241), .int .u8 (.lit 241), .int .u8 (.lit 241), .int .u8 (.lit 241), .int .u8 (.lit 241), .int .u8 (.lit 241), .int .u8 (.lit 241), .int .u8 (.lit 241), .int .u8 (.lit 241), .int .u8 (.lit 241), .int .u8 (.lit 241), .int .u8 (.lit 241), .int .u8 (.lit 241), .int .u8 (.lit 241), .int .u8 (.lit 241), .int .u8 (.lit 241), .int .u8 (.lit 241), .int .u8 (.lit 2), .int .u8 (.lit 2), .int .u8 (.lit 2), .int .u8 (.lit 2), .int .u8 (.lit 2), .int .u8 (.lit 2), .int .u8 (.lit 2), .int .u8 (.lit 2), .int .u8 (.lit 2), .int .u8 (.lit 2), .int .u8 (.lit 2), .int .u8 (.lit 2), .int .u8 (.lit 2), .int .u8 (.lit 2), .int .u8 (.lit 2), .int .u8 (.lit 2), .int .u8 (.lit 2), .int .u8 (.lit 2), .int .u8 (.lit 2), .int .u8 (.lit 2), .int .u8 (.lit 2), .int .u8 (.lit 2), .int .u8 (.lit 2), .int .u8 (.lit 2), .int .u8 (.lit 2), .int .u8 (.lit 2), .int .u8 (.lit 2), .int .u8 (.lit 2), .int .u8 (.lit 2), .int .u8 (.lit 2), .int .u8 (.lit 19), .int .u8 (.lit 3), .int .u8 (.lit 3), .int .u8 (.lit 3), .int .u8 (.lit 3), .int .u8 (.lit 3), .int .u8 (.lit 3), .int .u8 (.lit 3), .int .u8 (.lit 3), .int .u8 (.lit 3), .int .u8 (.lit 3), .int .u8 (.lit 3), .int .u8 (.lit 3), .int .u8 (.lit 35), .int .u8 (.lit 3), .int .u8 (.lit 3), .int .u8 (.lit 52), .int .u8 (.lit 4), .int .u8 (.lit 4), .int .u8 (.lit 4), .int .u8 (.lit 68), .int .u8 (.lit 241), .int .u8 (.lit 241), .int .u8 (.lit 241), .int .u8 (.lit 241), .int .u8 (.lit 241), .int .u8 (.lit 241), .int .u8 (.lit 241), .int .u8 (.lit 241), .int .u8 (.lit 241), .int .u8 (.lit 241), .int .u8 (.lit 241)]), (1, [.int .i64 (.sym mx)])]
def gl (mx : Int) : Nat → Option (List AV) := Ax.look (glList mx)
noncomputable def rl : Nat → Option Rule := Ax.look [(66, ruleCopy 67), (54, ruleString 67 5)]
theorem rl_ok : RulesOk P (gl mx) rl := (rules_cons copyCheck_rule (rules_cons builderString_rule rules_nil))
noncomputable def E0 : List (Nat × Ax.Fn) := []
omit [IsProg P] in theorem E0_ok : EOk P (gl mx) (Ax.look E0) := eok_nil
theorem shelf13 : FnOk P (gl mx) 13 ⟨[.str], .bool, nameZone⟩ := by
  have h := IsProg.eq (P := P)
  subst h
  exact nameZone_ok (mx := mx) (Zo.look_one (by kernel_rfl))
noncomputable def E1 : List (Nat × Ax.Fn) := (13, ⟨[.str], .bool, nameZone⟩) :: E0
theorem E1_ok : EOk P (gl mx) (Ax.look E1) := eok_cons shelf13 E0_ok
def F_name_Set_T : List (Nat × List (Nat × Nat × Ax.Tm)) := [(39, [(4, 0, (⟨[(0, .str), (3, .func 42 [] []), (21, .int .i64), (22, .int .i64)], [], 0⟩ : Go.Ax.Tm))])]
theorem F_name_Set_eq : (fun ds => (fnO tau (gl mx) (xd F_name_Set_T) rl (Ax.look E1) 100 15 [.str] (.bool) ds).run) = F_name_Set := by kernel_rfl
theorem F_name_Set_ok : FnOk P (gl mx) 15 ⟨[.str], (.bool), F_name_Set⟩ := F_name_Set_eq ▸ fnO_ok tau_ok mix (xd_ok _) rl_ok (E1_ok)
noncomputable def E2 : List (Nat × Ax.Fn) := (15, ⟨[.str], (.bool), F_name_Set⟩) :: E1
theorem E2_ok : EOk P (gl mx) (Ax.look E2) := eok_cons F_name_Set_ok E1_ok
def F_name_letters_T : List (Nat × List (Nat × Nat × Ax.Tm)) := [(39, [(4, 0, (⟨[(0, .str), (3, .func 59 [] []), (21, .int .i64), (22, .int .i64)], [], 0⟩ : Go.Ax.Tm))])]
theorem F_name_letters_eq : (fun ds => (fnO tau (gl mx) (xd F_name_letters_T) rl (Ax.look E2) 100 45 [.str, .int .i64, .int .i64] (.bool) ds).run) = F_name_letters := by kernel_rfl
theorem F_name_letters_ok : FnOk P (gl mx) 45 ⟨[.str, .int .i64, .int .i64], (.bool), F_name_letters⟩ := F_name_letters_eq ▸ fnO_ok tau_ok mix (xd_ok _) rl_ok (E2_ok)
noncomputable def E3 : List (Nat × Ax.Fn) := (45, ⟨[.str, .int .i64, .int .i64], (.bool), F_name_letters⟩) :: E2
theorem E3_ok : EOk P (gl mx) (Ax.look E3) := eok_cons F_name_letters_ok E2_ok
def F_name_Letter_T : List (Nat × List (Nat × Nat × Ax.Tm)) := []
theorem F_name_Letter_eq : (fun ds => (fnO tau (gl mx) (xd F_name_Letter_T) rl (Ax.look E3) 100 17 [.str] (.bool) ds).run) = F_name_Letter := by kernel_rfl
theorem F_name_Letter_ok : FnOk P (gl mx) 17 ⟨[.str], (.bool), F_name_Letter⟩ := F_name_Letter_eq ▸ fnO_ok tau_ok mix (xd_ok _) rl_ok (E3_ok)
noncomputable def E4 : List (Nat × Ax.Fn) := (17, ⟨[.str], (.bool), F_name_Letter⟩) :: E3
theorem E4_ok : EOk P (gl mx) (Ax.look E4) := eok_cons F_name_Letter_ok E3_ok
def F_name_Abbr_T : List (Nat × List (Nat × Nat × Ax.Tm)) := []
theorem F_name_Abbr_eq : (fun ds => (fnO tau (gl mx) (xd F_name_Abbr_T) rl (Ax.look E4) 100 19 [.str] (.bool) ds).run) = F_name_Abbr := by kernel_rfl
theorem F_name_Abbr_ok : FnOk P (gl mx) 19 ⟨[.str], (.bool), F_name_Abbr⟩ := F_name_Abbr_eq ▸ fnO_ok tau_ok mix (xd_ok _) rl_ok (E4_ok)
noncomputable def E5 : List (Nat × Ax.Fn) := (19, ⟨[.str], (.bool), F_name_Abbr⟩) :: E4
theorem E5_ok : EOk P (gl mx) (Ax.look E5) := eok_cons F_name_Abbr_ok E4_ok
theorem F_law07_works_eq : (fun ds => (fnO tau (gl mx) (xd []) rl (Ax.look E5) 3000 12 [] (.bool) ds).run) = F_law07_works := by kernel_rfl
theorem F_law07_works_ok : FnOk P (gl mx) 12 ⟨[], (.bool), F_law07_works⟩ := F_law07_works_eq ▸ fnO_ok tau_ok mix (xd_ok _) rl_ok (E5_ok)
noncomputable def E6 : List (Nat × Ax.Fn) := (12, ⟨[], (.bool), F_law07_works⟩) :: E5
theorem E6_ok : EOk P (gl mx) (Ax.look E6) := eok_cons F_law07_works_ok E5_ok
def F_ref07_letter_T : List (Nat × List (Nat × Nat × Ax.Tm)) := []
theorem F_ref07_letter_eq : (fun ds => (fnO tau (gl mx) (xd F_ref07_letter_T) rl (Ax.look E6) 100 43 [.int .u8] (.bool) ds).run) = F_ref07_letter := by kernel_rfl
theorem F_ref07_letter_ok : FnOk P (gl mx) 43 ⟨[.int .u8], (.bool), F_ref07_letter⟩ := F_ref07_letter_eq ▸ fnO_ok tau_ok mix (xd_ok _) rl_ok (E6_ok)
noncomputable def E7 : List (Nat × Ax.Fn) := (43, ⟨[.int .u8], (.bool), F_ref07_letter⟩) :: E6
theorem E7_ok : EOk P (gl mx) (Ax.look E7) := eok_cons F_ref07_letter_ok E6_ok
def F_ref07_digit_T : List (Nat × List (Nat × Nat × Ax.Tm)) := []
theorem F_ref07_digit_eq : (fun ds => (fnO tau (gl mx) (xd F_ref07_digit_T) rl (Ax.look E7) 100 44 [.int .u8] (.bool) ds).run) = F_ref07_digit := by kernel_rfl
theorem F_ref07_digit_ok : FnOk P (gl mx) 44 ⟨[.int .u8], (.bool), F_ref07_digit⟩ := F_ref07_digit_eq ▸ fnO_ok tau_ok mix (xd_ok _) rl_ok (E7_ok)
noncomputable def E8 : List (Nat × Ax.Fn) := (44, ⟨[.int .u8], (.bool), F_ref07_digit⟩) :: E7
theorem E8_ok : EOk P (gl mx) (Ax.look E8) := eok_cons F_ref07_digit_ok E7_ok
def F_ref07_part_T : List (Nat × List (Nat × Nat × Ax.Tm)) := [(41, [(4, 0, (⟨[(0, .str), (3, .int .i64)], [], 0⟩ : Go.Ax.Tm))])]
theorem F_ref07_part_eq : (fun ds => (fnO tau (gl mx) (xd F_ref07_part_T) rl (Ax.look E8) 100 41 [.str] (.bool) ds).run) = F_ref07_part := by kernel_rfl
theorem F_ref07_part_ok : FnOk P (gl mx) 41 ⟨[.str], (.bool), F_ref07_part⟩ := F_ref07_part_eq ▸ fnO_ok tau_ok mix (xd_ok _) rl_ok (E8_ok)
noncomputable def E9 : List (Nat × Ax.Fn) := (41, ⟨[.str], (.bool), F_ref07_part⟩) :: E8
theorem E9_ok : EOk P (gl mx) (Ax.look E9) := eok_cons F_ref07_part_ok E8_ok
def F_ref07_Zone_T : List (Nat × List (Nat × Nat × Ax.Tm)) := [(14, [(3, 0, (⟨[(0, .str), (3, .int .i64), (4, .int .i64)], [], 0⟩ : Go.Ax.Tm))])]
theorem F_ref07_Zone_eq : (fun ds => (fnO tau (gl mx) (xd F_ref07_Zone_T) rl (Ax.look E9) 100 14 [.str] (.bool) ds).run) = F_ref07_Zone := by kernel_rfl
theorem F_ref07_Zone_ok : FnOk P (gl mx) 14 ⟨[.str], (.bool), F_ref07_Zone⟩ := F_ref07_Zone_eq ▸ fnO_ok tau_ok mix (xd_ok _) rl_ok (E9_ok)
noncomputable def E10 : List (Nat × Ax.Fn) := (14, ⟨[.str], (.bool), F_ref07_Zone⟩) :: E9
theorem E10_ok : EOk P (gl mx) (Ax.look E10) := eok_cons F_ref07_Zone_ok E9_ok
def F_ref07_Set_T : List (Nat × List (Nat × Nat × Ax.Tm)) := [(16, [(4, 0, (⟨[(0, .str), (3, .int .i64)], [], 0⟩ : Go.Ax.Tm))])]
theorem F_ref07_Set_eq : (fun ds => (fnO tau (gl mx) (xd F_ref07_Set_T) rl (Ax.look E10) 100 16 [.str] (.bool) ds).run) = F_ref07_Set := by kernel_rfl
theorem F_ref07_Set_ok : FnOk P (gl mx) 16 ⟨[.str], (.bool), F_ref07_Set⟩ := F_ref07_Set_eq ▸ fnO_ok tau_ok mix (xd_ok _) rl_ok (E10_ok)
noncomputable def E11 : List (Nat × Ax.Fn) := (16, ⟨[.str], (.bool), F_ref07_Set⟩) :: E10
theorem E11_ok : EOk P (gl mx) (Ax.look E11) := eok_cons F_ref07_Set_ok E10_ok
def F_ref07_letters_T : List (Nat × List (Nat × Nat × Ax.Tm)) := [(46, [(2, 0, (⟨[(0, .str), (1, .int .i64), (2, .int .i64), (7, .int .i64)], [], 0⟩ : Go.Ax.Tm))])]
theorem F_ref07_letters_eq : (fun ds => (fnO tau (gl mx) (xd F_ref07_letters_T) rl (Ax.look E11) 100 46 [.str, .int .i64, .int .i64] (.bool) ds).run) = F_ref07_letters := by kernel_rfl
theorem F_ref07_letters_ok : FnOk P (gl mx) 46 ⟨[.str, .int .i64, .int .i64], (.bool), F_ref07_letters⟩ := F_ref07_letters_eq ▸ fnO_ok tau_ok mix (xd_ok _) rl_ok (E11_ok)
noncomputable def E12 : List (Nat × Ax.Fn) := (46, ⟨[.str, .int .i64, .int .i64], (.bool), F_ref07_letters⟩) :: E11
theorem E12_ok : EOk P (gl mx) (Ax.look E12) := eok_cons F_ref07_letters_ok E11_ok
def F_ref07_Letter_T : List (Nat × List (Nat × Nat × Ax.Tm)) := []
theorem F_ref07_Letter_eq : (fun ds => (fnO tau (gl mx) (xd F_ref07_Letter_T) rl (Ax.look E12) 100 18 [.str] (.bool) ds).run) = F_ref07_Letter := by kernel_rfl
theorem F_ref07_Letter_ok : FnOk P (gl mx) 18 ⟨[.str], (.bool), F_ref07_Letter⟩ := F_ref07_Letter_eq ▸ fnO_ok tau_ok mix (xd_ok _) rl_ok (E12_ok)
noncomputable def E13 : List (Nat × Ax.Fn) := (18, ⟨[.str], (.bool), F_ref07_Letter⟩) :: E12
theorem E13_ok : EOk P (gl mx) (Ax.look E13) := eok_cons F_ref07_Letter_ok E12_ok
def F_ref07_Abbr_T : List (Nat × List (Nat × Nat × Ax.Tm)) := []
theorem F_ref07_Abbr_eq : (fun ds => (fnO tau (gl mx) (xd F_ref07_Abbr_T) rl (Ax.look E13) 100 20 [.str] (.bool) ds).run) = F_ref07_Abbr := by kernel_rfl
theorem F_ref07_Abbr_ok : FnOk P (gl mx) 20 ⟨[.str], (.bool), F_ref07_Abbr⟩ := F_ref07_Abbr_eq ▸ fnO_ok tau_ok mix (xd_ok _) rl_ok (E13_ok)
noncomputable def E14 : List (Nat × Ax.Fn) := (20, ⟨[.str], (.bool), F_ref07_Abbr⟩) :: E13
theorem E14_ok : EOk P (gl mx) (Ax.look E14) := eok_cons F_ref07_Abbr_ok E13_ok
def F_law07_NameStrings_T : List (Nat × List (Nat × Nat × Ax.Tm)) := []
theorem F_law07_NameStrings_eq : (fun ds => (fnO tau (gl mx) (xd F_law07_NameStrings_T) rl (Ax.look E14) 100 3 [.str] (.bool) ds).run) = F_law07_NameStrings := by kernel_rfl
theorem F_law07_NameStrings_ok : FnOk P (gl mx) 3 ⟨[.str], (.bool), F_law07_NameStrings⟩ := F_law07_NameStrings_eq ▸ fnO_ok tau_ok mix (xd_ok _) rl_ok (E14_ok)
noncomputable def E15 : List (Nat × Ax.Fn) := (3, ⟨[.str], (.bool), F_law07_NameStrings⟩) :: E14
theorem E15_ok : EOk P (gl mx) (Ax.look E15) := eok_cons F_law07_NameStrings_ok E14_ok
def F_law07_part_T : List (Nat × List (Nat × Nat × Ax.Tm)) := [(47, [(3, 0, (⟨[(3, .str), (11, .seq), (12, .int .i64), (13, .int .i64)], [], 0⟩ : Go.Ax.Tm))])]
theorem F_law07_part_eq : (fun ds => (fnO tau (gl mx) (xd F_law07_part_T) rl (Ax.look E15) 100 47 [.seq] (.str) ds).run) = F_law07_part := by kernel_rfl
theorem F_law07_part_ok : FnOk P (gl mx) 47 ⟨[.seq], (.str), F_law07_part⟩ := F_law07_part_eq ▸ fnO_ok tau_ok mix (xd_ok _) rl_ok (E15_ok)
noncomputable def E16 : List (Nat × Ax.Fn) := (47, ⟨[.seq], (.str), F_law07_part⟩) :: E15
theorem E16_ok : EOk P (gl mx) (Ax.look E16) := eok_cons F_law07_part_ok E15_ok
def F_law07_Zone_T : List (Nat × List (Nat × Nat × Ax.Tm)) := [(21, [(3, 0, (⟨[(3, .str), (10, .seq), (11, .int .i64), (12, .int .i64)], [], 0⟩ : Go.Ax.Tm))])]
theorem F_law07_Zone_eq : (fun ds => (fnO tau (gl mx) (xd F_law07_Zone_T) rl (Ax.look E16) 100 21 [.seq] (.str) ds).run) = F_law07_Zone := by kernel_rfl
theorem F_law07_Zone_ok : FnOk P (gl mx) 21 ⟨[.seq], (.str), F_law07_Zone⟩ := F_law07_Zone_eq ▸ fnO_ok tau_ok mix (xd_ok _) rl_ok (E16_ok)
noncomputable def E17 : List (Nat × Ax.Fn) := (21, ⟨[.seq], (.str), F_law07_Zone⟩) :: E16
theorem E17_ok : EOk P (gl mx) (Ax.look E17) := eok_cons F_law07_Zone_ok E16_ok
noncomputable def E18 : List (Nat × Ax.Fn) := E17
theorem E18_ok : EOk P (gl mx) (Ax.look E18) := E17_ok
def F_unicode_utf8_decodeRuneInStringSlow_T : List (Nat × List (Nat × Nat × Ax.Tm)) := []
theorem F_unicode_utf8_decodeRuneInStringSlow_eq : (fun ds => (fnO tau (gl mx) (xd F_unicode_utf8_decodeRuneInStringSlow_T) rl (Ax.look E18) 100 82 [.str] (.tuple [.int .i32, .int .i64]) ds).run) = F_unicode_utf8_decodeRuneInStringSlow := by kernel_rfl
theorem F_unicode_utf8_decodeRuneInStringSlow_ok : FnOk P (gl mx) 82 ⟨[.str], (.tuple [.int .i32, .int .i64]), F_unicode_utf8_decodeRuneInStringSlow⟩ := F_unicode_utf8_decodeRuneInStringSlow_eq ▸ fnO_ok tau_ok mix (xd_ok _) rl_ok (E18_ok)
noncomputable def E19 : List (Nat × Ax.Fn) := (82, ⟨[.str], (.tuple [.int .i32, .int .i64]), F_unicode_utf8_decodeRuneInStringSlow⟩) :: E18
theorem E19_ok : EOk P (gl mx) (Ax.look E19) := eok_cons F_unicode_utf8_decodeRuneInStringSlow_ok E18_ok
def F_unicode_utf8_DecodeRuneInString_T : List (Nat × List (Nat × Nat × Ax.Tm)) := []
theorem F_unicode_utf8_DecodeRuneInString_eq : (fun ds => (fnO tau (gl mx) (xd F_unicode_utf8_DecodeRuneInString_T) rl (Ax.look E19) 100 72 [.str] (.tuple [.int .i32, .int .i64]) ds).run) = F_unicode_utf8_DecodeRuneInString := by kernel_rfl
theorem F_unicode_utf8_DecodeRuneInString_ok : FnOk P (gl mx) 72 ⟨[.str], (.tuple [.int .i32, .int .i64]), F_unicode_utf8_DecodeRuneInString⟩ := F_unicode_utf8_DecodeRuneInString_eq ▸ fnO_ok tau_ok mix (xd_ok _) rl_ok (E19_ok)
noncomputable def E20 : List (Nat × Ax.Fn) := (72, ⟨[.str], (.tuple [.int .i32, .int .i64]), F_unicode_utf8_DecodeRuneInString⟩) :: E19
theorem E20_ok : EOk P (gl mx) (Ax.look E20) := eok_cons F_unicode_utf8_DecodeRuneInString_ok E19_ok
noncomputable def E21 : List (Nat × Ax.Fn) := E20
theorem E21_ok : EOk P (gl mx) (Ax.look E21) := E20_ok
theorem shelf61 : FnOk P (gl mx) 61 ⟨[.str, .str], (.int .i64), strCount1⟩ := by
  have h := IsProg.eq (P := P)
  subst h
  exact strCount1_ok Tryd.func61 (c := code61) (by kernel_rfl) (by kernel_rfl) (fun s c w => Tryd.strings_Count_one s c w)
noncomputable def E22 : List (Nat × Ax.Fn) := (61, ⟨[.str, .str], (.int .i64), strCount1⟩) :: E21
theorem E22_ok : EOk P (gl mx) (Ax.look E22) := eok_cons shelf61 E21_ok
theorem shelf62 : FnOk P (gl mx) 62 ⟨[.str, .str], (.int .i64), strIndex⟩ := by
  have h := IsProg.eq (P := P)
  subst h
  exact strIndex_ok Tryd.func62 (c := code62) (by kernel_rfl) (by kernel_rfl) (m := mx) (g := 1) (by kernel_rfl) (fun s t w hs hm => Tryd.strings_Index s t mx w hs hm)
noncomputable def E23 : List (Nat × Ax.Fn) := (62, ⟨[.str, .str], (.int .i64), strIndex⟩) :: E22
theorem E23_ok : EOk P (gl mx) (Ax.look E23) := eok_cons shelf62 E22_ok
def F_strings_genSplit_T : List (Nat × List (Nat × Nat × Ax.Tm)) := [(48, [(11, 1, (⟨[(0, .str), (1, .str), (2, .int .i64), (3, .int .i64), (9, .ownS 0 0 1), (10, .int .i64)], [(0, .whole)], 1⟩ : Go.Ax.Tm))])]
theorem F_strings_genSplit_eq : (fun ds => (fnO tau (gl mx) (xd F_strings_genSplit_T) rl (Ax.look E23) 100 48 [.str, .str, .int .i64, .int .i64] (.seq) ds).run) = F_strings_genSplit := by kernel_rfl
theorem F_strings_genSplit_ok : FnOk P (gl mx) 48 ⟨[.str, .str, .int .i64, .int .i64], (.seq), F_strings_genSplit⟩ := F_strings_genSplit_eq ▸ fnO_ok tau_ok mix (xd_ok _) rl_ok (E23_ok)
noncomputable def E24 : List (Nat × Ax.Fn) := (48, ⟨[.str, .str, .int .i64, .int .i64], (.seq), F_strings_genSplit⟩) :: E23
theorem E24_ok : EOk P (gl mx) (Ax.look E24) := eok_cons F_strings_genSplit_ok E23_ok
def F_strings_Split_T : List (Nat × List (Nat × Nat × Ax.Tm)) := []
theorem F_strings_Split_eq : (fun ds => (fnO tau (gl mx) (xd F_strings_Split_T) rl (Ax.look E24) 100 22 [.str, .str] (.seq) ds).run) = F_strings_Split := by kernel_rfl
theorem F_strings_Split_ok : FnOk P (gl mx) 22 ⟨[.str, .str], (.seq), F_strings_Split⟩ := F_strings_Split_eq ▸ fnO_ok tau_ok mix (xd_ok _) rl_ok (E24_ok)
noncomputable def E25 : List (Nat × Ax.Fn) := (22, ⟨[.str, .str], (.seq), F_strings_Split⟩) :: E24
theorem E25_ok : EOk P (gl mx) (Ax.look E25) := eok_cons F_strings_Split_ok E24_ok
theorem shelf23 : FnOk P (gl mx) 23 ⟨[.str, .int .i64], .str, strRepeat⟩ := by
  have h := IsProg.eq (P := P)
  subst h
  exact strRepeat_ok Tryd.func23 (c := code23) (by kernel_rfl) (by kernel_rfl) (fun s n w h1 h2 => Tryd.strings_Repeat s n w h1 h2)
noncomputable def E26 : List (Nat × Ax.Fn) := (23, ⟨[.str, .int .i64], .str, strRepeat⟩) :: E25
theorem E26_ok : EOk P (gl mx) (Ax.look E26) := eok_cons shelf23 E25_ok
def F_law07_NameParts_T : List (Nat × List (Nat × Nat × Ax.Tm)) := [(4, [(5, 0, (⟨[(2, .int .u8), (7, .str), (8, .str), (40, .seq), (41, .int .i64), (42, .int .i64)], [], 0⟩ : Go.Ax.Tm))])]
theorem F_law07_NameParts_eq : (fun ds => (fnO tau (gl mx) (xd F_law07_NameParts_T) rl (Ax.look E26) 100 4 [.seq, .seq, .int .u8] (.bool) ds).run) = F_law07_NameParts := by kernel_rfl
theorem F_law07_NameParts_ok : FnOk P (gl mx) 4 ⟨[.seq, .seq, .int .u8], (.bool), F_law07_NameParts⟩ := F_law07_NameParts_eq ▸ fnO_ok tau_ok mix (xd_ok _) rl_ok (E26_ok)
noncomputable def E27 : List (Nat × Ax.Fn) := (4, ⟨[.seq, .seq, .int .u8], (.bool), F_law07_NameParts⟩) :: E26
theorem E27_ok : EOk P (gl mx) (Ax.look E27) := eok_cons F_law07_NameParts_ok E26_ok
def F_law07_Letters_T : List (Nat × List (Nat × Nat × Ax.Tm)) := [(24, [(3, 0, (⟨[(0, .seq), (1, .int .i64), (2, .int .i64), (7, .str), (8, .int .i64)], [], 0⟩ : Go.Ax.Tm))])]
theorem F_law07_Letters_eq : (fun ds => (fnO tau (gl mx) (xd F_law07_Letters_T) rl (Ax.look E27) 100 24 [.seq, .int .i64, .int .i64] (.str) ds).run) = F_law07_Letters := by kernel_rfl
theorem F_law07_Letters_ok : FnOk P (gl mx) 24 ⟨[.seq, .int .i64, .int .i64], (.str), F_law07_Letters⟩ := F_law07_Letters_eq ▸ fnO_ok tau_ok mix (xd_ok _) rl_ok (E27_ok)
noncomputable def E28 : List (Nat × Ax.Fn) := (24, ⟨[.seq, .int .i64, .int .i64], (.str), F_law07_Letters⟩) :: E27
theorem E28_ok : EOk P (gl mx) (Ax.look E28) := eok_cons F_law07_Letters_ok E27_ok
def F_law07_NameBytes_T : List (Nat × List (Nat × Nat × Ax.Tm)) := []
theorem F_law07_NameBytes_eq : (fun ds => (fnO tau (gl mx) (xd F_law07_NameBytes_T) rl (Ax.look E28) 100 5 [.seq, .seq, .int .u8, .int .u8] (.bool) ds).run) = F_law07_NameBytes := by kernel_rfl
theorem F_law07_NameBytes_ok : FnOk P (gl mx) 5 ⟨[.seq, .seq, .int .u8, .int .u8], (.bool), F_law07_NameBytes⟩ := F_law07_NameBytes_eq ▸ fnO_ok tau_ok mix (xd_ok _) rl_ok (E28_ok)
noncomputable def E29 : List (Nat × Ax.Fn) := (5, ⟨[.seq, .seq, .int .u8, .int .u8], (.bool), F_law07_NameBytes⟩) :: E28
theorem E29_ok : EOk P (gl mx) (Ax.look E29) := eok_cons F_law07_NameBytes_ok E28_ok
def F_law07_NameAmong_T : List (Nat × List (Nat × Nat × Ax.Tm)) := []
theorem F_law07_NameAmong_eq : (fun ds => (fnO tau (gl mx) (xd F_law07_NameAmong_T) rl (Ax.look E29) 100 6 [.seq, .int .u8] (.bool) ds).run) = F_law07_NameAmong := by kernel_rfl
theorem F_law07_NameAmong_ok : FnOk P (gl mx) 6 ⟨[.seq, .int .u8], (.bool), F_law07_NameAmong⟩ := F_law07_NameAmong_eq ▸ fnO_ok tau_ok mix (xd_ok _) rl_ok (E29_ok)
noncomputable def E30 : List (Nat × Ax.Fn) := (6, ⟨[.seq, .int .u8], (.bool), F_law07_NameAmong⟩) :: E29
theorem E30_ok : EOk P (gl mx) (Ax.look E30) := eok_cons F_law07_NameAmong_ok E29_ok
end Go.Proofs.YtgmmcmfnniaekaaDoor
