/-
  The functions of plain data are what the program's code says.
-/
import Derived.Test.YtgmmcmfnniaekaaDoorAxT
import Derived.Test.YtgmmcmfnniaekaaDoorShelf
import Derived.Test.YtgmmcmfnniaekaaDoorFlin
import Derived.Test.YtgmmcmfnniaekaaDoorHBuilder
import Derived.Test.YtgmmcmfnniaekaaDoorHZone
namespace Go.Proofs.YtgmmcmfnniaekaaDoor
open Go.Ax
set_option linter.all false
set_option maxRecDepth 100000
set_option maxHeartbeats 4000000
variable {P : Program} [IsProg P]
variable {mx : Int}
def glList (mx : Int) : List (Nat × List AV) := [(3, [.int .u8 (.lit 128), .int .u8 (.lit 191), .int .u8 (.lit 160), .int .u8 (.lit 191), .int .u8 (.lit 128), .int .u8 (.lit 159), .int .u8 (.lit 144), .int .u8 (.lit 191), .int .u8 (.lit 128), .int .u8 (.lit 143), .int .u8 (.lit 0), .int .u8 (.lit 0), .int .u8 (.lit 0), .int .u8 (.lit 0), .int .u8 (.lit 0), .int .u8 (.lit 0), .int .u8 (.lit 0), .int .u8 (.lit 0), .int .u8 (.lit 0), .int .u8 (.lit 0), .int .u8 (.lit 0), .int .u8 (.lit 0), .int .u8 (.lit 0), .int .u8 (.lit 0), .int .u8 (.lit 0), .int .u8 (.lit 0), .int .u8 (.lit 0), .int .u8 (.lit 0), .int .u8 (.lit 0), .int .u8 (.lit 0), .int .u8 (.lit 0), .int .u8 (.lit 0)]), (0, [.int .u8 (.lit 0), .int .u8 (.lit 0), .int .u8 (.lit 0), .int .u8 (.lit 0), .int .u8 (.lit 0), .int .u8 (.lit 0), .int .u8 (.lit 0), .int .u8 (.lit 0), .int .u8 (.lit 0), .int .u8 (.lit 0), .int .u8 (.lit 0), .int .u8 (.lit 0), .int .u8 (.lit 0), .int .u8 (.lit 0), .int .u8 (.lit 0), .int .u8 (.lit 0), .int .u8 (.lit 0), .int .u8 (.lit 0), .int .u8 (.lit 0), .int .u8 (.lit 0), .int .u8 (.lit 0), .int .u8 (.lit 0), .int .u8 (.lit 0), .int .u8 (.lit 0), .int .u8 (.lit 0), .int .u8 (.lit 0), .int .u8 (.lit 0), .int .u8 (.lit 0), .int .u8 (.lit 0), .int .u8 (.lit 0), .int .u8 (.lit 0), .int .u8 (.lit 0), .int .u8 (.lit 0), .int .u8 (.lit 0), .int .u8 (.lit 0), .int .u8 (.lit 0), .int .u8 (.lit 0), .int .u8 (.lit 0), .int .u8 (.lit 0), .int .u8 (.lit 0), .int .u8 (.lit 0), .int .u8 (.lit 0), .int .u8 (.lit 0), .int .u8 (.lit 16), .int .u8 (.lit 0), .int .u8 (.lit 4), .int .u8 (.lit 8), .int .u8 (.lit 0), .int .u8 (.lit 2), .int .u8 (.lit 2), .int .u8 (.lit 2), .int .u8 (.lit 2), .int .u8 (.lit 2), .int .u8 (.lit 2), .int .u8 (.lit 2), .int .u8 (.lit 2), .int .u8 (.lit 2), .int .u8 (.lit 2), .int .u8 (.lit 0), .int .u8 (.lit 0), .int .u8 (.lit 0), .int .u8 (.lit 0), .int .u8 (.lit 0), .int .u8 (.lit 0), .int .u8 (.lit 0), .int .u8 (.lit 1), .int .u8 (.lit 1), .int .u8 (.lit 1), .int .u8 (.lit 1), .int .u8 (.lit 1), .int .u8 (.lit 1), .int .u8 (.lit 1), .int .u8 (.lit 1), .int .u8 (.lit 1), .int .u8 (.lit 1), .int .u8 (.lit 1), .int .u8 (.lit 1), .int .u8 (.lit 1), .int .u8 (.lit 1), .int .u8 (.lit 1), .int .u8 (.lit 1), .int .u8 (.lit 1), .int .u8 (.lit 1), .int .u8 (.lit 1), .int .u8 (.lit 1), .int .u8 (.lit 1), .int .u8 (.lit 1), .int .u8 (.lit 1), .int .u8 (.lit 1), .int .u8 (.lit 1), .int .u8 (.lit 1), .int .u8 (.lit 0), .int .u8 (.lit 0), .int .u8 (.lit 0), .int .u8 (.lit 0), .int .u8 (.lit 4), .int .u8 (.lit 0), .int .u8 (.lit 1), .int .u8 (.lit 1), .int .u8 (.lit 1), .int .u8 (.lit 1), .int .u8 (.lit 1), .int .u8 (.lit 1), .int .u8 (.lit 1), .int .u8 (.lit 1), .int .u8 (.lit 1), .int .u8 (.lit 1), .int .u8 (.lit 1), .int .u8 (.lit 1), .int .u8 (.lit 1), .int .u8 (.lit 1), .int .u8 (.lit 1), .int .u8 (.lit 1), .int .u8 (.lit 1), .int .u8 (.lit 1), .int .u8 (.lit 1), .int .u8 (.lit 1), .int .u8 (.lit 1), .int .u8 (.lit 1), .int .u8 (.lit 1), .int .u8 (.lit 1), .int .u8 (.lit 1), .int .u8 (.lit 1), .int .u8 (.lit 0), .int .u8 (.lit 0), .int .u8 (.lit 0), .int .u8 (.lit 0), .int .u8 (.lit 0)]), (2, [.int .u8 (.lit 240), .int .u8 (.lit 240), .int .u8 (.lit 240), .int .u8 (.lit 240), .int .u8 (.lit 240), .int .u8 (.lit 240), .int .u8 (.lit 240), .int .u8 (.lit 240), .int .u8 (.lit 240), .int .u8 (.lit 240), .int .u8 (.lit 240), .int .u8 (.lit 240), .int .u8 (.lit 240), .int .u8 (.lit 240), .int .u8 (.lit 240), .int .u8 (.lit 240), .int .u8 (.lit 240), .int .u8 (.lit 240), .int .u8 (.lit 240), .int .u8 (.lit 240), .int .u8 (.lit 240), .int .u8 (.lit 240), .int .u8 (.lit 240), .int .u8 (.lit 240), .int .u8 (.lit 240), .int .u8 (.lit 240), .int .u8 (.lit 240), .int .u8 (.lit 240), .int .u8 (.lit 240), .int .u8 (.lit 240), .int .u8 (.lit 240), .int .u8 (.lit 240), .int .u8 (.lit 240), .int .u8 (.lit 240), .int .u8 (.lit 240), .int .u8 (.lit 240), .int .u8 (.lit 240), .int .u8 (.lit 240), .int .u8 (.lit 240), .int .u8 (.lit 240), .int .u8 (.lit 240), .int .u8 (.lit 240), .int .u8 (.lit 240), .int .u8 (.lit 240), .int .u8 (.lit 240), .int .u8 (.lit 240), .int .u8 (.lit 240), .int .u8 (.lit 240), .int .u8 (.lit 240), .int .u8 (.lit 240), .int .u8 (.lit 240), .int .u8 (.lit 240), .int .u8 (.lit 240), .int .u8 (.lit 240), .int .u8 (.lit 240), .int .u8 (.lit 240), .int .u8 (.lit 240), .int .u8 (.lit 240), .int .u8 (.lit 240), .int .u8 (.lit 240), .int .u8 (.lit 240), .int .u8 (.lit 240), .int .u8 (.lit 240), .int .u8 (.lit 240), .int .u8 (.lit 240), .int .u8 (.lit 240), .int .u8 (.lit 240), .int .u8 (.lit 240), .int .u8 (.lit 240), .int .u8 (.lit 240), .int .u8 (.lit 240), .int .u8 (.lit 240), .int .u8 (.lit 240), .int .u8 (.lit 240), .int .u8 (.lit 240), .int .u8 (.lit 240), .int .u8 (.lit 240), .int .u8 (.lit 240), .int .u8 (.lit 240), .int .u8 (.lit 240), .int .u8 (.lit 240), .int .u8 (.lit 240), .int .u8 (.lit 240), .int .u8 (.lit 240), .int .u8 (.lit 240), .int .u8 (.lit 240), .int .u8 (.lit 240), .int .u8 (.lit 240), .int .u8 (.lit 240), .int .u8 (.lit 240), .int .u8 (.lit 240), .int .u8 (.lit 240), .int .u8 (.lit 240), .int .u8 (.lit 240), .int .u8 (.lit 240), .int .u8 (.lit 240), .int .u8 (.lit 240), .int .u8 (.lit 240), .int .u8 (.lit 240), .int .u8 (.lit 240), .int .u8 (.lit 240), .int .u8 (.lit 240), .int .u8 (.lit 240), .int .u8 (.lit 240), .int .u8 (.lit 240), .int .u8 (.lit 240), .int .u8 (.lit 240), .int .u8 (.lit 240), .int .u8 (.lit 240), .int .u8 (.lit 240), .int .u8 (.lit 240), .int .u8 (.lit 240), .int .u8 (.lit 240), .int .u8 (.lit 240), .int .u8 (.lit 240), .int .u8 (.lit 240), .int .u8 (.lit 240), .int .u8 (.lit 240), .int .u8 (.lit 240), .int .u8 (.lit 240), .int .u8 (.lit 240), .int .u8 (.lit 240), .int .u8 (.lit 240), .int .u8 (.lit 240), .int .u8 (.lit 240), .int .u8 (.lit 240), .int .u8 (.lit 240), .int .u8 (.lit 240), .int .u8 (.lit 241), .int .u8 (.lit 241), .int .u8 (.lit 241), .int .u8 (.lit 241), .int .u8 (.lit 241), .int .u8 (.lit 241), .int .u8 (.lit 241), .int .u8 (.lit 241), .int .u8 (.lit 241), .int .u8 (.lit 241), .int .u8 (.lit 241), .int .u8 (.lit 241), .int .u8 (.lit 241), .int .u8 (.lit 241), .int .u8 (.lit 241), .int .u8 (.lit 241), .int .u8 (.lit 241), .int .u8 (.lit 241), .int .u8 (.lit 241), .int .u8 (.lit 241), .int .u8 (.lit 241), .int .u8 (.lit 241), .int .u8 (.lit 241), .int .u8 (.lit 241), .int .u8 (.lit 241), .int .u8 (.lit 241), .int .u8 (.lit 241), .int .u8 (.lit 241), .int .u8 (.lit 241), .int .u8 (.lit 241), .int .u8 (.lit 241), .int .u8 (.lit 241), .int .u8 (.lit 241), .int .u8 (.lit 241), .int .u8 (.lit 241), .int .u8 (.lit 241), .int .u8 (.lit 241), .int .u8 (.lit 241), .int .u8 (.lit 241), .int .u8 (.lit 241), .int .u8 (.lit 241), .int .u8 (.lit 241), .int .u8 (.lit 241), .int .u8 (.lit 241), .int .u8 (.lit 241), .int .u8 (.lit 241), .int .u8 (.lit 241), .int .u8 (.lit 241), .int .u8 (.lit 241), .int .u8 (.lit 241), .int .u8 (.lit 241), .int .u8 (.lit 241), .int .u8 (.lit 241), .int .u8 (.lit 241), .int .u8 (.lit 241), .int .u8 (.lit 241), .int .u8 (.lit 241), .int .u8 (.lit 241), .int .u8 (.lit 241), .int .u8 (.lit 241), .int .u8 (.lit 241), .int .u8 (.lit 241), .int .u8 (.lit 241), .int .u8 (.lit 241), .int .u8 (.lit 241), .int .u8 (.lit 241), .int .u8 (.lit 2), .int .u8 (.lit 2), .int .u8 (.lit 2), .int .u8 (.lit 2), .int .u8 (.lit 2), .int .u8 (.lit 2), .int .u8 (.lit 2), .int .u8 (.lit 2), .int .u8 (.lit 2), .int .u8 (.lit 2), .int .u8 (.lit 2), .int .u8 (.lit 2), .int .u8 (.lit 2), .int .u8 (.lit 2), .int .u8 (.lit 2), .int .u8 (.lit 2), .int .u8 (.lit 2), .int .u8 (.lit 2), .int .u8 (.lit 2), .int .u8 (.lit 2), .int .u8 (.lit 2), .int .u8 (.lit 2), .int .u8 (.lit 2), .int .u8 (.lit 2), .int .u8 (.lit 2), .int .u8 (.lit 2), .int .u8 (.lit 2), .int .u8 (.lit 2), .int .u8 (.lit 2), .int .u8 (.lit 2), .int .u8 (.lit 19), .int .u8 (.lit 3), .int .u8 (.lit 3), .int .u8 (.lit 3), .int .u8 (.lit 3), .int .u8 (.lit 3), .int .u8 (.lit 3), .int .u8 (.lit 3), .int .u8 (.lit 3), .int .u8 (.lit 3), .int .u8 (.lit 3), .int .u8 (.lit 3), .int .u8 (.lit 3), .int .u8 (.lit 35), .int .u8 (.lit 3), .int .u8 (.lit 3), .int .u8 (.lit 52), .int .u8 (.lit 4), .int .u8 (.lit 4), .int .u8 (.lit 4), .int .u8 (.lit 68), .int .u8 (.lit 241), .int .u8 (.lit 241), .int .u8 (.lit 241), .int .u8 (.lit 241), .int .u8 (.lit 241), .int .u8 (.lit 241), .int .u8 (.lit 241), .int .u8 (.lit 241), .int .u8 (.lit 241), .int .u8 (.lit 241), .int .u8 (.lit 241)]), (1, [.int .i64 (.sym mx)])]
def gl (mx : Int) : Nat → Option (List AV) := Ax.look (glList mx)
noncomputable def rl : Nat → Option Rule := Ax.look [(66, ruleCopy 67), (54, ruleString 67 5)]
theorem rl_ok : RulesOk P (gl mx) rl := (rules_cons copyCheck_rule (rules_cons builderString_rule rules_nil))
noncomputable def E0 : List (Nat × Ax.Fn) := []
omit [IsProg P] in theorem E0_ok : EOk P (gl mx) (Ax.look E0) := eok_nil
def F_law12_few_T : List (Nat × List (Nat × Nat × Ax.Tm)) := [(25, [(2, 0, (⟨[(0, .seq), (3, .int .i64)], [], 0⟩ : Go.Ax.Tm))])]
theorem F_law12_few_eq : (fun ds => (fnO tau (gl mx) (xd F_law12_few_T) rl (Ax.look E0) 100 25 [.seq] (.bool) ds).run) = F_law12_few := by kernel_rfl
theorem F_law12_few_ok : FnOk P (gl mx) 25 ⟨[.seq], (.bool), F_law12_few⟩ := F_law12_few_eq ▸ fnO_ok tau_ok mix (xd_ok _) rl_ok (E0_ok)
noncomputable def E1 : List (Nat × Ax.Fn) := (25, ⟨[.seq], (.bool), F_law12_few⟩) :: E0
theorem E1_ok : EOk P (gl mx) (Ax.look E1) := eok_cons F_law12_few_ok E0_ok
theorem shelf13 : FnOk P (gl mx) 13 ⟨[.str], .bool, nameZone⟩ := by
  have h := IsProg.eq (P := P)
  subst h
  exact nameZone_ok (mx := mx) (Zo.look_one (by kernel_rfl))
noncomputable def E2 : List (Nat × Ax.Fn) := (13, ⟨[.str], .bool, nameZone⟩) :: E1
theorem E2_ok : EOk P (gl mx) (Ax.look E2) := eok_cons shelf13 E1_ok
def F_linkline_Link_T : List (Nat × List (Nat × Nat × Ax.Tm)) := [(78, [(2, 2, (⟨[(0, .seq), (1, .func 69 [] [.ptr 1 0]), (7, .int .i64), (8, .int .i64)], [(1, .each [.func 13 [] []]), (0, .each [.str, .str])], 2⟩ : Go.Ax.Tm))])]
theorem F_linkline_Link_eq : (fun ds => (fnO tau (gl mx) (xd F_linkline_Link_T) rl (Ax.look E2) 100 27 [.seq] (.tuple [.agg [.str, .str], .int .i64]) ds).run) = F_linkline_Link := by kernel_rfl
theorem F_linkline_Link_ok : FnOk P (gl mx) 27 ⟨[.seq], (.tuple [.agg [.str, .str], .int .i64]), F_linkline_Link⟩ := F_linkline_Link_eq ▸ fnO_ok tau_ok mix (xd_ok _) rl_ok (E2_ok)
noncomputable def E3 : List (Nat × Ax.Fn) := (27, ⟨[.seq], (.tuple [.agg [.str, .str], .int .i64]), F_linkline_Link⟩) :: E2
theorem E3_ok : EOk P (gl mx) (Ax.look E3) := eok_cons F_linkline_Link_ok E2_ok
def F_name_Set_T : List (Nat × List (Nat × Nat × Ax.Tm)) := [(39, [(4, 0, (⟨[(0, .str), (3, .func 42 [] []), (21, .int .i64), (22, .int .i64)], [], 0⟩ : Go.Ax.Tm))])]
theorem F_name_Set_eq : (fun ds => (fnO tau (gl mx) (xd F_name_Set_T) rl (Ax.look E3) 100 15 [.str] (.bool) ds).run) = F_name_Set := by kernel_rfl
theorem F_name_Set_ok : FnOk P (gl mx) 15 ⟨[.str], (.bool), F_name_Set⟩ := F_name_Set_eq ▸ fnO_ok tau_ok mix (xd_ok _) rl_ok (E3_ok)
noncomputable def E4 : List (Nat × Ax.Fn) := (15, ⟨[.str], (.bool), F_name_Set⟩) :: E3
theorem E4_ok : EOk P (gl mx) (Ax.look E4) := eok_cons F_name_Set_ok E3_ok
def F_linkline_Shift_T : List (Nat × List (Nat × Nat × Ax.Tm)) := [(78, [(2, 1, (⟨[(0, .seq), (1, .func 69 [] [.ptr 0 0]), (7, .int .i64), (8, .int .i64)], [(0, .each [.func 15 [] []])], 1⟩ : Go.Ax.Tm))])]
theorem F_linkline_Shift_eq : (fun ds => (fnO tau (gl mx) (xd F_linkline_Shift_T) rl (Ax.look E4) 100 29 [.seq] (.tuple [.str, .int .i64]) ds).run) = F_linkline_Shift := by kernel_rfl
theorem F_linkline_Shift_ok : FnOk P (gl mx) 29 ⟨[.seq], (.tuple [.str, .int .i64]), F_linkline_Shift⟩ := F_linkline_Shift_eq ▸ fnO_ok tau_ok mix (xd_ok _) rl_ok (E4_ok)
noncomputable def E5 : List (Nat × Ax.Fn) := (29, ⟨[.seq], (.tuple [.str, .int .i64]), F_linkline_Shift⟩) :: E4
theorem E5_ok : EOk P (gl mx) (Ax.look E5) := eok_cons F_linkline_Shift_ok E4_ok
def F_lexeme_writable_T : List (Nat × List (Nat × Nat × Ax.Tm)) := [(79, [(2, 0, (⟨[(0, .str), (5, .int .i64), (6, .int .i64)], [], 0⟩ : Go.Ax.Tm))])]
theorem F_lexeme_writable_eq : (fun ds => (fnO tau (gl mx) (xd F_lexeme_writable_T) rl (Ax.look E5) 100 79 [.str] (.bool) ds).run) = F_lexeme_writable := by kernel_rfl
theorem F_lexeme_writable_ok : FnOk P (gl mx) 79 ⟨[.str], (.bool), F_lexeme_writable⟩ := F_lexeme_writable_eq ▸ fnO_ok tau_ok mix (xd_ok _) rl_ok (E5_ok)
noncomputable def E6 : List (Nat × Ax.Fn) := (79, ⟨[.str], (.bool), F_lexeme_writable⟩) :: E5
theorem E6_ok : EOk P (gl mx) (Ax.look E6) := eok_cons F_lexeme_writable_ok E5_ok
theorem shelf81 : FnOk P (gl mx) 81 ⟨[.str, .str], .bool, strContainsAny⟩ := by
  have h := IsProg.eq (P := P)
  subst h
  exact strContainsAny_ok Tryd.func81 (c := code81) (by kernel_rfl) (by kernel_rfl) (fun s t w h1 h2 h3 h4 => Tryd.strings_ContainsAny_laid s t w h1 h2 h3 h4)
noncomputable def E7 : List (Nat × Ax.Fn) := (81, ⟨[.str, .str], .bool, strContainsAny⟩) :: E6
theorem E7_ok : EOk P (gl mx) (Ax.look E7) := eok_cons shelf81 E6_ok
def F_lexeme_Join_T : List (Nat × List (Nat × Nat × Ax.Tm)) := [(70, [(3, 2, (⟨[(4, .ptr 0 0), (7, .seq), (8, .int .i64), (9, .int .i64)], [(0, .each [.apt 0 67, .buf 1 5]), (1, .whole)], 2⟩ : Go.Ax.Tm))])]
theorem F_lexeme_Join_eq : (fun ds => (fnO tau (gl mx) (xd F_lexeme_Join_T) rl (Ax.look E7) 100 70 [.seq] (.tuple [.str, .int .i64]) ds).run) = F_lexeme_Join := by kernel_rfl
theorem F_lexeme_Join_ok : FnOk P (gl mx) 70 ⟨[.seq], (.tuple [.str, .int .i64]), F_lexeme_Join⟩ := F_lexeme_Join_eq ▸ fnO_ok tau_ok mix (xd_ok _) rl_ok (E7_ok)
noncomputable def E8 : List (Nat × Ax.Fn) := (70, ⟨[.seq], (.tuple [.str, .int .i64]), F_lexeme_Join⟩) :: E7
theorem E8_ok : EOk P (gl mx) (Ax.look E8) := eok_cons F_lexeme_Join_ok E7_ok
def F_linkline_Print_T : List (Nat × List (Nat × Nat × Ax.Tm)) := []
theorem F_linkline_Print_eq : (fun ds => (fnO tau (gl mx) (xd F_linkline_Print_T) rl (Ax.look E8) 100 31 [.agg [.str, .str]] (.tuple [.str, .int .i64]) ds).run) = F_linkline_Print := by kernel_rfl
theorem F_linkline_Print_ok : FnOk P (gl mx) 31 ⟨[.agg [.str, .str]], (.tuple [.str, .int .i64]), F_linkline_Print⟩ := F_linkline_Print_eq ▸ fnO_ok tau_ok mix (xd_ok _) rl_ok (E8_ok)
noncomputable def E9 : List (Nat × Ax.Fn) := (31, ⟨[.agg [.str, .str]], (.tuple [.str, .int .i64]), F_linkline_Print⟩) :: E8
theorem E9_ok : EOk P (gl mx) (Ax.look E9) := eok_cons F_linkline_Print_ok E8_ok
def F_linkline_PrintShift_T : List (Nat × List (Nat × Nat × Ax.Tm)) := []
theorem F_linkline_PrintShift_eq : (fun ds => (fnO tau (gl mx) (xd F_linkline_PrintShift_T) rl (Ax.look E9) 100 33 [.str] (.tuple [.str, .int .i64]) ds).run) = F_linkline_PrintShift := by kernel_rfl
theorem F_linkline_PrintShift_ok : FnOk P (gl mx) 33 ⟨[.str], (.tuple [.str, .int .i64]), F_linkline_PrintShift⟩ := F_linkline_PrintShift_eq ▸ fnO_ok tau_ok mix (xd_ok _) rl_ok (E9_ok)
noncomputable def E10 : List (Nat × Ax.Fn) := (33, ⟨[.str], (.tuple [.str, .int .i64]), F_linkline_PrintShift⟩) :: E9
theorem E10_ok : EOk P (gl mx) (Ax.look E10) := eok_cons F_linkline_PrintShift_ok E9_ok
theorem F_law12_works_eq : (fun ds => (fnO tau (gl mx) (xd []) rl (Ax.look E10) 3000 26 [] (.bool) ds).run) = F_law12_works := by kernel_rfl
theorem F_law12_works_ok : FnOk P (gl mx) 26 ⟨[], (.bool), F_law12_works⟩ := F_law12_works_eq ▸ fnO_ok tau_ok mix (xd_ok _) rl_ok (E10_ok)
noncomputable def E11 : List (Nat × Ax.Fn) := (26, ⟨[], (.bool), F_law12_works⟩) :: E10
theorem E11_ok : EOk P (gl mx) (Ax.look E11) := eok_cons F_law12_works_ok E10_ok
def F_ref07_letter_T : List (Nat × List (Nat × Nat × Ax.Tm)) := []
theorem F_ref07_letter_eq : (fun ds => (fnO tau (gl mx) (xd F_ref07_letter_T) rl (Ax.look E11) 100 43 [.int .u8] (.bool) ds).run) = F_ref07_letter := by kernel_rfl
theorem F_ref07_letter_ok : FnOk P (gl mx) 43 ⟨[.int .u8], (.bool), F_ref07_letter⟩ := F_ref07_letter_eq ▸ fnO_ok tau_ok mix (xd_ok _) rl_ok (E11_ok)
noncomputable def E12 : List (Nat × Ax.Fn) := (43, ⟨[.int .u8], (.bool), F_ref07_letter⟩) :: E11
theorem E12_ok : EOk P (gl mx) (Ax.look E12) := eok_cons F_ref07_letter_ok E11_ok
def F_ref07_digit_T : List (Nat × List (Nat × Nat × Ax.Tm)) := []
theorem F_ref07_digit_eq : (fun ds => (fnO tau (gl mx) (xd F_ref07_digit_T) rl (Ax.look E12) 100 44 [.int .u8] (.bool) ds).run) = F_ref07_digit := by kernel_rfl
theorem F_ref07_digit_ok : FnOk P (gl mx) 44 ⟨[.int .u8], (.bool), F_ref07_digit⟩ := F_ref07_digit_eq ▸ fnO_ok tau_ok mix (xd_ok _) rl_ok (E12_ok)
noncomputable def E13 : List (Nat × Ax.Fn) := (44, ⟨[.int .u8], (.bool), F_ref07_digit⟩) :: E12
theorem E13_ok : EOk P (gl mx) (Ax.look E13) := eok_cons F_ref07_digit_ok E12_ok
def F_ref07_part_T : List (Nat × List (Nat × Nat × Ax.Tm)) := [(41, [(4, 0, (⟨[(0, .str), (3, .int .i64)], [], 0⟩ : Go.Ax.Tm))])]
theorem F_ref07_part_eq : (fun ds => (fnO tau (gl mx) (xd F_ref07_part_T) rl (Ax.look E13) 100 41 [.str] (.bool) ds).run) = F_ref07_part := by kernel_rfl
theorem F_ref07_part_ok : FnOk P (gl mx) 41 ⟨[.str], (.bool), F_ref07_part⟩ := F_ref07_part_eq ▸ fnO_ok tau_ok mix (xd_ok _) rl_ok (E13_ok)
noncomputable def E14 : List (Nat × Ax.Fn) := (41, ⟨[.str], (.bool), F_ref07_part⟩) :: E13
theorem E14_ok : EOk P (gl mx) (Ax.look E14) := eok_cons F_ref07_part_ok E13_ok
def F_ref07_Zone_T : List (Nat × List (Nat × Nat × Ax.Tm)) := [(14, [(3, 0, (⟨[(0, .str), (3, .int .i64), (4, .int .i64)], [], 0⟩ : Go.Ax.Tm))])]
theorem F_ref07_Zone_eq : (fun ds => (fnO tau (gl mx) (xd F_ref07_Zone_T) rl (Ax.look E14) 100 14 [.str] (.bool) ds).run) = F_ref07_Zone := by kernel_rfl
theorem F_ref07_Zone_ok : FnOk P (gl mx) 14 ⟨[.str], (.bool), F_ref07_Zone⟩ := F_ref07_Zone_eq ▸ fnO_ok tau_ok mix (xd_ok _) rl_ok (E14_ok)
noncomputable def E15 : List (Nat × Ax.Fn) := (14, ⟨[.str], (.bool), F_ref07_Zone⟩) :: E14
theorem E15_ok : EOk P (gl mx) (Ax.look E15) := eok_cons F_ref07_Zone_ok E14_ok
def F_ref12_Link_T : List (Nat × List (Nat × Nat × Ax.Tm)) := []
theorem F_ref12_Link_eq : (fun ds => (fnO tau (gl mx) (xd F_ref12_Link_T) rl (Ax.look E15) 100 28 [.seq] (.tuple [.agg [.str, .str], .int .i64]) ds).run) = F_ref12_Link := by kernel_rfl
theorem F_ref12_Link_ok : FnOk P (gl mx) 28 ⟨[.seq], (.tuple [.agg [.str, .str], .int .i64]), F_ref12_Link⟩ := F_ref12_Link_eq ▸ fnO_ok tau_ok mix (xd_ok _) rl_ok (E15_ok)
noncomputable def E16 : List (Nat × Ax.Fn) := (28, ⟨[.seq], (.tuple [.agg [.str, .str], .int .i64]), F_ref12_Link⟩) :: E15
theorem E16_ok : EOk P (gl mx) (Ax.look E16) := eok_cons F_ref12_Link_ok E15_ok
def F_ref07_Set_T : List (Nat × List (Nat × Nat × Ax.Tm)) := [(16, [(4, 0, (⟨[(0, .str), (3, .int .i64)], [], 0⟩ : Go.Ax.Tm))])]
theorem F_ref07_Set_eq : (fun ds => (fnO tau (gl mx) (xd F_ref07_Set_T) rl (Ax.look E16) 100 16 [.str] (.bool) ds).run) = F_ref07_Set := by kernel_rfl
theorem F_ref07_Set_ok : FnOk P (gl mx) 16 ⟨[.str], (.bool), F_ref07_Set⟩ := F_ref07_Set_eq ▸ fnO_ok tau_ok mix (xd_ok _) rl_ok (E16_ok)
noncomputable def E17 : List (Nat × Ax.Fn) := (16, ⟨[.str], (.bool), F_ref07_Set⟩) :: E16
theorem E17_ok : EOk P (gl mx) (Ax.look E17) := eok_cons F_ref07_Set_ok E16_ok
def F_ref12_Shift_T : List (Nat × List (Nat × Nat × Ax.Tm)) := []
theorem F_ref12_Shift_eq : (fun ds => (fnO tau (gl mx) (xd F_ref12_Shift_T) rl (Ax.look E17) 100 30 [.seq] (.tuple [.str, .int .i64]) ds).run) = F_ref12_Shift := by kernel_rfl
theorem F_ref12_Shift_ok : FnOk P (gl mx) 30 ⟨[.seq], (.tuple [.str, .int .i64]), F_ref12_Shift⟩ := F_ref12_Shift_eq ▸ fnO_ok tau_ok mix (xd_ok _) rl_ok (E17_ok)
noncomputable def E18 : List (Nat × Ax.Fn) := (30, ⟨[.seq], (.tuple [.str, .int .i64]), F_ref12_Shift⟩) :: E17
theorem E18_ok : EOk P (gl mx) (Ax.look E18) := eok_cons F_ref12_Shift_ok E17_ok
def F_law12_LinklineReads_T : List (Nat × List (Nat × Nat × Ax.Tm)) := []
theorem F_law12_LinklineReads_eq : (fun ds => (fnO tau (gl mx) (xd F_law12_LinklineReads_T) rl (Ax.look E18) 100 7 [.seq] (.bool) ds).run) = F_law12_LinklineReads := by kernel_rfl
theorem F_law12_LinklineReads_ok : FnOk P (gl mx) 7 ⟨[.seq], (.bool), F_law12_LinklineReads⟩ := F_law12_LinklineReads_eq ▸ fnO_ok tau_ok mix (xd_ok _) rl_ok (E18_ok)
noncomputable def E19 : List (Nat × Ax.Fn) := (7, ⟨[.seq], (.bool), F_law12_LinklineReads⟩) :: E18
theorem E19_ok : EOk P (gl mx) (Ax.look E19) := eok_cons F_law12_LinklineReads_ok E18_ok
def F_ref12_Print_T : List (Nat × List (Nat × Nat × Ax.Tm)) := []
theorem F_ref12_Print_eq : (fun ds => (fnO tau (gl mx) (xd F_ref12_Print_T) rl (Ax.look E19) 100 32 [.agg [.str, .str]] (.tuple [.str, .int .i64]) ds).run) = F_ref12_Print := by kernel_rfl
theorem F_ref12_Print_ok : FnOk P (gl mx) 32 ⟨[.agg [.str, .str]], (.tuple [.str, .int .i64]), F_ref12_Print⟩ := F_ref12_Print_eq ▸ fnO_ok tau_ok mix (xd_ok _) rl_ok (E19_ok)
noncomputable def E20 : List (Nat × Ax.Fn) := (32, ⟨[.agg [.str, .str]], (.tuple [.str, .int .i64]), F_ref12_Print⟩) :: E19
theorem E20_ok : EOk P (gl mx) (Ax.look E20) := eok_cons F_ref12_Print_ok E19_ok
def F_ref12_PrintShift_T : List (Nat × List (Nat × Nat × Ax.Tm)) := []
theorem F_ref12_PrintShift_eq : (fun ds => (fnO tau (gl mx) (xd F_ref12_PrintShift_T) rl (Ax.look E20) 100 34 [.str] (.tuple [.str, .int .i64]) ds).run) = F_ref12_PrintShift := by kernel_rfl
theorem F_ref12_PrintShift_ok : FnOk P (gl mx) 34 ⟨[.str], (.tuple [.str, .int .i64]), F_ref12_PrintShift⟩ := F_ref12_PrintShift_eq ▸ fnO_ok tau_ok mix (xd_ok _) rl_ok (E20_ok)
noncomputable def E21 : List (Nat × Ax.Fn) := (34, ⟨[.str], (.tuple [.str, .int .i64]), F_ref12_PrintShift⟩) :: E20
theorem E21_ok : EOk P (gl mx) (Ax.look E21) := eok_cons F_ref12_PrintShift_ok E20_ok
def F_law12_LinklinePrints_T : List (Nat × List (Nat × Nat × Ax.Tm)) := []
theorem F_law12_LinklinePrints_eq : (fun ds => (fnO tau (gl mx) (xd F_law12_LinklinePrints_T) rl (Ax.look E21) 100 8 [.agg [.str, .str], .str] (.bool) ds).run) = F_law12_LinklinePrints := by kernel_rfl
theorem F_law12_LinklinePrints_ok : FnOk P (gl mx) 8 ⟨[.agg [.str, .str], .str], (.bool), F_law12_LinklinePrints⟩ := F_law12_LinklinePrints_eq ▸ fnO_ok tau_ok mix (xd_ok _) rl_ok (E21_ok)
noncomputable def E22 : List (Nat × Ax.Fn) := (8, ⟨[.agg [.str, .str], .str], (.bool), F_law12_LinklinePrints⟩) :: E21
theorem E22_ok : EOk P (gl mx) (Ax.look E22) := eok_cons F_law12_LinklinePrints_ok E21_ok
def F_law07_part_T : List (Nat × List (Nat × Nat × Ax.Tm)) := [(47, [(3, 0, (⟨[(3, .str), (11, .seq), (12, .int .i64), (13, .int .i64)], [], 0⟩ : Go.Ax.Tm))])]
theorem F_law07_part_eq : (fun ds => (fnO tau (gl mx) (xd F_law07_part_T) rl (Ax.look E22) 100 47 [.seq] (.str) ds).run) = F_law07_part := by kernel_rfl
theorem F_law07_part_ok : FnOk P (gl mx) 47 ⟨[.seq], (.str), F_law07_part⟩ := F_law07_part_eq ▸ fnO_ok tau_ok mix (xd_ok _) rl_ok (E22_ok)
noncomputable def E23 : List (Nat × Ax.Fn) := (47, ⟨[.seq], (.str), F_law07_part⟩) :: E22
theorem E23_ok : EOk P (gl mx) (Ax.look E23) := eok_cons F_law07_part_ok E22_ok
def F_law07_Zone_T : List (Nat × List (Nat × Nat × Ax.Tm)) := [(21, [(3, 0, (⟨[(3, .str), (10, .seq), (11, .int .i64), (12, .int .i64)], [], 0⟩ : Go.Ax.Tm))])]
theorem F_law07_Zone_eq : (fun ds => (fnO tau (gl mx) (xd F_law07_Zone_T) rl (Ax.look E23) 100 21 [.seq] (.str) ds).run) = F_law07_Zone := by kernel_rfl
theorem F_law07_Zone_ok : FnOk P (gl mx) 21 ⟨[.seq], (.str), F_law07_Zone⟩ := F_law07_Zone_eq ▸ fnO_ok tau_ok mix (xd_ok _) rl_ok (E23_ok)
noncomputable def E24 : List (Nat × Ax.Fn) := (21, ⟨[.seq], (.str), F_law07_Zone⟩) :: E23
theorem E24_ok : EOk P (gl mx) (Ax.look E24) := eok_cons F_law07_Zone_ok E23_ok
def F_law07_Letters_T : List (Nat × List (Nat × Nat × Ax.Tm)) := [(24, [(3, 0, (⟨[(0, .seq), (1, .int .i64), (2, .int .i64), (7, .str), (8, .int .i64)], [], 0⟩ : Go.Ax.Tm))])]
theorem F_law07_Letters_eq : (fun ds => (fnO tau (gl mx) (xd F_law07_Letters_T) rl (Ax.look E24) 100 24 [.seq, .int .i64, .int .i64] (.str) ds).run) = F_law07_Letters := by kernel_rfl
theorem F_law07_Letters_ok : FnOk P (gl mx) 24 ⟨[.seq, .int .i64, .int .i64], (.str), F_law07_Letters⟩ := F_law07_Letters_eq ▸ fnO_ok tau_ok mix (xd_ok _) rl_ok (E24_ok)
noncomputable def E25 : List (Nat × Ax.Fn) := (24, ⟨[.seq, .int .i64, .int .i64], (.str), F_law07_Letters⟩) :: E24
theorem E25_ok : EOk P (gl mx) (Ax.look E25) := eok_cons F_law07_Letters_ok E24_ok
def F_lexeme_Fields_T : List (Nat × List (Nat × Nat × Ax.Tm)) := [(35, [(8, 3, (⟨[(0, .str), (4, .ptr 0 0), (5, .ptr 1 0), (6, .ptr 2 0), (7, .bool), (8, .func 57 [] [.ptr 2 0, .ptr 0 0, .ptr 1 0]), (16, .int .i64), (17, .int .i64)], [(0, .each [.acc 3 1]), (1, .each [.acc 4 1]), (2, .each [.bool]), (3, .whole), (4, .whole)], 5⟩ : Go.Ax.Tm))])]
theorem F_lexeme_Fields_eq : (fun ds => (fnO tau (gl mx) (xd F_lexeme_Fields_T) rl (Ax.look E25) 100 35 [.str] (.tuple [.seq, .int .i64]) ds).run) = F_lexeme_Fields := by kernel_rfl
theorem F_lexeme_Fields_ok : FnOk P (gl mx) 35 ⟨[.str], (.tuple [.seq, .int .i64]), F_lexeme_Fields⟩ := F_lexeme_Fields_eq ▸ fnO_ok tau_ok mix (xd_ok _) rl_ok (E25_ok)
noncomputable def E26 : List (Nat × Ax.Fn) := (35, ⟨[.str], (.tuple [.seq, .int .i64]), F_lexeme_Fields⟩) :: E25
theorem E26_ok : EOk P (gl mx) (Ax.look E26) := eok_cons F_lexeme_Fields_ok E25_ok
def F_law12_LinklineBack_T : List (Nat × List (Nat × Nat × Ax.Tm)) := []
theorem F_law12_LinklineBack_eq : (fun ds => (fnO tau (gl mx) (xd F_law12_LinklineBack_T) rl (Ax.look E26) 100 9 [.seq, .seq, .seq] (.bool) ds).run) = F_law12_LinklineBack := by kernel_rfl
theorem F_law12_LinklineBack_ok : FnOk P (gl mx) 9 ⟨[.seq, .seq, .seq], (.bool), F_law12_LinklineBack⟩ := F_law12_LinklineBack_eq ▸ fnO_ok tau_ok mix (xd_ok _) rl_ok (E26_ok)
noncomputable def E27 : List (Nat × Ax.Fn) := (9, ⟨[.seq, .seq, .seq], (.bool), F_law12_LinklineBack⟩) :: E26
theorem E27_ok : EOk P (gl mx) (Ax.look E27) := eok_cons F_law12_LinklineBack_ok E26_ok
theorem shelf36 : FnOk P (gl mx) 36 ⟨[.seq, .str], .str, strJoin⟩ := by
  have h := IsProg.eq (P := P)
  subst h
  exact strJoin_ok Tryd.func36 (c := code36) (by kernel_rfl) (by kernel_rfl) (fun a c sep w => Any.strings_Join_none Tryd.lays156 Tryd.Builder_Extra_156 a c sep w) (fun bk o c xs sep w h1 h2 h3 h4 h5 => Tryd.strings_Join bk o c xs sep w h1 h2 h3 h4 h5)
noncomputable def E28 : List (Nat × Ax.Fn) := (36, ⟨[.seq, .str], .str, strJoin⟩) :: E27
theorem E28_ok : EOk P (gl mx) (Ax.look E28) := eok_cons shelf36 E27_ok
def F_law12_LinklineNames_T : List (Nat × List (Nat × Nat × Ax.Tm)) := []
theorem F_law12_LinklineNames_eq : (fun ds => (fnO tau (gl mx) (xd F_law12_LinklineNames_T) rl (Ax.look E28) 100 10 [.str, .str] (.bool) ds).run) = F_law12_LinklineNames := by kernel_rfl
theorem F_law12_LinklineNames_ok : FnOk P (gl mx) 10 ⟨[.str, .str], (.bool), F_law12_LinklineNames⟩ := F_law12_LinklineNames_eq ▸ fnO_ok tau_ok mix (xd_ok _) rl_ok (E28_ok)
noncomputable def E29 : List (Nat × Ax.Fn) := (10, ⟨[.str, .str], (.bool), F_law12_LinklineNames⟩) :: E28
theorem E29_ok : EOk P (gl mx) (Ax.look E29) := eok_cons F_law12_LinklineNames_ok E28_ok
def F_law12_LinklineNumbers_T : List (Nat × List (Nat × Nat × Ax.Tm)) := []
theorem F_law12_LinklineNumbers_eq : (fun ds => (fnO tau (gl mx) (xd F_law12_LinklineNumbers_T) rl (Ax.look E29) 100 11 [.seq] (.bool) ds).run) = F_law12_LinklineNumbers := by kernel_rfl
theorem F_law12_LinklineNumbers_ok : FnOk P (gl mx) 11 ⟨[.seq], (.bool), F_law12_LinklineNumbers⟩ := F_law12_LinklineNumbers_eq ▸ fnO_ok tau_ok mix (xd_ok _) rl_ok (E29_ok)
noncomputable def E30 : List (Nat × Ax.Fn) := (11, ⟨[.seq], (.bool), F_law12_LinklineNumbers⟩) :: E29
theorem E30_ok : EOk P (gl mx) (Ax.look E30) := eok_cons F_law12_LinklineNumbers_ok E29_ok
end Go.Proofs.YtgmmcmfnniaekaaDoor
