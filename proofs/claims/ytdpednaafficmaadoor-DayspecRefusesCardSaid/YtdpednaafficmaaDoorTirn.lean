/-
  The functions of plain data are what the program's code says.
-/
import Derived.Test.YtdpednaafficmaaDoorAxT
import Derived.Test.YtdpednaafficmaaDoorShelf
import Derived.Test.YtdpednaafficmaaDoorFirn
import Derived.Test.YtdpednaafficmaaDoorHBuilder
import Derived.Test.YtdpednaafficmaaDoorHWordFind
namespace Go.Proofs.YtdpednaafficmaaDoor.Ir
open Go.Ax
open Go.Proofs.YtdpednaafficmaaDoor
set_option linter.all false
set_option maxRecDepth 100000
set_option maxHeartbeats 4000000
variable {P : Program} [IsProg P]
variable {mx : Int}
def glList (mx : Int) : List (Nat × List AV) := []
def gl (mx : Int) : Nat → Option (List AV) := Ax.look (glList mx)
noncomputable def rl : Nat → Option Rule := Ax.look [(106, ruleCopy 94), (67, ruleString 94 5)]
theorem rl_ok : RulesOk P (gl mx) rl := (rules_cons copyCheck_rule (rules_cons builderString_rule rules_nil))
noncomputable def E0 : List (Nat × Ax.Fn) := []
omit [IsProg P] in theorem E0_ok : EOk P (gl mx) (Ax.look E0) := eok_nil
theorem shelf83 : FnOk P (gl mx) 83 ⟨[.str, .int .u8], (.int .i64), strIndexByte⟩ := by
  have h := IsProg.eq (P := P)
  subst h
  exact strIndexByte_ok Tryd.func83 (c := code83) (by kernel_rfl) (by kernel_rfl) (fun s c w => Tryd.stringslite_IndexByte s c w)
noncomputable def E1 : List (Nat × Ax.Fn) := (83, ⟨[.str, .int .u8], (.int .i64), strIndexByte⟩) :: E0
theorem E1_ok : EOk P (gl mx) (Ax.look E1) := eok_cons shelf83 E0_ok
def F_strings_IndexByte_T : List (Nat × List (Nat × Nat × Ax.Tm)) := []
theorem F_strings_IndexByte_eq : (fun ds => (fnO tau (gl mx) (xd F_strings_IndexByte_T) rl (Ax.look E1) 100 38 [.str, .int .u8] (.int .i64) ds).run) = F_strings_IndexByte := by kernel_rfl
theorem F_strings_IndexByte_ok : FnOk P (gl mx) 38 ⟨[.str, .int .u8], (.int .i64), F_strings_IndexByte⟩ := F_strings_IndexByte_eq ▸ fnO_ok tau_ok mix (xd_ok _) rl_ok (E1_ok)
noncomputable def E2 : List (Nat × Ax.Fn) := (38, ⟨[.str, .int .u8], (.int .i64), F_strings_IndexByte⟩) :: E1
theorem E2_ok : EOk P (gl mx) (Ax.look E2) := eok_cons F_strings_IndexByte_ok E1_ok
def F_unicode_utf8_ValidRune_T : List (Nat × List (Nat × Nat × Ax.Tm)) := []
theorem F_unicode_utf8_ValidRune_eq : (fun ds => (fnO tau (gl mx) (xd F_unicode_utf8_ValidRune_T) rl (Ax.look E2) 100 124 [.int .i32] (.bool) ds).run) = F_unicode_utf8_ValidRune := by kernel_rfl
theorem F_unicode_utf8_ValidRune_ok : FnOk P (gl mx) 124 ⟨[.int .i32], (.bool), F_unicode_utf8_ValidRune⟩ := F_unicode_utf8_ValidRune_eq ▸ fnO_ok tau_ok mix (xd_ok _) rl_ok (E2_ok)
noncomputable def E3 : List (Nat × Ax.Fn) := (124, ⟨[.int .i32], (.bool), F_unicode_utf8_ValidRune⟩) :: E2
theorem E3_ok : EOk P (gl mx) (Ax.look E3) := eok_cons F_unicode_utf8_ValidRune_ok E2_ok
def F_internal_bytealg_Cutover_T : List (Nat × List (Nat × Nat × Ax.Tm)) := []
theorem F_internal_bytealg_Cutover_eq : (fun ds => (fnO tau (gl mx) (xd F_internal_bytealg_Cutover_T) rl (Ax.look E3) 100 117 [.int .i64] (.int .i64) ds).run) = F_internal_bytealg_Cutover := by kernel_rfl
theorem F_internal_bytealg_Cutover_ok : FnOk P (gl mx) 117 ⟨[.int .i64], (.int .i64), F_internal_bytealg_Cutover⟩ := F_internal_bytealg_Cutover_eq ▸ fnO_ok tau_ok mix (xd_ok _) rl_ok (E3_ok)
noncomputable def E4 : List (Nat × Ax.Fn) := (117, ⟨[.int .i64], (.int .i64), F_internal_bytealg_Cutover⟩) :: E3
theorem E4_ok : EOk P (gl mx) (Ax.look E4) := eok_cons F_internal_bytealg_Cutover_ok E3_ok
def F_strings_IndexRune_T : List (Nat × List (Nat × Nat × Ax.Tm)) := [(91, [(5, 0, (⟨[(0, .str), (7, .str), (8, .int .i64), (9, .int .i64)], [], 0⟩ : Go.Ax.Tm)), (12, 0, (⟨[(0, .str), (7, .str), (8, .int .i64), (9, .int .i64), (12, .int .i64)], [], 0⟩ : Go.Ax.Tm))])]
theorem F_strings_IndexRune_eq : (fun ds => (fnO tau (gl mx) (xd F_strings_IndexRune_T) rl (Ax.look E4) 100 91 [.str, .int .i32] (.int .i64) ds).run) = F_strings_IndexRune := by kernel_rfl
theorem F_strings_IndexRune_ok : FnOk P (gl mx) 91 ⟨[.str, .int .i32], (.int .i64), F_strings_IndexRune⟩ := F_strings_IndexRune_eq ▸ fnO_ok tau_ok mix (xd_ok _) rl_ok (E4_ok)
noncomputable def E5 : List (Nat × Ax.Fn) := (91, ⟨[.str, .int .i32], (.int .i64), F_strings_IndexRune⟩) :: E4
theorem E5_ok : EOk P (gl mx) (Ax.look E5) := eok_cons F_strings_IndexRune_ok E4_ok
end Go.Proofs.YtdpednaafficmaaDoor.Ir
