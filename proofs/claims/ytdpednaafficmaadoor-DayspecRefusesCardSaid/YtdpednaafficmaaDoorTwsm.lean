/-
  The functions of plain data are what the program's code says.
-/
import Derived.Test.YtdpednaafficmaaDoorAxT
import Derived.Test.YtdpednaafficmaaDoorShelf
import Derived.Test.YtdpednaafficmaaDoorFwsm
namespace Go.Proofs.YtdpednaafficmaaDoor.Sm
open Go.Ax
open Go.Proofs.YtdpednaafficmaaDoor
set_option linter.all false
set_option maxRecDepth 100000
set_option maxHeartbeats 4000000
variable {P : Program} [IsProg P]
variable {mx : Int}
def glList (mx : Int) : List (Nat × List AV) := []
def gl (mx : Int) : Nat → Option (List AV) := Ax.look (glList mx)
noncomputable def rl : Nat → Option Rule := noR
theorem rl_ok : RulesOk P (gl mx) rl := noR_ok
noncomputable def E0 : List (Nat × Ax.Fn) := []
omit [IsProg P] in theorem E0_ok : EOk P (gl mx) (Ax.look E0) := eok_nil
def F_internal_stringslite_HasPrefix_T : List (Nat × List (Nat × Nat × Ax.Tm)) := []
theorem F_internal_stringslite_HasPrefix_eq : (fun ds => (fnO tau (gl mx) (xd F_internal_stringslite_HasPrefix_T) rl (Ax.look E0) 100 70 [.str, .str] (.bool) ds).run) = F_internal_stringslite_HasPrefix := by kernel_rfl
theorem F_internal_stringslite_HasPrefix_ok : FnOk P (gl mx) 70 ⟨[.str, .str], (.bool), F_internal_stringslite_HasPrefix⟩ := F_internal_stringslite_HasPrefix_eq ▸ fnO_ok tau_ok mix (xd_ok _) rl_ok (E0_ok)
noncomputable def E1 : List (Nat × Ax.Fn) := (70, ⟨[.str, .str], (.bool), F_internal_stringslite_HasPrefix⟩) :: E0
theorem E1_ok : EOk P (gl mx) (Ax.look E1) := eok_cons F_internal_stringslite_HasPrefix_ok E0_ok
def F_strings_HasPrefix_T : List (Nat × List (Nat × Nat × Ax.Tm)) := []
theorem F_strings_HasPrefix_eq : (fun ds => (fnO tau (gl mx) (xd F_strings_HasPrefix_T) rl (Ax.look E1) 100 22 [.str, .str] (.bool) ds).run) = F_strings_HasPrefix := by kernel_rfl
theorem F_strings_HasPrefix_ok : FnOk P (gl mx) 22 ⟨[.str, .str], (.bool), F_strings_HasPrefix⟩ := F_strings_HasPrefix_eq ▸ fnO_ok tau_ok mix (xd_ok _) rl_ok (E1_ok)
noncomputable def E2 : List (Nat × Ax.Fn) := (22, ⟨[.str, .str], (.bool), F_strings_HasPrefix⟩) :: E1
theorem E2_ok : EOk P (gl mx) (Ax.look E2) := eok_cons F_strings_HasPrefix_ok E1_ok
def F_word_small_T : List (Nat × List (Nat × Nat × Ax.Tm)) := [(128, [(3, 1, (⟨[(3, .own 0 1), (8, .int .i64), (9, .int .i64)], [(0, .whole)], 1⟩ : Go.Ax.Tm))])]
theorem F_word_small_eq : (fun ds => (fnO tau (gl mx) (xd F_word_small_T) rl (Ax.look E2) 100 128 [.str] (.str) ds).run) = F_word_small := by kernel_rfl
theorem F_word_small_ok : FnOk P (gl mx) 128 ⟨[.str], (.str), F_word_small⟩ := F_word_small_eq ▸ fnO_ok tau_ok mix (xd_ok _) rl_ok (E2_ok)
noncomputable def E3 : List (Nat × Ax.Fn) := (128, ⟨[.str], (.str), F_word_small⟩) :: E2
theorem E3_ok : EOk P (gl mx) (Ax.look E3) := eok_cons F_word_small_ok E2_ok
end Go.Proofs.YtdpednaafficmaaDoor.Sm
