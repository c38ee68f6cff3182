/-
  The functions of plain data are what the program's code says.
-/
import Derived.Test.YtgmmcmfnniaekaaDoorAxT
import Derived.Test.YtgmmcmfnniaekaaDoorShelf
import Derived.Test.YtgmmcmfnniaekaaDoorFnal
namespace Go.Proofs.YtgmmcmfnniaekaaDoor.Za
open Go.Ax
open Go.Proofs.YtgmmcmfnniaekaaDoor
set_option linter.all false
set_option maxRecDepth 100000
set_option maxHeartbeats 4000000
variable {P : Program} [IsProg P]
variable {mx : Int}
def glList (mx : Int) : List (Nat × List AV) := [(0, [.int .u8 (.lit 0), .int .u8 (.lit 0), .int .u8 (.lit 0), .int .u8 (.lit 0), .int .u8 (.lit 0), .int .u8 (.lit 0), .int .u8 (.lit 0), .int .u8 (.lit 0), .int .u8 (.lit 0), .int .u8 (.lit 0), .int .u8 (.lit 0), .int .u8 (.lit 0), .int .u8 (.lit 0), .int .u8 (.lit 0), .int .u8 (.lit 0), .int .u8 (.lit 0), .int .u8 (.lit 0), .int .u8 (.lit 0), .int .u8 (.lit 0), .int .u8 (.lit 0), .int .u8 (.lit 0), .int .u8 (.lit 0), .int .u8 (.lit 0), .int .u8 (.lit 0), .int .u8 (.lit 0), .int .u8 (.lit 0), .int .u8 (.lit 0), .int .u8 (.lit 0), .int .u8 (.lit 0), .int .u8 (.lit 0), .int .u8 (.lit 0), .int .u8 (.lit 0), .int .u8 (.lit 0), .int .u8 (.lit 0), .int .u8 (.lit 0), .int .u8 (.lit 0), .int .u8 (.lit 0), .int .u8 (.lit 0), .int .u8 (.lit 0), .int .u8 (.lit 0), .int .u8 (.lit 0), .int .u8 (.lit 0), .int .u8 (.lit 0), .int .u8 (.lit 16), .int .u8 (.lit 0), .int .u8 (.lit 4), .int .u8 (.lit 8), .int .u8 (.lit 0), .int .u8 (.lit 2), .int .u8 (.lit 2), .int .u8 (.lit 2), .int .u8 (.lit 2), .int .u8 (.lit 2), .int .u8 (.lit 2), .int .u8 (.lit 2), .int .u8 (.lit 2), .int .u8 (.lit 2), .int .u8 (.lit 2), .int .u8 (.lit 0), .int .u8 (.lit 0), .int .u8 (.lit 0), .int .u8 (.lit 0), .int .u8 (.lit 0), .int .u8 (.lit 0), .int .u8 (.lit 0), .int .u8 (.lit 1), .int .u8 (.lit 1), .int .u8 (.lit 1), .int .u8 (.lit 1), .int .u8 (.lit 1), .int .u8 (.lit 1), .int .u8 (.lit 1), .int .u8 (.lit 1), .int .u8 (.lit 1), .int .u8 (.lit 1), .int .u8 (.lit 1), .int .u8 (.lit 1), .int .u8 (.lit 1), .int .u8 (.lit 1), .int .u8 (.lit 1), .int .u8 (.lit 1), .int .u8 (.lit 1), .int .u8 (.lit 1), .int .u8 (.lit 1), .int .u8 (.lit 1), .int .u8 (.lit 1), .int .u8 (.lit 1), .int .u8 (.lit 1), .int .u8 (.lit 1), .int .u8 (.lit 1), .int .u8 (.lit 1), .int .u8 (.lit 0), .int .u8 (.lit 0), .int .u8 (.lit 0), .int .u8 (.lit 0), .int .u8 (.lit 4), .int .u8 (.lit 0), .int .u8 (.lit 1), .int .u8 (.lit 1), .int .u8 (.lit 1), .int .u8 (.lit 1), .int .u8 (.lit 1), .int .u8 (.lit 1), .int .u8 (.lit 1), .int .u8 (.lit 1), .int .u8 (.lit 1), .int .u8 (.lit 1), .int .u8 (.lit 1), .int .u8 (.lit 1), .int .u8 (.lit 1), .int .u8 (.lit 1), .int .u8 (.lit 1), .int .u8 (.lit 1), .int .u8 (.lit 1), .int .u8 (.lit 1), .int .u8 (.lit 1), .int .u8 (.lit 1), .int .u8 (.lit 1), .int .u8 (.lit 1), .int .u8 (.lit 1), .int .u8 (.lit 1), .int .u8 (.lit 1), .int .u8 (.lit 1), .int .u8 (.lit 0), .int .u8 (.lit 0), .int .u8 (.lit 0), .int .u8 (.lit 0), .int .u8 (.lit 0)])]
def gl (mx : Int) : Nat → Option (List AV) := Ax.look (glList mx)
noncomputable def rl : Nat → Option Rule := noR
theorem rl_ok : RulesOk P (gl mx) rl := noR_ok
noncomputable def E0 : List (Nat × Ax.Fn) := []
omit [IsProg P] in theorem E0_ok : EOk P (gl mx) (Ax.look E0) := eok_nil
def F_name_all_T : List (Nat × List (Nat × Nat × Ax.Tm)) := [(39, [(4, 0, (⟨[(0, .str), (3, .func 40 [] []), (21, .int .i64), (22, .int .i64)], [], 0⟩ : Go.Ax.Tm))])]
theorem F_name_all_eq : (fun ds => (fnO tau (gl mx) (xd F_name_all_T) rl (Ax.look E0) 100 39 [.str, .int .i64, .int .i64, .func 40 [] []] (.bool) ds).run) = F_name_all := by kernel_rfl
theorem F_name_all_ok : FnOk P (gl mx) 39 ⟨[.str, .int .i64, .int .i64, .func 40 [] []], (.bool), F_name_all⟩ := F_name_all_eq ▸ fnO_ok tau_ok mix (xd_ok _) rl_ok (E0_ok)
noncomputable def E1 : List (Nat × Ax.Fn) := (39, ⟨[.str, .int .i64, .int .i64, .func 40 [] []], (.bool), F_name_all⟩) :: E0
theorem E1_ok : EOk P (gl mx) (Ax.look E1) := eok_cons F_name_all_ok E0_ok
end Go.Proofs.YtgmmcmfnniaekaaDoor.Za
