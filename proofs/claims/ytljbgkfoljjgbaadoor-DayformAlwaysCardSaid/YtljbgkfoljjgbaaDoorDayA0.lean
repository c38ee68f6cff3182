/-
  Package dayform: the kinds of forms, and which forms there are.
-/
import Derived.Test.YtljbgkfoljjgbaaDoorCivilB
import Derived.Test.YtljbgkfoljjgbaaDoorDay
import Derived.Test.YtljbgkfoljjgbaaDoorPost
import Derived.RegionTactic
import Derived.Laws.EntriesVeiled
import Derived.Deep.RegionWith
namespace Go.Proofs.YtljbgkfoljjgbaaDoor
set_option linter.unusedVariables false
set_option linter.unusedSimpArgs false
open Go.RowKit

/-- The functions of the four kinds. -/
def fnV (n : Nat) : Value := .func (.func n) #[] #[]
def kindsA : Array Value := #[.bool false, .bool false, .nilFunc, .bool false, .bool true, .func (.func 39) #[] #[], .bool true, .bool false, .func (.func 41) #[] #[],
  .bool true, .bool true, .func (.func 43) #[] #[], .bool true, .bool true, .func (.func 44) #[] #[]]
def kindsV : Value := .agg #[.bool false, .bool false, .nilFunc, .bool false, .bool true, .func (.func 39) #[] #[], .bool true, .bool false, .func (.func 41) #[] #[],
  .bool true, .bool true, .func (.func 43) #[] #[], .bool true, .bool true, .func (.func 44) #[] #[]]

set_option maxHeartbeats 400000 in
theorem kinds_any (w : World) :
    Calls Tryd.prog 35 #[] w fun e w' => e = .returned kindsV ∧ w.alloc (.cells kindsA 59) = w' := by
  go_enter Tryd.func35, Tryd.ntmps35
  go_wp2
  exact bodyPost_ret (v := kindsV) (by simp [results, Tryd.results35, go_sem, kindsV]) rfl ⟨rfl, by simp [kindsA]⟩

theorem idx1 (w : World) : (Instr.index 59 kindsV (.int .i64 1)).run Tryd.prog w = .ok (.agg #[.bool false, .bool true, .func (.func 39) #[] #[]]) w := by kernel_rfl
theorem idx2 (w : World) : (Instr.index 59 kindsV (.int .i64 2)).run Tryd.prog w = .ok (.agg #[.bool true, .bool false, .func (.func 41) #[] #[]]) w := by kernel_rfl
theorem idx3 (w : World) : (Instr.index 59 kindsV (.int .i64 3)).run Tryd.prog w = .ok (.agg #[.bool true, .bool true, .func (.func 43) #[] #[]]) w := by kernel_rfl
theorem idx4 (w : World) : (Instr.index 59 kindsV (.int .i64 4)).run Tryd.prog w = .ok (.agg #[.bool true, .bool true, .func (.func 44) #[] #[]]) w := by kernel_rfl

end Go.Proofs.YtljbgkfoljjgbaaDoor
