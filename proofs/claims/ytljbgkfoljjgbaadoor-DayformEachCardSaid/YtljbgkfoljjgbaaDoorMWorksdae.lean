/-
  Day forms: what is refused.
-/
import Derived.Test.YtljbgkfoljjgbaaDoorMDaydae
import Derived.Test.YtljbgkfoljjgbaaDoorAxT
namespace Go.Proofs.YtljbgkfoljjgbaaDoor
open Go.Ax Go.Lib
set_option linter.all false
set_option maxHeartbeats 8000000
attribute [local congr] cond_cong bind_cong onI_cong onB_cong onS_cong onN_cong onL_cong

theorem dworks_at : F_law02_works [] = some [.b true] := rfl
theorem fixed_at (n : Int) : F_law02_fixed [.i n] = some [.i 1, .i 0, .i n] := rfl
theorem last_at (n : Int) : F_law02_last [.i n] = some [.i 2, .i n, .i 0] := rfl
theorem from_at (w n : Int) : F_law02_from [.i w, .i n] = some [.i 3, .i w, .i n] := rfl
theorem to_at (w n : Int) : F_law02_to [.i w, .i n] = some [.i 4, .i w, .i n] := rfl
end Go.Proofs.YtljbgkfoljjgbaaDoor
