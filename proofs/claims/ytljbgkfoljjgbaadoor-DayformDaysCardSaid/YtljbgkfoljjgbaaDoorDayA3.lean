/-
  Package dayform: forms that there are not.
-/
import Derived.Test.YtljbgkfoljjgbaaDoorDayA1
import Derived.Test.YtljbgkfoljjgbaaDoorDayA2
namespace Go.Proofs.YtljbgkfoljjgbaaDoor
set_option linter.unusedVariables false
set_option linter.unusedSimpArgs false
open Go.RowKit

theorem find_bad (k a d : Int) (w : World) (h : Day.okB k a d = false) :
    Calls Tryd.prog 26 #[.agg #[.int .i64 k, .int .i64 a, .int .i64 d]] w fun e w' => e = .returned (.tuple #[.agg #[.bool false, .bool false, .nilFunc], .bool false]) ∧ Below w.heap.size w w' := by
  have h' : ¬ Day.okB k a d = true := by simp [h]
  rw [Day.okB_iff] at h'
  by_cases hk : k < 1 ∨ 4 < k
  · exact find_bad_kind k a d w hk
  rcases (show k = 1 ∨ k = 2 ∨ k = 3 ∨ k = 4 by omega) with rfl | rfl | rfl | rfl
  · by_cases ha : a = 0
    · subst ha
      by_cases hd : d < 1
      · exact find_b1d1 d w hd
      · exact find_b1d2 d w (by omega) (by omega)
    · exact find_b1w a d w (by rw [bne_iff_ne]; exact ha)
  · by_cases h1 : a < 0
    · exact find_b2w1 a d w h1
    · by_cases h2 : 6 < a
      · exact find_b2w2 a d w (by omega) h2
      · exact find_b2d a d w (by omega) (by omega) (by rw [bne_iff_ne]; omega)
  · by_cases h1 : a < 0
    · exact find_b3w1 a d w h1
    · by_cases h2 : 6 < a
      · exact find_b3w2 a d w (by omega) h2
      · by_cases h3 : d < 1
        · exact find_b3d1 a d w (by omega) (by omega) h3
        · exact find_b3d2 a d w (by omega) (by omega) (by omega) (by omega)
  · by_cases h1 : a < 0
    · exact find_b4w1 a d w h1
    · by_cases h2 : 6 < a
      · exact find_b4w2 a d w (by omega) h2
      · by_cases h3 : d < 1
        · exact find_b4d1 a d w (by omega) (by omega) h3
        · exact find_b4d2 a d w (by omega) (by omega) (by omega) (by omega)
end Go.Proofs.YtljbgkfoljjgbaaDoor
