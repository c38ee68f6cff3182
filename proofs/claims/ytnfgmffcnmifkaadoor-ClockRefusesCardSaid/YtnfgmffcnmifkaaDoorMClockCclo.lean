/-
  Times of day: what is refused.
-/
import Derived.Test.YtnfgmffcnmifkaaDoorMClockclo
namespace Go.Proofs.YtnfgmffcnmifkaaDoor
open Go.Ax Go.Lib
set_option linter.all false
set_option maxHeartbeats 8000000
attribute [local congr] cond_cong bind_cong onI_cong onB_cong onS_cong onN_cong onL_cong

theorem bad_at {x b : Int} (h : ¬ Cok x b) : F_clock_Print [.i x, .i b] = some [.s [], .i 2] ∧ F_clock_Check [.i x, .i b] = some [.i 2] := by
  have p := cprint_at x b
  have c := check_at x b
  unfold cprint at p
  rw [if_neg h] at p c
  exact ⟨p, c⟩
theorem lawP_ClockRefuses {dats : List Dat} (h : DatOk tau [.int .i32, .int .u8, .int .u32] dats) : F_law06_ClockRefuses dats = some [.b true] := by
  obtain ⟨m, r, rfl, hm, a, r, rfl, ha, f, r, rfl, hf, rfl⟩ := h
  obtain ⟨x, c, m1, h1⟩ := made_at (wf_i32 hm) (wf_u8 ha)
  have hf := wf_u32 hf
  clear hm ha
  have e0 : i64 f = f := i64_in _ (by omega)
  have e1 : i64 (604800 + f) = 604800 + f := i64_in _ (by omega)
  have e2 : i64 (-604800 - f) = -604800 - f := i64_in _ (by omega)
  have e3 : i64 (3 + f) = 3 + f := i64_in _ (by omega)
  have e4 : i64 (-1 - f) = -1 - f := i64_in _ (by omega)
  obtain ⟨p1, c1⟩ := bad_at (x := 604800 + f) (b := c) (by unfold Cok; omega)
  obtain ⟨p2, c2⟩ := bad_at (x := -604800 - f) (b := c) (by unfold Cok; omega)
  obtain ⟨p3, c3⟩ := bad_at (x := x) (b := 3 + f) (by unfold Cok; omega)
  obtain ⟨p4, c4⟩ := bad_at (x := x) (b := -1 - f) (by unfold Cok; omega)
  have c5 := check_at x c
  rw [if_pos h1] at c5
  clear h1 hf
  unfold F_law06_ClockRefuses
  generalize hy1 : (604800 + f) = y1 at *
  generalize hy2 : (-604800 - f) = y2 at *
  generalize hy3 : (3 + f) = y3 at *
  generalize hy4 : (-1 - f) = y4 at *
  have bt : ((([] : List UInt8)) == ([] : List UInt8)) = true := rfl
  simp only [onI_c, Option.bind_some, m1, e0, hy1, e1, p1, onS_c, c1, decT, Bool.not_true, cond_false, bt, hy2, e2, p2, c2]
  simp only [onI_c, Option.bind_some, hy3, e3, p3, onS_c, c3, decT, Bool.not_true, cond_false, bt, hy4, e4, p4, c4]
  simp only [onI_c, Option.bind_some, c5, decT, cond_true, cworks_at, onB_c]
end Go.Proofs.YtnfgmffcnmifkaaDoor
