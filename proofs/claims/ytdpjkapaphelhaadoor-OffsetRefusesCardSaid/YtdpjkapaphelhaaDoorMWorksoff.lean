/-
  The chapter's examples hold.
-/
import Derived.Test.YtdpjkapaphelhaaDoorMBackoff
import Derived.KernelRfl
import Derived.Test.YtdpjkapaphelhaaDoorAxT
namespace Go.Proofs.YtdpjkapaphelhaaDoor
open Go.Ax Go.Lib
set_option linter.all false

theorem works_at : F_law04_works [] = some [.b true] := by kernel_rfl
theorem law_OffsetPrints : ∀ {x : Int}, F_law04_OffsetPrints [.i x] = some [.b true] := by
  intro x
  unfold F_law04_OffsetPrints
  simp only [onI]
  by_cases h : -604799 ≤ x ∧ x ≤ 604799
  · rw [print_at h.1 h.2, refPrint_at h.1 h.2, works_at]
    simp [onS, onI, onB]
  · rw [print_out (by omega), refPrint_out (by omega), works_at]
    simp [onS, onI, onB]
theorem lawP_OffsetPrints {dats : List Dat} (h : DatOk tau [.int .i64] dats) : F_law04_OffsetPrints dats = some [.b true] := by
  obtain ⟨x, r, rfl, _, rfl⟩ := h
  exact law_OffsetPrints
end Go.Proofs.YtdpjkapaphelhaaDoor
