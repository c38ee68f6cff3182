/-
  CheckedParts: for every input the law returns true.
-/
import Derived.Test.YtkjlobjnboljbaaRows
import Derived.Test.YtkjlobjnboljbaaChecked
import Derived.LaidMore
import Derived.MakeChecks
import Derived.Lib.LaidTab
import Derived.Test.YtkjlobjnboljbaaAx34
import Derived.Test.YtkjlobjnboljbaaTchk
import Derived.Test.YtkjlobjnboljbaaMChkEchk
namespace Go.Proofs.Ytkjlobjnboljbaa.pCheckedParts
open Go.ChangeShapes Go.WideShapes Go.ChangeAt Go.RowKit Go.Ax
open Go.Proofs.Ytkjlobjnboljbaa
set_option linter.unusedVariables false
set_option maxRecDepth 100000

theorem fnNamed : Try.prog.funcNamed "analemma/analemmalaw03.CheckedParts" = some 8 := by kernel_rfl
theorem own : ownKnob Try.prog.godebug = none := by kernel_rfl
def glBase : List (Nat × List AV) := []
theorem params_ok : params tau Try.f8.params.toList = some ([.seq], [.slice 2]) := by kernel_rfl
theorem lifted (os : Os) (started : os.Started) (H : Type) (enc : TypeId × Value → H) :
    ReturnsInHanded {} Try.checked os 8 .any (fun w args => Rows.checkedPartsSpec.pre enc Try.prog Try.f8 [] false w args ∧ sizedMet enc Try.prog Try.f8 (OpenSpec.ofChange Rows.checkedPartsSpec) false w args)
      (Rows.checkedPartsSpec.post enc Try.prog Try.f8 false true false false) := by
  refine handed0 (C := Try.checked) own started (by kernel_rfl) Try.func8
    (ChangeSpec.witness_shaped (enc := enc) (C := Try.checked) (os := os) (X := fun w _ => True) false (World.doorLaid Try.prog 400 os) #[.slice none 0 0] 8 rfl (World.shaped_of_RefB (by kernel_rfl) (by kernel_rfl)) (by kernel_rfl) (by kernel_rfl) (by kernel_rfl) trivial) ?_
  intro W base args ds gs before hval0 hW _ hsh
  have hW' := hW
  obtain ⟨p, q, hA, hV, rfl, hfz, hnd⟩ := hW
  have hG0 : GR (Ax.look glBase) (fun b => b < W.heap.size) W := fun g c h => by cases h
  have m0 : Int := 0
  have hG : GR (gl m0) (fun b => b < W.heap.size) W := hG0
  obtain ⟨rfl, rfl⟩ := trodVars_none hV
  have hlen : ds.length = 1 := (trodAll_len _ _ _ _ hA).trans rfl
  obtain ⟨d0, rfl⟩ := len1 hlen
  have hc := law_calls (P := Try.prog) (base := base) tau_ok Try.func8 (c := code8) (by kernel_rfl) (by kernel_rfl) hA (fun j t v ht hv => hval0 j t v (by simpa using ht) (by simpa using hv)) (params_ok) (by kernel_rfl) (F_law03_CheckedParts_ok (P := Try.prog) (mx := m0)) hG (fun dats h => lawP_CheckedParts h)
  rw [Array.toArray_toList] at hc
  refine hc.mono fun e W' ⟨he, hg⟩ => ?_
  subst he
  exact ⟨_, rfl, law_post (tb := 4) hW' rfl rfl rfl Try.underlying4 (by kernel_rfl) (by kernel_rfl) hg⟩

theorem over : Rows.CheckedPartsSaid :=
  OpenClaim.holds_of_wide 8 Try.f8 rfl rfl rfl rfl rfl rfl rfl ⟨rfl, rfl, rfl, rfl, rfl⟩ rfl rfl rfl rfl rfl (by kernel_rfl) Try.func8 (by kernel_rfl)
    (of_decide_eq_true (by kernel_rfl)) (by unfold Func.isWrapper; first | (rw [if_pos (by decide +kernel)]; kernel_rfl) | (rw [if_neg (by decide +kernel)]; exact ⟨rfl, rfl⟩))
    (fun os started H enc _ => lifted os started H enc)

theorem proved : Rows.CheckedPartsSaid := over
#print axioms proved
end Go.Proofs.Ytkjlobjnboljbaa.pCheckedParts
