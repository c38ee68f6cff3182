/-
  UntilEnds: for every input the law returns true; the listed package-level variables are as their initialisers lay them (tied by the card).
-/
import Derived.Test.YtcohbcdhcmajiaaDoorTie
import Derived.Test.YtcohbcdhcmajiaaDoorCards
import Derived.LaidMore
import Derived.MakeChecks
import Derived.Lib.LaidTab
import Derived.Test.YtcohbcdhcmajiaaDoorAx31
import Derived.Test.YtcohbcdhcmajiaaDoorTune
import Derived.Test.YtcohbcdhcmajiaaDoorMUnfune
namespace Go.Proofs.YtcohbcdhcmajiaaDoor.pUntilEnds
open Go.ChangeShapes Go.WideShapes Go.ChangeAt Go.RowKit Go.Ax
open Go.Proofs.YtcohbcdhcmajiaaDoor
set_option linter.unusedVariables false
set_option maxRecDepth 100000

theorem fnNamed : Tryd.prog.funcNamed "analemma/analemmalaw22.UntilEnds" = some 9 := by kernel_rfl
theorem own : ownKnob Tryd.prog.godebug = none := by kernel_rfl
def glBase : List (Nat × List AV) := [(4, [.int .i64 (.lit 0), .int .i64 (.lit 31), .int .i64 (.lit 59), .int .i64 (.lit 90), .int .i64 (.lit 120), .int .i64 (.lit 151), .int .i64 (.lit 181), .int .i64 (.lit 212), .int .i64 (.lit 243), .int .i64 (.lit 273), .int .i64 (.lit 304), .int .i64 (.lit 334), .int .i64 (.lit 365)])]
theorem params_ok : params tau Tryd.f9.params.toList = some ([.agg [.bool, .int .i64, .int .i64, .int .i64, .int .i64, .int .i64, .int .i64, .int .i64], .int .i64], [.bool, .int .i64, .int .i64, .int .i64, .int .i64, .int .i64, .int .i64, .int .i64, .int .i64]) := by kernel_rfl
/-- The door's own heap meets the condition. -/
theorem door_met (os : Os) (args : Array Value) : laidMetH Tryd.prog Rows.untilEndsRow.laid ((World.doorLaid Tryd.prog 400 os).forCall (fun _ _ => 0) ⟨#[], args, []⟩).memory :=
  laidMetH_of_parts3 (fuel := 8) (laidMet_of_run' 8 (by kernel_rfl) (by kernel_rfl)) (by kernel_rfl) (by kernel_rfl)
theorem lifted (os : Os) (started : os.Started) (H : Type) (enc : TypeId × Value → H) :
    ReturnsInHanded {} Tryd.checked os 9 .any (fun w args => (Rows.untilEndsSpec.pre enc Tryd.prog Tryd.f9 [] false w args ∧ laidMetH Tryd.prog Rows.untilEndsRow.laid w) ∧ sizedMet enc Tryd.prog Tryd.f9 (OpenSpec.ofChange Rows.untilEndsSpec) false w args)
      (Rows.untilEndsSpec.post enc Tryd.prog Tryd.f9 false true false false) := by
  refine handed (C := Tryd.checked) (X := fun w _ => laidMetH Tryd.prog Rows.untilEndsRow.laid w) (fun _ _ _ hh h => h.of_heap hh) own started (by kernel_rfl) Tryd.func9
    (ChangeSpec.witness_shaped (enc := enc) (C := Tryd.checked) (os := os) (X := fun w _ => laidMetH Tryd.prog Rows.untilEndsRow.laid w) false (World.doorLaid Tryd.prog 400 os) #[.agg #[.bool false, .int .i64 0, .int .i64 0, .int .i64 0, .int .i64 0, .int .i64 0, .int .i64 0, .int .i64 0], .int .i64 0] 8 rfl (World.shaped_of_RefB (by kernel_rfl) (by kernel_rfl)) (by kernel_rfl) (by kernel_rfl) (by kernel_rfl) (door_met os _)) ?_
  intro W base args ds gs before hval0 hW _ hL hsh
  have hW' := hW
  obtain ⟨p, q, hA, hV, rfl, hfz, hnd⟩ := hW
  obtain ⟨ps0, hv0, _⟩ : laidMet Tryd.prog Rows.untilEndsRow.laid W := by rw [← MakeChecks.laidMetH_plain _ _ _ (by kernel_rfl)]; exact hL
  have hG0 : GR (Ax.look glBase) (fun b => b < W.heap.size) W := laid_gr tau_ok (fun b h => h) Rows.untilEndsRow.laid ps0 hv0 _ (by kernel_rfl)
  obtain ⟨m0, hm0, hc0⟩ := shaped_int (zero := #[.int .i64 0]) (k := .i64) (g := 1) (t := 3) hsh (of_decide_eq_true (by kernel_rfl)) (by kernel_rfl) rfl (by kernel_rfl) (by kernel_rfl) Tryd.underlying3
  have hG : GR (gl m0) (fun b => b < W.heap.size) W := gr_add_int hG0 (fun b h => h) hc0 hm0
  obtain ⟨rfl, rfl⟩ := trodVars_none hV
  have hlen : ds.length = 2 := (trodAll_len _ _ _ _ hA).trans rfl
  obtain ⟨d0, d1, rfl⟩ := len2 hlen
  have hc := law_calls (P := Tryd.prog) (base := base) tau_ok Tryd.func9 (c := code9) (by kernel_rfl) (by kernel_rfl) hA (fun j t v ht hv => hval0 j t v (by simpa using ht) (by simpa using hv)) (params_ok) (by kernel_rfl) (F_law22_UntilEnds_ok (P := Tryd.prog) (mx := m0)) hG (fun dats h => lawP_UntilEnds h)
  rw [Array.toArray_toList] at hc
  refine hc.mono fun e W' ⟨he, hg⟩ => ?_
  subst he
  exact ⟨_, rfl, law_post (tb := 4) hW' rfl rfl rfl Tryd.underlying4 (by kernel_rfl) (by kernel_rfl) hg⟩

theorem over : Rows.UntilEndsSaid :=
  OpenClaim.holds_of_wide 9 Tryd.f9 rfl rfl rfl rfl rfl rfl rfl ⟨rfl, rfl, rfl, rfl, rfl⟩ rfl rfl rfl rfl rfl (by kernel_rfl) Tryd.func9 (by kernel_rfl)
    (of_decide_eq_true (by kernel_rfl)) (by unfold Func.isWrapper; first | (rw [if_pos (by decide +kernel)]; kernel_rfl) | (rw [if_neg (by decide +kernel)]; exact ⟨rfl, rfl⟩))
    (fun os started H enc _ => lifted os started H enc)

theorem proved : Rows.UntilEndsCardSaid :=
  Claim7.holds_tied_plain_at .later [] [.data] true (true, _) false
    over (fun _ h => by cases h) (by kernel_rfl) (fun _ h => by cases h) untilEnds_row_tie rfl ⟨rfl, rfl⟩ (by kernel_rfl) rfl
    (fun f fn hf hfn => by
      obtain rfl : f = 9 := Option.some.inj (fnNamed.symm.trans hf) |>.symm
      obtain rfl : fn = Tryd.f9 := (Option.some.inj (Tryd.func9.symm.trans hfn)).symm
      refine ⟨by kernel_rfl, fun j t ht => ?_⟩
      rw [Tryd.params9] at ht
      have hm : t ∈ ([37, 2] : List Nat) := by
        have := Array.mem_of_getElem? ht
        simpa using this
      have hall : (([37, 2] : List Nat).all fun t => Tryd.prog.wantsStandIn t == false) = true := by kernel_rfl
      exact eq_of_beq (List.all_eq_true.1 hall t hm))
    (by kernel_rfl)
#print axioms proved
end Go.Proofs.YtcohbcdhcmajiaaDoor.pUntilEnds
