/-
  DayformWeeks: for every input the law returns true; the listed package-level variables are as their initialisers lay them (tied by the card).
-/
import Derived.Test.YtljbgkfoljjgbaaDoorTie
import Derived.Test.YtljbgkfoljjgbaaDoorCards
import Derived.LaidMore
import Derived.MakeChecks
import Derived.Lib.LaidTab
import Derived.Test.YtljbgkfoljjgbaaDoorAx31
import Derived.Test.YtljbgkfoljjgbaaDoorTday
import Derived.Test.YtljbgkfoljjgbaaDoorMWeeksday
namespace Go.Proofs.YtljbgkfoljjgbaaDoor.pDayformWeeks
open Go.ChangeShapes Go.WideShapes Go.ChangeAt Go.RowKit Go.Ax
open Go.Proofs.YtljbgkfoljjgbaaDoor
set_option linter.unusedVariables false
set_option maxRecDepth 100000

theorem fnNamed : Tryd.prog.funcNamed "analemma/analemmalaw02.DayformWeeks" = some 7 := by kernel_rfl
theorem own : ownKnob Tryd.prog.godebug = none := by kernel_rfl
def glBase : List (Nat × List AV) := [(0, [.int .i64 (.lit 0), .int .i64 (.lit 31), .int .i64 (.lit 59), .int .i64 (.lit 90), .int .i64 (.lit 120), .int .i64 (.lit 151), .int .i64 (.lit 181), .int .i64 (.lit 212), .int .i64 (.lit 243), .int .i64 (.lit 273), .int .i64 (.lit 304), .int .i64 (.lit 334), .int .i64 (.lit 365)])]
theorem params_ok : params tau Tryd.f7.params.toList = some ([.int .u8, .int .i32, .int .u8], [.int .u8, .int .i32, .int .u8]) := by kernel_rfl
/-- The door's own heap meets the condition. -/
theorem door_met (os : Os) (args : Array Value) : laidMetH Tryd.prog Rows.dayformWeeksRow.laid ((World.doorLaid Tryd.prog 400 os).forCall (fun _ _ => 0) ⟨#[], args, []⟩).memory :=
  laidMetH_of_parts3 (fuel := 8) (laidMet_of_run' 8 (by kernel_rfl) (by kernel_rfl)) (by kernel_rfl) (by kernel_rfl)
theorem lifted (os : Os) (started : os.Started) (H : Type) (enc : TypeId × Value → H) :
    ReturnsInHanded {} Tryd.checked os 7 .any (fun w args => (Rows.dayformWeeksSpec.pre enc Tryd.prog Tryd.f7 [] false w args ∧ laidMetH Tryd.prog Rows.dayformWeeksRow.laid w) ∧ sizedMet enc Tryd.prog Tryd.f7 (OpenSpec.ofChange Rows.dayformWeeksSpec) false w args)
      (Rows.dayformWeeksSpec.post enc Tryd.prog Tryd.f7 false true false false) := by
  refine handed (C := Tryd.checked) (X := fun w _ => laidMetH Tryd.prog Rows.dayformWeeksRow.laid w) (fun _ _ _ hh h => h.of_heap hh) own started (by kernel_rfl) Tryd.func7
    (ChangeSpec.witness_shaped (enc := enc) (C := Tryd.checked) (os := os) (X := fun w _ => laidMetH Tryd.prog Rows.dayformWeeksRow.laid w) false (World.doorLaid Tryd.prog 400 os) #[.int .u8 0, .int .i32 0, .int .u8 0] 8 rfl (World.shaped_of_RefB (by kernel_rfl) (by kernel_rfl)) (by kernel_rfl) (by kernel_rfl) (by kernel_rfl) (door_met os _)) ?_
  intro W base args ds gs before hval0 hW _ hL hsh
  have hW' := hW
  obtain ⟨p, q, hA, hV, rfl, hfz, hnd⟩ := hW
  obtain ⟨ps0, hv0, _⟩ : laidMet Tryd.prog Rows.dayformWeeksRow.laid W := by rw [← MakeChecks.laidMetH_plain _ _ _ (by kernel_rfl)]; exact hL
  have hG0 : GR (Ax.look glBase) (fun b => b < W.heap.size) W := laid_gr tau_ok (fun b h => h) Rows.dayformWeeksRow.laid ps0 hv0 _ (by kernel_rfl)
  have m0 : Int := 0
  have hG : GR (gl m0) (fun b => b < W.heap.size) W := hG0
  obtain ⟨rfl, rfl⟩ := trodVars_none hV
  have hlen : ds.length = 3 := (trodAll_len _ _ _ _ hA).trans rfl
  obtain ⟨d0, d1, d2, rfl⟩ := len3 hlen
  have hc := law_calls (P := Tryd.prog) (base := base) tau_ok Tryd.func7 (c := code7) (by kernel_rfl) (by kernel_rfl) hA (fun j t v ht hv => hval0 j t v (by simpa using ht) (by simpa using hv)) (params_ok) (by kernel_rfl) (F_law02_DayformWeeks_ok (P := Tryd.prog) (mx := m0)) hG (fun dats h => lawP_DayformWeeks h)
  rw [Array.toArray_toList] at hc
  refine hc.mono fun e W' ⟨he, hg⟩ => ?_
  subst he
  exact ⟨_, rfl, law_post (tb := 4) hW' rfl rfl rfl Tryd.underlying4 (by kernel_rfl) (by kernel_rfl) hg⟩

theorem over : Rows.DayformWeeksSaid :=
  OpenClaim.holds_of_wide 7 Tryd.f7 rfl rfl rfl rfl rfl rfl rfl ⟨rfl, rfl, rfl, rfl, rfl⟩ rfl rfl rfl rfl rfl (by kernel_rfl) Tryd.func7 (by kernel_rfl)
    (of_decide_eq_true (by kernel_rfl)) (by unfold Func.isWrapper; first | (rw [if_pos (by decide +kernel)]; kernel_rfl) | (rw [if_neg (by decide +kernel)]; exact ⟨rfl, rfl⟩))
    (fun os started H enc _ => lifted os started H enc)

theorem proved : Rows.DayformWeeksCardSaid :=
  Claim7.holds_tied_plain_at .later [] [.data] true (true, _) false
    over (fun _ h => by cases h) (by kernel_rfl) (fun _ h => by cases h) dayformWeeks_row_tie rfl ⟨rfl, rfl⟩ (by kernel_rfl) rfl
    (fun f fn hf hfn => by
      obtain rfl : f = 7 := Option.some.inj (fnNamed.symm.trans hf) |>.symm
      obtain rfl : fn = Tryd.f7 := (Option.some.inj (Tryd.func7.symm.trans hfn)).symm
      refine ⟨by kernel_rfl, fun j t ht => ?_⟩
      rw [Tryd.params7] at ht
      have hm : t ∈ ([5, 21, 5] : List Nat) := by
        have := Array.mem_of_getElem? ht
        simpa using this
      have hall : (([5, 21, 5] : List Nat).all fun t => Tryd.prog.wantsStandIn t == false) = true := by kernel_rfl
      exact eq_of_beq (List.all_eq_true.1 hall t hm))
    (by kernel_rfl)
#print axioms proved
end Go.Proofs.YtljbgkfoljjgbaaDoor.pDayformWeeks
