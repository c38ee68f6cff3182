/-
  ClockLetters: for every input the law returns true; the listed package-level variables are as their initialisers lay them (tied by the card).
-/
import Derived.Test.YtnfgmffcnmifkaaDoorTie
import Derived.Test.YtnfgmffcnmifkaaDoorCards
import Derived.LaidMore
import Derived.MakeChecks
import Derived.Lib.LaidTab
import Derived.Test.YtnfgmffcnmifkaaDoorAx31
import Derived.Test.YtnfgmffcnmifkaaDoorTclo
import Derived.Test.YtnfgmffcnmifkaaDoorMClockBclo
namespace Go.Proofs.YtnfgmffcnmifkaaDoor.pClockLetters
open Go.ChangeShapes Go.WideShapes Go.ChangeAt Go.RowKit Go.Ax
open Go.Proofs.YtnfgmffcnmifkaaDoor
set_option linter.unusedVariables false
set_option maxRecDepth 100000

theorem fnNamed : Tryd.prog.funcNamed "analemma/analemmalaw06.ClockLetters" = some 7 := by kernel_rfl
theorem own : ownKnob Tryd.prog.godebug = none := by kernel_rfl
def glBase : List (Nat × List AV) := [(3, [.int .u8 (.lit 0), .int .u8 (.lit 1), .int .u8 (.lit 28), .int .u8 (.lit 2), .int .u8 (.lit 29), .int .u8 (.lit 14), .int .u8 (.lit 24), .int .u8 (.lit 3), .int .u8 (.lit 30), .int .u8 (.lit 22), .int .u8 (.lit 20), .int .u8 (.lit 15), .int .u8 (.lit 25), .int .u8 (.lit 17), .int .u8 (.lit 4), .int .u8 (.lit 8), .int .u8 (.lit 31), .int .u8 (.lit 27), .int .u8 (.lit 13), .int .u8 (.lit 23), .int .u8 (.lit 21), .int .u8 (.lit 19), .int .u8 (.lit 16), .int .u8 (.lit 7), .int .u8 (.lit 26), .int .u8 (.lit 12), .int .u8 (.lit 18), .int .u8 (.lit 6), .int .u8 (.lit 11), .int .u8 (.lit 5), .int .u8 (.lit 10), .int .u8 (.lit 9)]), (4, [.int .u8 (.lit 0), .int .u8 (.lit 1), .int .u8 (.lit 56), .int .u8 (.lit 2), .int .u8 (.lit 57), .int .u8 (.lit 49), .int .u8 (.lit 28), .int .u8 (.lit 3), .int .u8 (.lit 61), .int .u8 (.lit 58), .int .u8 (.lit 42), .int .u8 (.lit 50), .int .u8 (.lit 38), .int .u8 (.lit 29), .int .u8 (.lit 17), .int .u8 (.lit 4), .int .u8 (.lit 62), .int .u8 (.lit 47), .int .u8 (.lit 59), .int .u8 (.lit 36), .int .u8 (.lit 45), .int .u8 (.lit 43), .int .u8 (.lit 51), .int .u8 (.lit 22), .int .u8 (.lit 53), .int .u8 (.lit 39), .int .u8 (.lit 33), .int .u8 (.lit 30), .int .u8 (.lit 24), .int .u8 (.lit 18), .int .u8 (.lit 12), .int .u8 (.lit 5), .int .u8 (.lit 63), .int .u8 (.lit 55), .int .u8 (.lit 48), .int .u8 (.lit 27), .int .u8 (.lit 60), .int .u8 (.lit 41), .int .u8 (.lit 37), .int .u8 (.lit 16), .int .u8 (.lit 46), .int .u8 (.lit 35), .int .u8 (.lit 44), .int .u8 (.lit 21), .int .u8 (.lit 52), .int .u8 (.lit 32), .int .u8 (.lit 23), .int .u8 (.lit 11), .int .u8 (.lit 54), .int .u8 (.lit 26), .int .u8 (.lit 40), .int .u8 (.lit 15), .int .u8 (.lit 34), .int .u8 (.lit 20), .int .u8 (.lit 31), .int .u8 (.lit 10), .int .u8 (.lit 25), .int .u8 (.lit 14), .int .u8 (.lit 19), .int .u8 (.lit 9), .int .u8 (.lit 13), .int .u8 (.lit 8), .int .u8 (.lit 7), .int .u8 (.lit 6)]), (2, [.int .u64 (.lit 1), .int .u64 (.lit 10), .int .u64 (.lit 100), .int .u64 (.lit 1000), .int .u64 (.lit 10000), .int .u64 (.lit 100000), .int .u64 (.lit 1000000), .int .u64 (.lit 10000000), .int .u64 (.lit 100000000), .int .u64 (.lit 1000000000), .int .u64 (.lit 10000000000), .int .u64 (.lit 100000000000), .int .u64 (.lit 1000000000000), .int .u64 (.lit 10000000000000), .int .u64 (.lit 100000000000000), .int .u64 (.lit 1000000000000000), .int .u64 (.lit 10000000000000000), .int .u64 (.lit 100000000000000000), .int .u64 (.lit 1000000000000000000), .int .u64 (.lit 10000000000000000000)]), (1, [.int .i64 (.lit 3600), .int .i64 (.lit 60), .int .i64 (.lit 1)]), (0, [.str (.lit [119]), .str (.lit [115]), .str (.lit [103, 122, 117])])]
theorem params_ok : params tau Tryd.f7.params.toList = some ([.int .i32, .int .u8], [.int .i32, .int .u8]) := by kernel_rfl
/-- The door's own heap meets the condition. -/
theorem door_met (os : Os) (args : Array Value) : laidMetH Tryd.prog Rows.clockLettersRow.laid ((World.doorLaid Tryd.prog 400 os).forCall (fun _ _ => 0) ⟨#[], args, []⟩).memory :=
  laidMetH_of_parts3 (fuel := 8) (laidMet_of_run' 8 (by kernel_rfl) (by kernel_rfl)) (by kernel_rfl) (by kernel_rfl)
theorem lifted (os : Os) (started : os.Started) (H : Type) (enc : TypeId × Value → H) :
    ReturnsInHanded {} Tryd.checked os 7 .any (fun w args => (Rows.clockLettersSpec.pre enc Tryd.prog Tryd.f7 [] false w args ∧ laidMetH Tryd.prog Rows.clockLettersRow.laid w) ∧ sizedMet enc Tryd.prog Tryd.f7 (OpenSpec.ofChange Rows.clockLettersSpec) false w args)
      (Rows.clockLettersSpec.post enc Tryd.prog Tryd.f7 false true false false) := by
  refine handed (C := Tryd.checked) (X := fun w _ => laidMetH Tryd.prog Rows.clockLettersRow.laid w) (fun _ _ _ hh h => h.of_heap hh) own started (by kernel_rfl) Tryd.func7
    (ChangeSpec.witness_shaped (enc := enc) (C := Tryd.checked) (os := os) (X := fun w _ => laidMetH Tryd.prog Rows.clockLettersRow.laid w) false (World.doorLaid Tryd.prog 400 os) #[.int .i32 0, .int .u8 0] 8 rfl (World.shaped_of_RefB (by kernel_rfl) (by kernel_rfl)) (by kernel_rfl) (by kernel_rfl) (by kernel_rfl) (door_met os _)) ?_
  intro W base args ds gs before hval0 hW _ hL hsh
  have hW' := hW
  obtain ⟨p, q, hA, hV, rfl, hfz, hnd⟩ := hW
  obtain ⟨ps0, hv0, _⟩ : laidMet Tryd.prog Rows.clockLettersRow.laid W := by rw [← MakeChecks.laidMetH_plain _ _ _ (by kernel_rfl)]; exact hL
  have hG0 : GR (Ax.look glBase) (fun b => b < W.heap.size) W := laid_gr tau_ok (fun b h => h) Rows.clockLettersRow.laid ps0 hv0 _ (by kernel_rfl)
  have m0 : Int := 0
  have hG : GR (gl m0) (fun b => b < W.heap.size) W := hG0
  obtain ⟨rfl, rfl⟩ := trodVars_none hV
  have hlen : ds.length = 2 := (trodAll_len _ _ _ _ hA).trans rfl
  obtain ⟨d0, d1, rfl⟩ := len2 hlen
  have hc := law_calls (P := Tryd.prog) (base := base) tau_ok Tryd.func7 (c := code7) (by kernel_rfl) (by kernel_rfl) hA (fun j t v ht hv => hval0 j t v (by simpa using ht) (by simpa using hv)) (params_ok) (by kernel_rfl) (F_law06_ClockLetters_ok (P := Tryd.prog) (mx := m0)) hG (fun dats h => lawP_ClockLetters h)
  rw [Array.toArray_toList] at hc
  refine hc.mono fun e W' ⟨he, hg⟩ => ?_
  subst he
  exact ⟨_, rfl, law_post (tb := 4) hW' rfl rfl rfl Tryd.underlying4 (by kernel_rfl) (by kernel_rfl) hg⟩

theorem over : Rows.ClockLettersSaid :=
  OpenClaim.holds_of_wide 7 Tryd.f7 rfl rfl rfl rfl rfl rfl rfl ⟨rfl, rfl, rfl, rfl, rfl⟩ rfl rfl rfl rfl rfl (by kernel_rfl) Tryd.func7 (by kernel_rfl)
    (of_decide_eq_true (by kernel_rfl)) (by unfold Func.isWrapper; first | (rw [if_pos (by decide +kernel)]; kernel_rfl) | (rw [if_neg (by decide +kernel)]; exact ⟨rfl, rfl⟩))
    (fun os started H enc _ => lifted os started H enc)

theorem proved : Rows.ClockLettersCardSaid :=
  Claim7.holds_tied_plain_at .later [] [.data, .data, .data, .data, .data] true (true, _) false
    over (fun _ h => by cases h) (by kernel_rfl) (fun _ h => by cases h) clockLetters_row_tie rfl ⟨rfl, rfl⟩ (by kernel_rfl) rfl
    (fun f fn hf hfn => by
      obtain rfl : f = 7 := Option.some.inj (fnNamed.symm.trans hf) |>.symm
      obtain rfl : fn = Tryd.f7 := (Option.some.inj (Tryd.func7.symm.trans hfn)).symm
      refine ⟨by kernel_rfl, fun j t ht => ?_⟩
      rw [Tryd.params7] at ht
      have hm : t ∈ ([21, 5] : List Nat) := by
        have := Array.mem_of_getElem? ht
        simpa using this
      have hall : (([21, 5] : List Nat).all fun t => Tryd.prog.wantsStandIn t == false) = true := by kernel_rfl
      exact eq_of_beq (List.all_eq_true.1 hall t hm))
    (by kernel_rfl)
#print axioms proved
end Go.Proofs.YtnfgmffcnmifkaaDoor.pClockLetters
