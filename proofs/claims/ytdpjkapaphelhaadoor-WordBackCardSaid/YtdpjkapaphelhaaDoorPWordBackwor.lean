/-
  WordBack: for every input the law returns true; the listed package-level variables are as their initialisers lay them (tied by the card).
-/
import Derived.Test.YtdpjkapaphelhaaDoorTie
import Derived.Test.YtdpjkapaphelhaaDoorCards
import Derived.LaidMore
import Derived.MakeChecks
import Derived.Lib.LaidTab
import Derived.Test.YtdpjkapaphelhaaDoorAx31
import Derived.Test.YtdpjkapaphelhaaDoorTwor
import Derived.Test.YtdpjkapaphelhaaDoorMBakwor
namespace Go.Proofs.YtdpjkapaphelhaaDoor.pWordBack
open Go.ChangeShapes Go.WideShapes Go.ChangeAt Go.RowKit Go.Ax
open Go.Proofs.YtdpjkapaphelhaaDoor
set_option linter.unusedVariables false
set_option maxRecDepth 100000

theorem fnNamed : Tryd.prog.funcNamed "analemma/analemmalaw08.WordBack" = some 12 := by kernel_rfl
theorem own : ownKnob Tryd.prog.godebug = none := by kernel_rfl
def glBase : List (Nat × List AV) := [(1, [.str (.lit [114, 117, 108, 101]), .str (.lit [122, 111, 110, 101]), .str (.lit [108, 105, 110, 107]), .str (.lit [115, 104, 105, 102, 116]), .str (.lit []), .str (.lit []), .str (.lit []), .str (.lit []), .str (.lit []), .str (.lit []), .str (.lit []), .str (.lit [])]), (2, [.str (.lit [106, 97, 110, 117, 97, 114, 121]), .str (.lit [102, 101, 98, 114, 117, 97, 114, 121]), .str (.lit [109, 97, 114, 99, 104]), .str (.lit [97, 112, 114, 105, 108]), .str (.lit [109, 97, 121]), .str (.lit [106, 117, 110, 101]), .str (.lit [106, 117, 108, 121]), .str (.lit [97, 117, 103, 117, 115, 116]), .str (.lit [115, 101, 112, 116, 101, 109, 98, 101, 114]), .str (.lit [111, 99, 116, 111, 98, 101, 114]), .str (.lit [110, 111, 118, 101, 109, 98, 101, 114]), .str (.lit [100, 101, 99, 101, 109, 98, 101, 114])]), (3, [.str (.lit [115, 117, 110, 100, 97, 121]), .str (.lit [109, 111, 110, 100, 97, 121]), .str (.lit [116, 117, 101, 115, 100, 97, 121]), .str (.lit [119, 101, 100, 110, 101, 115, 100, 97, 121]), .str (.lit [116, 104, 117, 114, 115, 100, 97, 121]), .str (.lit [102, 114, 105, 100, 97, 121]), .str (.lit [115, 97, 116, 117, 114, 100, 97, 121]), .str (.lit []), .str (.lit []), .str (.lit []), .str (.lit []), .str (.lit [])]), (4, [.str (.lit [111, 110, 108, 121]), .str (.lit [109, 97, 120, 105, 109, 117, 109]), .str (.lit []), .str (.lit []), .str (.lit []), .str (.lit []), .str (.lit []), .str (.lit []), .str (.lit []), .str (.lit []), .str (.lit []), .str (.lit [])])]
theorem params_ok : params tau Tryd.f12.params.toList = some ([.int .u8, .int .u8, .int .u8, .int .u16], [.int .u8, .int .u8, .int .u8, .int .u16]) := by kernel_rfl
/-- The door's own heap meets the condition. -/
theorem door_met (os : Os) (args : Array Value) : laidMetH Tryd.prog Rows.wordBackRow.laid ((World.doorLaid Tryd.prog 400 os).forCall (fun _ _ => 0) ⟨#[], args, []⟩).memory :=
  laidMetH_of_parts3 (fuel := 8) (laidMet_of_run' 8 (by kernel_rfl) (by kernel_rfl)) (by kernel_rfl) (by kernel_rfl)
theorem lifted (os : Os) (started : os.Started) (H : Type) (enc : TypeId × Value → H) :
    ReturnsInHanded {} Tryd.checked os 12 .any (fun w args => (Rows.wordBackSpec.pre enc Tryd.prog Tryd.f12 [] false w args ∧ laidMetH Tryd.prog Rows.wordBackRow.laid w) ∧ sizedMet enc Tryd.prog Tryd.f12 (OpenSpec.ofChange Rows.wordBackSpec) false w args)
      (Rows.wordBackSpec.post enc Tryd.prog Tryd.f12 false true false false) := by
  refine handed (C := Tryd.checked) (X := fun w _ => laidMetH Tryd.prog Rows.wordBackRow.laid w) (fun _ _ _ hh h => h.of_heap hh) own started (by kernel_rfl) Tryd.func12
    (ChangeSpec.witness_shaped (enc := enc) (C := Tryd.checked) (os := os) (X := fun w _ => laidMetH Tryd.prog Rows.wordBackRow.laid w) false (World.doorLaid Tryd.prog 400 os) #[.int .u8 0, .int .u8 0, .int .u8 0, .int .u16 0] 8 rfl (World.shaped_of_RefB (by kernel_rfl) (by kernel_rfl)) (by kernel_rfl) (by kernel_rfl) (by kernel_rfl) (door_met os _)) ?_
  intro W base args ds gs before hval0 hW _ hL hsh
  have hW' := hW
  obtain ⟨p, q, hA, hV, rfl, hfz, hnd⟩ := hW
  obtain ⟨ps0, hv0, _⟩ : laidMet Tryd.prog Rows.wordBackRow.laid W := by rw [← MakeChecks.laidMetH_plain _ _ _ (by kernel_rfl)]; exact hL
  have hG0 : GR (Ax.look glBase) (fun b => b < W.heap.size) W := laid_gr tau_ok (fun b h => h) Rows.wordBackRow.laid ps0 hv0 _ (by kernel_rfl)
  obtain ⟨m0, hm0, hc0⟩ := shaped_int (zero := #[.int .i64 0]) (k := .i64) (g := 5) (t := 3) hsh (of_decide_eq_true (by kernel_rfl)) (by kernel_rfl) rfl (by kernel_rfl) (by kernel_rfl) Tryd.underlying3
  have hG : GR (gl m0) (fun b => b < W.heap.size) W := gr_add_int hG0 (fun b h => h) hc0 hm0
  obtain ⟨rfl, rfl⟩ := trodVars_none hV
  have hlen : ds.length = 4 := (trodAll_len _ _ _ _ hA).trans rfl
  obtain ⟨d0, d1, d2, d3, rfl⟩ := len4 hlen
  have hc := law_calls (P := Tryd.prog) (base := base) tau_ok Tryd.func12 (c := code12) (by kernel_rfl) (by kernel_rfl) hA (fun j t v ht hv => hval0 j t v (by simpa using ht) (by simpa using hv)) (params_ok) (by kernel_rfl) (F_law08_WordBack_ok (P := Tryd.prog) (mx := m0)) hG (fun dats h => lawP_WordBack h)
  rw [Array.toArray_toList] at hc
  refine hc.mono fun e W' ⟨he, hg⟩ => ?_
  subst he
  exact ⟨_, rfl, law_post (tb := 4) hW' rfl rfl rfl Tryd.underlying4 (by kernel_rfl) (by kernel_rfl) hg⟩

theorem over : Rows.WordBackSaid :=
  OpenClaim.holds_of_wide 12 Tryd.f12 rfl rfl rfl rfl rfl rfl rfl ⟨rfl, rfl, rfl, rfl, rfl⟩ rfl rfl rfl rfl rfl (by kernel_rfl) Tryd.func12 (by kernel_rfl)
    (of_decide_eq_true (by kernel_rfl)) (by unfold Func.isWrapper; first | (rw [if_pos (by decide +kernel)]; kernel_rfl) | (rw [if_neg (by decide +kernel)]; exact ⟨rfl, rfl⟩))
    (fun os started H enc _ => lifted os started H enc)

theorem proved : Rows.WordBackCardSaid :=
  Claim7.holds_tied_plain_at .later [] [.data, .data, .data, .data] true (true, _) false
    over (fun _ h => by cases h) (by kernel_rfl) (fun _ h => by cases h) wordBack_row_tie rfl ⟨rfl, rfl⟩ (by kernel_rfl) rfl
    (fun f fn hf hfn => by
      obtain rfl : f = 12 := Option.some.inj (fnNamed.symm.trans hf) |>.symm
      obtain rfl : fn = Tryd.f12 := (Option.some.inj (Tryd.func12.symm.trans hfn)).symm
      refine ⟨by kernel_rfl, fun j t ht => ?_⟩
      rw [Tryd.params12] at ht
      have hm : t ∈ ([5, 5, 5, 47] : List Nat) := by
        have := Array.mem_of_getElem? ht
        simpa using this
      have hall : (([5, 5, 5, 47] : List Nat).all fun t => Tryd.prog.wantsStandIn t == false) = true := by kernel_rfl
      exact eq_of_beq (List.all_eq_true.1 hall t hm))
    (by kernel_rfl)
#print axioms proved
end Go.Proofs.YtdpjkapaphelhaaDoor.pWordBack
