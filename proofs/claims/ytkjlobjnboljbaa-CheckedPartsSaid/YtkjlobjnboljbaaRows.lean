/-
  No cell of these rows narrows 'for every input' (looked for: loops, veiled, ifaces, maps, wideKeys, modest, calm, conditions, laid).
  DERIVED. THE GIVEN ROWS OF THIS SEAT. 12 by the template 'for every input the law returns true; each argument reads behind the call as it read before'; 0 by the template 'total and deterministic' (their statements: YtkjlobjnboljbaaTotals.lean).
  GIVEN WITH THE SEED: the statements are not yours to turn. If you find one false, say at which input.
  Laid BY PROGRAM, IN A SANDBOX (cutbox-rows.mjs): the forced cells as the released guide's own fill.sh prints them over the translation 4639455016415c3e… (all of the seat's roots in one cut). By AI agents, Wed Nov 11 2026. No macro, syntax, notation, axiom, sorry.
-/
import Derived.Test.YtkjlobjnboljbaaChecked
import GoSem.Claim
import GoSem.ClaimJoined
import GoSem.ClaimMapViews
import Derived.JoinedTies
import Derived.KernelRfl
namespace Go.Proofs.Ytkjlobjnboljbaa
/- THE CELL 'sum', in the pinned program and in every row, IS THE sha256 OF THE DUMP (.gsa) THAT YtkjlobjnboljbaaProg.lean LOADS. Nothing in Lean hashes anything: it is a label: what it is worth is what the hold of that sum in a sandbox is worth. -/
noncomputable def Try.pinned : Pinned := { name := "ytkjlobjnboljbaa", sum := "4639455016415c3e30129b7fb58dfa6aaa63b5b1db26649328152a4f369b572b", checked := Try.checked }
namespace Rows
def none {H : Type} : Left H := { results := [], args := [] }

/-- 'analemmalaw03.CheckedTwo': WHATEVER THE INPUT: true; the input reads as it did. -/
def checkedTwoSpec : ChangeSpec := { name := "checkedTwo", fn := fun _ => fun
  | [d1, d2] => { results := [.lit (.bool true)], args := [d1, d2] }
  | _ => none }
def checkedTwoRow : OpenClaim := { program := "ytkjlobjnboljbaa", sum := "4639455016415c3e30129b7fb58dfa6aaa63b5b1db26649328152a4f369b572b", func := "analemma/analemmalaw03.CheckedTwo", spec := "checkedTwo", unfollowed := true, recurses := true, apart := false }
def CheckedTwoSaid : Prop := checkedTwoRow.holds Try.pinned (OpenSpec.ofChange checkedTwoSpec)

/-- ITS FALSE NEIGHBOUR: 'it returns false'. Refute it at one input. -/
def checkedTwoWrong : ChangeSpec := { name := "checkedTwo", fn := fun _ => fun
  | [d1, d2] => { results := [.lit (.bool false)], args := [d1, d2] }
  | _ => none }
def CheckedTwoWrongFalsely : Prop := checkedTwoRow.holds Try.pinned (OpenSpec.ofChange checkedTwoWrong)

/-- 'analemmalaw03.CheckedSums': WHATEVER THE INPUT: true; the input reads as it did. -/
def checkedSumsSpec : ChangeSpec := { name := "checkedSums", fn := fun _ => fun
  | [d] => { results := [.lit (.bool true)], args := [d] }
  | _ => none }
def checkedSumsRow : OpenClaim := { program := "ytkjlobjnboljbaa", sum := "4639455016415c3e30129b7fb58dfa6aaa63b5b1db26649328152a4f369b572b", func := "analemma/analemmalaw03.CheckedSums", spec := "checkedSums", unfollowed := true, recurses := true, apart := false }
def CheckedSumsSaid : Prop := checkedSumsRow.holds Try.pinned (OpenSpec.ofChange checkedSumsSpec)

/-- ITS FALSE NEIGHBOUR: 'it returns false'. Refute it at one input. -/
def checkedSumsWrong : ChangeSpec := { name := "checkedSums", fn := fun _ => fun
  | [d] => { results := [.lit (.bool false)], args := [d] }
  | _ => none }
def CheckedSumsWrongFalsely : Prop := checkedSumsRow.holds Try.pinned (OpenSpec.ofChange checkedSumsWrong)

/-- 'analemmalaw03.CheckedBack': WHATEVER THE INPUT: true; the input reads as it did. -/
def checkedBackSpec : ChangeSpec := { name := "checkedBack", fn := fun _ => fun
  | [d1, d2] => { results := [.lit (.bool true)], args := [d1, d2] }
  | _ => none }
def checkedBackRow : OpenClaim := { program := "ytkjlobjnboljbaa", sum := "4639455016415c3e30129b7fb58dfa6aaa63b5b1db26649328152a4f369b572b", func := "analemma/analemmalaw03.CheckedBack", spec := "checkedBack", unfollowed := true, recurses := true, apart := false }
def CheckedBackSaid : Prop := checkedBackRow.holds Try.pinned (OpenSpec.ofChange checkedBackSpec)

/-- ITS FALSE NEIGHBOUR: 'it returns false'. Refute it at one input. -/
def checkedBackWrong : ChangeSpec := { name := "checkedBack", fn := fun _ => fun
  | [d1, d2] => { results := [.lit (.bool false)], args := [d1, d2] }
  | _ => none }
def CheckedBackWrongFalsely : Prop := checkedBackRow.holds Try.pinned (OpenSpec.ofChange checkedBackWrong)

/-- 'analemmalaw03.CheckedJust': WHATEVER THE INPUT: true; the input reads as it did. -/
def checkedJustSpec : ChangeSpec := { name := "checkedJust", fn := fun _ => fun
  | [d1, d2] => { results := [.lit (.bool true)], args := [d1, d2] }
  | _ => none }
def checkedJustRow : OpenClaim := { program := "ytkjlobjnboljbaa", sum := "4639455016415c3e30129b7fb58dfa6aaa63b5b1db26649328152a4f369b572b", func := "analemma/analemmalaw03.CheckedJust", spec := "checkedJust", unfollowed := true, recurses := true, apart := false }
def CheckedJustSaid : Prop := checkedJustRow.holds Try.pinned (OpenSpec.ofChange checkedJustSpec)

/-- ITS FALSE NEIGHBOUR: 'it returns false'. Refute it at one input. -/
def checkedJustWrong : ChangeSpec := { name := "checkedJust", fn := fun _ => fun
  | [d1, d2] => { results := [.lit (.bool false)], args := [d1, d2] }
  | _ => none }
def CheckedJustWrongFalsely : Prop := checkedJustRow.holds Try.pinned (OpenSpec.ofChange checkedJustWrong)

/-- 'analemmalaw03.CheckedSteps': WHATEVER THE INPUT: true; the input reads as it did. -/
def checkedStepsSpec : ChangeSpec := { name := "checkedSteps", fn := fun _ => fun
  | [d1, d2, d3] => { results := [.lit (.bool true)], args := [d1, d2, d3] }
  | _ => none }
def checkedStepsRow : OpenClaim := { program := "ytkjlobjnboljbaa", sum := "4639455016415c3e30129b7fb58dfa6aaa63b5b1db26649328152a4f369b572b", func := "analemma/analemmalaw03.CheckedSteps", spec := "checkedSteps", unfollowed := true, recurses := true, apart := false }
def CheckedStepsSaid : Prop := checkedStepsRow.holds Try.pinned (OpenSpec.ofChange checkedStepsSpec)

/-- ITS FALSE NEIGHBOUR: 'it returns false'. Refute it at one input. -/
def checkedStepsWrong : ChangeSpec := { name := "checkedSteps", fn := fun _ => fun
  | [d1, d2, d3] => { results := [.lit (.bool false)], args := [d1, d2, d3] }
  | _ => none }
def CheckedStepsWrongFalsely : Prop := checkedStepsRow.holds Try.pinned (OpenSpec.ofChange checkedStepsWrong)

/-- 'analemmalaw03.CheckedParts': WHATEVER THE INPUT: true; the input reads as it did. -/
def checkedPartsSpec : ChangeSpec := { name := "checkedParts", fn := fun _ => fun
  | [d] => { results := [.lit (.bool true)], args := [d] }
  | _ => none }
def checkedPartsRow : OpenClaim := { program := "ytkjlobjnboljbaa", sum := "4639455016415c3e30129b7fb58dfa6aaa63b5b1db26649328152a4f369b572b", func := "analemma/analemmalaw03.CheckedParts", spec := "checkedParts", unfollowed := true, recurses := true, apart := false }
def CheckedPartsSaid : Prop := checkedPartsRow.holds Try.pinned (OpenSpec.ofChange checkedPartsSpec)

/-- ITS FALSE NEIGHBOUR: 'it returns false'. Refute it at one input. -/
def checkedPartsWrong : ChangeSpec := { name := "checkedParts", fn := fun _ => fun
  | [d] => { results := [.lit (.bool false)], args := [d] }
  | _ => none }
def CheckedPartsWrongFalsely : Prop := checkedPartsRow.holds Try.pinned (OpenSpec.ofChange checkedPartsWrong)

/-- 'analemmalaw28.ShiftSets': WHATEVER THE INPUT: true; the input reads as it did. -/
def shiftSetsSpec : ChangeSpec := { name := "shiftSets", fn := fun _ => fun
  | [d1, d2, d3] => { results := [.lit (.bool true)], args := [d1, d2, d3] }
  | _ => none }
def shiftSetsRow : OpenClaim := { program := "ytkjlobjnboljbaa", sum := "4639455016415c3e30129b7fb58dfa6aaa63b5b1db26649328152a4f369b572b", func := "analemma/analemmalaw28.ShiftSets", spec := "shiftSets", unfollowed := true, recurses := true, apart := false }
def ShiftSetsSaid : Prop := shiftSetsRow.holds Try.pinned (OpenSpec.ofChange shiftSetsSpec)

/-- ITS FALSE NEIGHBOUR: 'it returns false'. Refute it at one input. -/
def shiftSetsWrong : ChangeSpec := { name := "shiftSets", fn := fun _ => fun
  | [d1, d2, d3] => { results := [.lit (.bool false)], args := [d1, d2, d3] }
  | _ => none }
def ShiftSetsWrongFalsely : Prop := shiftSetsRow.holds Try.pinned (OpenSpec.ofChange shiftSetsWrong)

/-- 'analemmalaw28.ShiftBack': WHATEVER THE INPUT: true; the input reads as it did. -/
def shiftBackSpec : ChangeSpec := { name := "shiftBack", fn := fun _ => fun
  | [d1, d2, d3, d4] => { results := [.lit (.bool true)], args := [d1, d2, d3, d4] }
  | _ => none }
def shiftBackRow : OpenClaim := { program := "ytkjlobjnboljbaa", sum := "4639455016415c3e30129b7fb58dfa6aaa63b5b1db26649328152a4f369b572b", func := "analemma/analemmalaw28.ShiftBack", spec := "shiftBack", unfollowed := true, recurses := true, apart := false }
def ShiftBackSaid : Prop := shiftBackRow.holds Try.pinned (OpenSpec.ofChange shiftBackSpec)

/-- ITS FALSE NEIGHBOUR: 'it returns false'. Refute it at one input. -/
def shiftBackWrong : ChangeSpec := { name := "shiftBack", fn := fun _ => fun
  | [d1, d2, d3, d4] => { results := [.lit (.bool false)], args := [d1, d2, d3, d4] }
  | _ => none }
def ShiftBackWrongFalsely : Prop := shiftBackRow.holds Try.pinned (OpenSpec.ofChange shiftBackWrong)

/-- 'analemmalaw28.ShiftSums': WHATEVER THE INPUT: true; the input reads as it did. -/
def shiftSumsSpec : ChangeSpec := { name := "shiftSums", fn := fun _ => fun
  | [d1, d2, d3] => { results := [.lit (.bool true)], args := [d1, d2, d3] }
  | _ => none }
def shiftSumsRow : OpenClaim := { program := "ytkjlobjnboljbaa", sum := "4639455016415c3e30129b7fb58dfa6aaa63b5b1db26649328152a4f369b572b", func := "analemma/analemmalaw28.ShiftSums", spec := "shiftSums", unfollowed := true, recurses := true, apart := false }
def ShiftSumsSaid : Prop := shiftSumsRow.holds Try.pinned (OpenSpec.ofChange shiftSumsSpec)

/-- ITS FALSE NEIGHBOUR: 'it returns false'. Refute it at one input. -/
def shiftSumsWrong : ChangeSpec := { name := "shiftSums", fn := fun _ => fun
  | [d1, d2, d3] => { results := [.lit (.bool false)], args := [d1, d2, d3] }
  | _ => none }
def ShiftSumsWrongFalsely : Prop := shiftSumsRow.holds Try.pinned (OpenSpec.ofChange shiftSumsWrong)

/-- 'analemmalaw28.ShiftOrders': WHATEVER THE INPUT: true; the input reads as it did. -/
def shiftOrdersSpec : ChangeSpec := { name := "shiftOrders", fn := fun _ => fun
  | [d1, d2, d3, d4, d5] => { results := [.lit (.bool true)], args := [d1, d2, d3, d4, d5] }
  | _ => none }
def shiftOrdersRow : OpenClaim := { program := "ytkjlobjnboljbaa", sum := "4639455016415c3e30129b7fb58dfa6aaa63b5b1db26649328152a4f369b572b", func := "analemma/analemmalaw28.ShiftOrders", spec := "shiftOrders", unfollowed := true, recurses := true, apart := false }
def ShiftOrdersSaid : Prop := shiftOrdersRow.holds Try.pinned (OpenSpec.ofChange shiftOrdersSpec)

/-- ITS FALSE NEIGHBOUR: 'it returns false'. Refute it at one input. -/
def shiftOrdersWrong : ChangeSpec := { name := "shiftOrders", fn := fun _ => fun
  | [d1, d2, d3, d4, d5] => { results := [.lit (.bool false)], args := [d1, d2, d3, d4, d5] }
  | _ => none }
def ShiftOrdersWrongFalsely : Prop := shiftOrdersRow.holds Try.pinned (OpenSpec.ofChange shiftOrdersWrong)

/-- 'analemmalaw28.ShiftApart': WHATEVER THE INPUT: true; the input reads as it did. -/
def shiftApartSpec : ChangeSpec := { name := "shiftApart", fn := fun _ => fun
  | [d1, d2, d3] => { results := [.lit (.bool true)], args := [d1, d2, d3] }
  | _ => none }
def shiftApartRow : OpenClaim := { program := "ytkjlobjnboljbaa", sum := "4639455016415c3e30129b7fb58dfa6aaa63b5b1db26649328152a4f369b572b", func := "analemma/analemmalaw28.ShiftApart", spec := "shiftApart", unfollowed := true, recurses := true, apart := false }
def ShiftApartSaid : Prop := shiftApartRow.holds Try.pinned (OpenSpec.ofChange shiftApartSpec)

/-- ITS FALSE NEIGHBOUR: 'it returns false'. Refute it at one input. -/
def shiftApartWrong : ChangeSpec := { name := "shiftApart", fn := fun _ => fun
  | [d1, d2, d3] => { results := [.lit (.bool false)], args := [d1, d2, d3] }
  | _ => none }
def ShiftApartWrongFalsely : Prop := shiftApartRow.holds Try.pinned (OpenSpec.ofChange shiftApartWrong)

/-- 'analemmalaw28.ShiftOthers': WHATEVER THE INPUT: true; the input reads as it did. -/
def shiftOthersSpec : ChangeSpec := { name := "shiftOthers", fn := fun _ => fun
  | [d1, d2, d3, d4] => { results := [.lit (.bool true)], args := [d1, d2, d3, d4] }
  | _ => none }
def shiftOthersRow : OpenClaim := { program := "ytkjlobjnboljbaa", sum := "4639455016415c3e30129b7fb58dfa6aaa63b5b1db26649328152a4f369b572b", func := "analemma/analemmalaw28.ShiftOthers", spec := "shiftOthers", unfollowed := true, recurses := true, apart := false }
def ShiftOthersSaid : Prop := shiftOthersRow.holds Try.pinned (OpenSpec.ofChange shiftOthersSpec)

/-- ITS FALSE NEIGHBOUR: 'it returns false'. Refute it at one input. -/
def shiftOthersWrong : ChangeSpec := { name := "shiftOthers", fn := fun _ => fun
  | [d1, d2, d3, d4] => { results := [.lit (.bool false)], args := [d1, d2, d3, d4] }
  | _ => none }
def ShiftOthersWrongFalsely : Prop := shiftOthersRow.holds Try.pinned (OpenSpec.ofChange shiftOthersWrong)

/- THE SECOND FORM. 'bulk': how many values and letters a reading holds, each counted each time it is reached (what is shared counts as often as it is met; a slice's spare places count too). A statement '..UptoSaid' is the law's where the arguments, and the package variables that the reading takes, are together of bulk at most 1048576: NARROWER than '..Said'. Prove '..Said' where nothing that the law and all that it calls make is longer than what came in: it says more and counts as full. Else prove '..UptoSaid'. A law counts once. -/
mutual
def uptoBulk {H : Type} : DataW H → Nat
  | .lit (.string bytes) => bytes.length + 1
  | .lit _ => 1
  | .nil => 1
  | .ptr d => uptoBulk d + 1
  | .slice elems spare => uptoBulkAll elems + uptoBulkAll spare + 1
  | .agg parts => uptoBulkAll parts + 1
  | .iface _ d => uptoBulk d + 1
  | .map entries => uptoBulkEntries entries + 1
  | .held _ => 1
def uptoBulkAll {H : Type} : List (DataW H) → Nat
  | [] => 0
  | d :: r => uptoBulk d + uptoBulkAll r
def uptoBulkEntries {H : Type} : List (Lit × DataW H) → Nat
  | [] => 0
  | x :: r => uptoBulkEntry x + uptoBulkEntries r
def uptoBulkEntry {H : Type} : Lit × DataW H → Nat
  | (.string bytes, d) => bytes.length + uptoBulk d + 1
  | (_, d) => uptoBulk d + 1
 end
def uptoSmall : (H : Type) → List (DataW H) → Bool := fun _ ds => decide (uptoBulkAll ds ≤ 1048576)
def OpenSpec.upto (s : _root_.Go.ChangeSpec) : _root_.Go.OpenSpec := { _root_.Go.OpenSpec.ofChange s with cond := some uptoSmall }

/-- 'analemmalaw03.CheckedTwo', WHERE WHAT IT READS IS OF BULK AT MOST 1048576: true; the input reads as it did. -/
def checkedTwoUptoRow : OpenClaim := { program := "ytkjlobjnboljbaa", sum := "4639455016415c3e30129b7fb58dfa6aaa63b5b1db26649328152a4f369b572b", func := "analemma/analemmalaw03.CheckedTwo", spec := "checkedTwo", unfollowed := true, recurses := true, apart := false, narrowed := true }
def CheckedTwoUptoSaid : Prop := checkedTwoUptoRow.holds Try.pinned (OpenSpec.upto checkedTwoSpec)

/-- 'analemmalaw03.CheckedSums', WHERE WHAT IT READS IS OF BULK AT MOST 1048576: true; the input reads as it did. -/
def checkedSumsUptoRow : OpenClaim := { program := "ytkjlobjnboljbaa", sum := "4639455016415c3e30129b7fb58dfa6aaa63b5b1db26649328152a4f369b572b", func := "analemma/analemmalaw03.CheckedSums", spec := "checkedSums", unfollowed := true, recurses := true, apart := false, narrowed := true }
def CheckedSumsUptoSaid : Prop := checkedSumsUptoRow.holds Try.pinned (OpenSpec.upto checkedSumsSpec)

/-- 'analemmalaw03.CheckedBack', WHERE WHAT IT READS IS OF BULK AT MOST 1048576: true; the input reads as it did. -/
def checkedBackUptoRow : OpenClaim := { program := "ytkjlobjnboljbaa", sum := "4639455016415c3e30129b7fb58dfa6aaa63b5b1db26649328152a4f369b572b", func := "analemma/analemmalaw03.CheckedBack", spec := "checkedBack", unfollowed := true, recurses := true, apart := false, narrowed := true }
def CheckedBackUptoSaid : Prop := checkedBackUptoRow.holds Try.pinned (OpenSpec.upto checkedBackSpec)

/-- 'analemmalaw03.CheckedJust', WHERE WHAT IT READS IS OF BULK AT MOST 1048576: true; the input reads as it did. -/
def checkedJustUptoRow : OpenClaim := { program := "ytkjlobjnboljbaa", sum := "4639455016415c3e30129b7fb58dfa6aaa63b5b1db26649328152a4f369b572b", func := "analemma/analemmalaw03.CheckedJust", spec := "checkedJust", unfollowed := true, recurses := true, apart := false, narrowed := true }
def CheckedJustUptoSaid : Prop := checkedJustUptoRow.holds Try.pinned (OpenSpec.upto checkedJustSpec)

/-- 'analemmalaw03.CheckedSteps', WHERE WHAT IT READS IS OF BULK AT MOST 1048576: true; the input reads as it did. -/
def checkedStepsUptoRow : OpenClaim := { program := "ytkjlobjnboljbaa", sum := "4639455016415c3e30129b7fb58dfa6aaa63b5b1db26649328152a4f369b572b", func := "analemma/analemmalaw03.CheckedSteps", spec := "checkedSteps", unfollowed := true, recurses := true, apart := false, narrowed := true }
def CheckedStepsUptoSaid : Prop := checkedStepsUptoRow.holds Try.pinned (OpenSpec.upto checkedStepsSpec)

/-- 'analemmalaw03.CheckedParts', WHERE WHAT IT READS IS OF BULK AT MOST 1048576: true; the input reads as it did. -/
def checkedPartsUptoRow : OpenClaim := { program := "ytkjlobjnboljbaa", sum := "4639455016415c3e30129b7fb58dfa6aaa63b5b1db26649328152a4f369b572b", func := "analemma/analemmalaw03.CheckedParts", spec := "checkedParts", unfollowed := true, recurses := true, apart := false, narrowed := true }
def CheckedPartsUptoSaid : Prop := checkedPartsUptoRow.holds Try.pinned (OpenSpec.upto checkedPartsSpec)

/-- 'analemmalaw28.ShiftSets', WHERE WHAT IT READS IS OF BULK AT MOST 1048576: true; the input reads as it did. -/
def shiftSetsUptoRow : OpenClaim := { program := "ytkjlobjnboljbaa", sum := "4639455016415c3e30129b7fb58dfa6aaa63b5b1db26649328152a4f369b572b", func := "analemma/analemmalaw28.ShiftSets", spec := "shiftSets", unfollowed := true, recurses := true, apart := false, narrowed := true }
def ShiftSetsUptoSaid : Prop := shiftSetsUptoRow.holds Try.pinned (OpenSpec.upto shiftSetsSpec)

/-- 'analemmalaw28.ShiftBack', WHERE WHAT IT READS IS OF BULK AT MOST 1048576: true; the input reads as it did. -/
def shiftBackUptoRow : OpenClaim := { program := "ytkjlobjnboljbaa", sum := "4639455016415c3e30129b7fb58dfa6aaa63b5b1db26649328152a4f369b572b", func := "analemma/analemmalaw28.ShiftBack", spec := "shiftBack", unfollowed := true, recurses := true, apart := false, narrowed := true }
def ShiftBackUptoSaid : Prop := shiftBackUptoRow.holds Try.pinned (OpenSpec.upto shiftBackSpec)

/-- 'analemmalaw28.ShiftSums', WHERE WHAT IT READS IS OF BULK AT MOST 1048576: true; the input reads as it did. -/
def shiftSumsUptoRow : OpenClaim := { program := "ytkjlobjnboljbaa", sum := "4639455016415c3e30129b7fb58dfa6aaa63b5b1db26649328152a4f369b572b", func := "analemma/analemmalaw28.ShiftSums", spec := "shiftSums", unfollowed := true, recurses := true, apart := false, narrowed := true }
def ShiftSumsUptoSaid : Prop := shiftSumsUptoRow.holds Try.pinned (OpenSpec.upto shiftSumsSpec)

/-- 'analemmalaw28.ShiftOrders', WHERE WHAT IT READS IS OF BULK AT MOST 1048576: true; the input reads as it did. -/
def shiftOrdersUptoRow : OpenClaim := { program := "ytkjlobjnboljbaa", sum := "4639455016415c3e30129b7fb58dfa6aaa63b5b1db26649328152a4f369b572b", func := "analemma/analemmalaw28.ShiftOrders", spec := "shiftOrders", unfollowed := true, recurses := true, apart := false, narrowed := true }
def ShiftOrdersUptoSaid : Prop := shiftOrdersUptoRow.holds Try.pinned (OpenSpec.upto shiftOrdersSpec)

/-- 'analemmalaw28.ShiftApart', WHERE WHAT IT READS IS OF BULK AT MOST 1048576: true; the input reads as it did. -/
def shiftApartUptoRow : OpenClaim := { program := "ytkjlobjnboljbaa", sum := "4639455016415c3e30129b7fb58dfa6aaa63b5b1db26649328152a4f369b572b", func := "analemma/analemmalaw28.ShiftApart", spec := "shiftApart", unfollowed := true, recurses := true, apart := false, narrowed := true }
def ShiftApartUptoSaid : Prop := shiftApartUptoRow.holds Try.pinned (OpenSpec.upto shiftApartSpec)

/-- 'analemmalaw28.ShiftOthers', WHERE WHAT IT READS IS OF BULK AT MOST 1048576: true; the input reads as it did. -/
def shiftOthersUptoRow : OpenClaim := { program := "ytkjlobjnboljbaa", sum := "4639455016415c3e30129b7fb58dfa6aaa63b5b1db26649328152a4f369b572b", func := "analemma/analemmalaw28.ShiftOthers", spec := "shiftOthers", unfollowed := true, recurses := true, apart := false, narrowed := true }
def ShiftOthersUptoSaid : Prop := shiftOthersUptoRow.holds Try.pinned (OpenSpec.upto shiftOthersSpec)

end Rows
end Go.Proofs.Ytkjlobjnboljbaa
