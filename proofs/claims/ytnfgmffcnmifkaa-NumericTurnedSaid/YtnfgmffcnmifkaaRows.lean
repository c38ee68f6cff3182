/-
  No cell of these rows narrows 'for every input' (looked for: loops, veiled, ifaces, maps, wideKeys, modest, calm, conditions, laid).
  DERIVED. THE GIVEN ROWS OF THIS SEAT. 7 by the template 'for every input the law returns true; each argument reads behind the call as it read before'; 0 by the template 'total and deterministic' (their statements: YtnfgmffcnmifkaaTotals.lean).
  GIVEN WITH THE SEED: the statements are not yours to turn. If you find one false, say at which input.
  Laid BY PROGRAM, IN A SANDBOX (cutbox-rows.mjs): the forced cells as the released guide's own fill.sh prints them over the translation 308393aabb8b5a4a… (all of the seat's roots in one cut). By AI agents, Wed Nov 11 2026. No macro, syntax, notation, axiom, sorry.
-/
import Derived.Test.YtnfgmffcnmifkaaChecked
import GoSem.Claim
import GoSem.ClaimJoined
import GoSem.ClaimMapViews
import Derived.JoinedTies
import Derived.KernelRfl
namespace Go.Proofs.Ytnfgmffcnmifkaa
/- THE CELL 'sum', in the pinned program and in every row, IS THE sha256 OF THE DUMP (.gsa) THAT YtnfgmffcnmifkaaProg.lean LOADS. Nothing in Lean hashes anything: it is a label: what it is worth is what the hold of that sum in a sandbox is worth. -/
noncomputable def Try.pinned : Pinned := { name := "ytnfgmffcnmifkaa", sum := "308393aabb8b5a4ad7626caa8604ec0ef76f4f6becc869cfd993931a4e9b054b", checked := Try.checked }
namespace Rows
def none {H : Type} : Left H := { results := [], args := [] }

/-- 'analemmalaw20.NumericTexts': WHATEVER THE INPUT: true; the input reads as it did. -/
def numericTextsSpec : ChangeSpec := { name := "numericTexts", fn := fun _ => fun
  | [d1, d2] => { results := [.lit (.bool true)], args := [d1, d2] }
  | _ => none }
def numericTextsRow : OpenClaim := { program := "ytnfgmffcnmifkaa", sum := "308393aabb8b5a4ad7626caa8604ec0ef76f4f6becc869cfd993931a4e9b054b", func := "analemma/analemmalaw20.NumericTexts", spec := "numericTexts", inPlace := ["internal/abi.NoEscape", "internal/bytealg.MakeNoZero"], recurses := true, apart := false }
def NumericTextsSaid : Prop := numericTextsRow.holds Try.pinned (OpenSpec.ofChange numericTextsSpec)

/-- ITS FALSE NEIGHBOUR: 'it returns false'. Refute it at one input. -/
def numericTextsWrong : ChangeSpec := { name := "numericTexts", fn := fun _ => fun
  | [d1, d2] => { results := [.lit (.bool false)], args := [d1, d2] }
  | _ => none }
def NumericTextsWrongFalsely : Prop := numericTextsRow.holds Try.pinned (OpenSpec.ofChange numericTextsWrong)

/-- 'analemmalaw20.NumericExpands': WHATEVER THE INPUT: true; the input reads as it did. -/
def numericExpandsSpec : ChangeSpec := { name := "numericExpands", fn := fun _ => fun
  | [d1, d2] => { results := [.lit (.bool true)], args := [d1, d2] }
  | _ => none }
def numericExpandsRow : OpenClaim := { program := "ytnfgmffcnmifkaa", sum := "308393aabb8b5a4ad7626caa8604ec0ef76f4f6becc869cfd993931a4e9b054b", func := "analemma/analemmalaw20.NumericExpands", spec := "numericExpands", inPlace := ["internal/abi.NoEscape", "internal/bytealg.MakeNoZero"], recurses := true, apart := false }
def NumericExpandsSaid : Prop := numericExpandsRow.holds Try.pinned (OpenSpec.ofChange numericExpandsSpec)

/-- ITS FALSE NEIGHBOUR: 'it returns false'. Refute it at one input. -/
def numericExpandsWrong : ChangeSpec := { name := "numericExpands", fn := fun _ => fun
  | [d1, d2] => { results := [.lit (.bool false)], args := [d1, d2] }
  | _ => none }
def NumericExpandsWrongFalsely : Prop := numericExpandsRow.holds Try.pinned (OpenSpec.ofChange numericExpandsWrong)

/-- 'analemmalaw20.NumericBack': WHATEVER THE INPUT: true; the input reads as it did. -/
def numericBackSpec : ChangeSpec := { name := "numericBack", fn := fun _ => fun
  | [d1, d2] => { results := [.lit (.bool true)], args := [d1, d2] }
  | _ => none }
def numericBackRow : OpenClaim := { program := "ytnfgmffcnmifkaa", sum := "308393aabb8b5a4ad7626caa8604ec0ef76f4f6becc869cfd993931a4e9b054b", func := "analemma/analemmalaw20.NumericBack", spec := "numericBack", inPlace := ["internal/abi.NoEscape", "internal/bytealg.MakeNoZero"], apart := false }
def NumericBackSaid : Prop := numericBackRow.holds Try.pinned (OpenSpec.ofChange numericBackSpec)

/-- ITS FALSE NEIGHBOUR: 'it returns false'. Refute it at one input. -/
def numericBackWrong : ChangeSpec := { name := "numericBack", fn := fun _ => fun
  | [d1, d2] => { results := [.lit (.bool false)], args := [d1, d2] }
  | _ => none }
def NumericBackWrongFalsely : Prop := numericBackRow.holds Try.pinned (OpenSpec.ofChange numericBackWrong)

/-- 'analemmalaw20.NumericDigits': WHATEVER THE INPUT: true; the input reads as it did. -/
def numericDigitsSpec : ChangeSpec := { name := "numericDigits", fn := fun _ => fun
  | [d1, d2, d3, d4] => { results := [.lit (.bool true)], args := [d1, d2, d3, d4] }
  | _ => none }
def numericDigitsRow : OpenClaim := { program := "ytnfgmffcnmifkaa", sum := "308393aabb8b5a4ad7626caa8604ec0ef76f4f6becc869cfd993931a4e9b054b", func := "analemma/analemmalaw20.NumericDigits", spec := "numericDigits", inPlace := ["internal/abi.NoEscape", "internal/bytealg.MakeNoZero"], unfollowed := true, recurses := true, apart := false }
def NumericDigitsSaid : Prop := numericDigitsRow.holds Try.pinned (OpenSpec.ofChange numericDigitsSpec)

/-- ITS FALSE NEIGHBOUR: 'it returns false'. Refute it at one input. -/
def numericDigitsWrong : ChangeSpec := { name := "numericDigits", fn := fun _ => fun
  | [d1, d2, d3, d4] => { results := [.lit (.bool false)], args := [d1, d2, d3, d4] }
  | _ => none }
def NumericDigitsWrongFalsely : Prop := numericDigitsRow.holds Try.pinned (OpenSpec.ofChange numericDigitsWrong)

/-- 'analemmalaw20.NumericEras': WHATEVER THE INPUT: true; the input reads as it did. -/
def numericErasSpec : ChangeSpec := { name := "numericEras", fn := fun _ => fun
  | [d1, d2, d3, d4] => { results := [.lit (.bool true)], args := [d1, d2, d3, d4] }
  | _ => none }
def numericErasRow : OpenClaim := { program := "ytnfgmffcnmifkaa", sum := "308393aabb8b5a4ad7626caa8604ec0ef76f4f6becc869cfd993931a4e9b054b", func := "analemma/analemmalaw20.NumericEras", spec := "numericEras", inPlace := ["internal/abi.NoEscape", "internal/bytealg.MakeNoZero"], apart := false }
def NumericErasSaid : Prop := numericErasRow.holds Try.pinned (OpenSpec.ofChange numericErasSpec)

/-- ITS FALSE NEIGHBOUR: 'it returns false'. Refute it at one input. -/
def numericErasWrong : ChangeSpec := { name := "numericEras", fn := fun _ => fun
  | [d1, d2, d3, d4] => { results := [.lit (.bool false)], args := [d1, d2, d3, d4] }
  | _ => none }
def NumericErasWrongFalsely : Prop := numericErasRow.holds Try.pinned (OpenSpec.ofChange numericErasWrong)

/-- 'analemmalaw20.NumericTurned': WHATEVER THE INPUT: true; the input reads as it did. -/
def numericTurnedSpec : ChangeSpec := { name := "numericTurned", fn := fun _ => fun
  | [d1, d2] => { results := [.lit (.bool true)], args := [d1, d2] }
  | _ => none }
def numericTurnedRow : OpenClaim := { program := "ytnfgmffcnmifkaa", sum := "308393aabb8b5a4ad7626caa8604ec0ef76f4f6becc869cfd993931a4e9b054b", func := "analemma/analemmalaw20.NumericTurned", spec := "numericTurned", inPlace := ["internal/abi.NoEscape", "internal/bytealg.MakeNoZero", "internal/bytealg.IndexByteString", "internal/bytealg.IndexString"], named := ["internal/bytealg.MaxLen"], apart := false }
def NumericTurnedSaid : Prop := numericTurnedRow.holds Try.pinned (OpenSpec.ofChange numericTurnedSpec)

/-- ITS FALSE NEIGHBOUR: 'it returns false'. Refute it at one input. -/
def numericTurnedWrong : ChangeSpec := { name := "numericTurned", fn := fun _ => fun
  | [d1, d2] => { results := [.lit (.bool false)], args := [d1, d2] }
  | _ => none }
def NumericTurnedWrongFalsely : Prop := numericTurnedRow.holds Try.pinned (OpenSpec.ofChange numericTurnedWrong)

/-- 'analemmalaw20.NumericRefuses': WHATEVER THE INPUT: true; the input reads as it did. -/
def numericRefusesSpec : ChangeSpec := { name := "numericRefuses", fn := fun _ => fun
  | [d1, d2, d3, d4] => { results := [.lit (.bool true)], args := [d1, d2, d3, d4] }
  | _ => none }
def numericRefusesRow : OpenClaim := { program := "ytnfgmffcnmifkaa", sum := "308393aabb8b5a4ad7626caa8604ec0ef76f4f6becc869cfd993931a4e9b054b", func := "analemma/analemmalaw20.NumericRefuses", spec := "numericRefuses", inPlace := ["internal/abi.NoEscape", "internal/bytealg.MakeNoZero"], apart := false }
def NumericRefusesSaid : Prop := numericRefusesRow.holds Try.pinned (OpenSpec.ofChange numericRefusesSpec)

/-- ITS FALSE NEIGHBOUR: 'it returns false'. Refute it at one input. -/
def numericRefusesWrong : ChangeSpec := { name := "numericRefuses", fn := fun _ => fun
  | [d1, d2, d3, d4] => { results := [.lit (.bool false)], args := [d1, d2, d3, d4] }
  | _ => none }
def NumericRefusesWrongFalsely : Prop := numericRefusesRow.holds Try.pinned (OpenSpec.ofChange numericRefusesWrong)

/- THE SECOND FORM. 'bulk': how many values and letters a reading holds, each counted each time it is reached (what is shared counts as often as it is met; a slice's spare places count too). A statement '..UptoSaid' is the law's where the arguments, and the package variables that the reading takes, are together of bulk at most 1048576: NARROWER than '..Said'. Prove '..Said' where nothing that the law and all that it calls make is longer than what came in: it says more and counts as full. Else prove '..UptoSaid'. A law counts once. -/
mutual
def uptoBulk {H : Type} : DataW H → Nat
  | .lit (.string bytes) => bytes.length + 1
  | .lit _ => 1
  | .nil => 1
  | .ptr d => uptoBulk d + 1
  | .slice elems spare => uptoBulkAll elems + uptoBulkAll spare + 1
  | .agg parts => uptoBulkAll parts + 1
  | .iface _ d => uptoBulk d + 1
  | .map entries => uptoBulkEntries entries + 1
  | .held _ => 1
def uptoBulkAll {H : Type} : List (DataW H) → Nat
  | [] => 0
  | d :: r => uptoBulk d + uptoBulkAll r
def uptoBulkEntries {H : Type} : List (Lit × DataW H) → Nat
  | [] => 0
  | x :: r => uptoBulkEntry x + uptoBulkEntries r
def uptoBulkEntry {H : Type} : Lit × DataW H → Nat
  | (.string bytes, d) => bytes.length + uptoBulk d + 1
  | (_, d) => uptoBulk d + 1
 end
def uptoSmall : (H : Type) → List (DataW H) → Bool := fun _ ds => decide (uptoBulkAll ds ≤ 1048576)
def OpenSpec.upto (s : _root_.Go.ChangeSpec) : _root_.Go.OpenSpec := { _root_.Go.OpenSpec.ofChange s with cond := some uptoSmall }

/-- 'analemmalaw20.NumericTexts', WHERE WHAT IT READS IS OF BULK AT MOST 1048576: true; the input reads as it did. -/
def numericTextsUptoRow : OpenClaim := { program := "ytnfgmffcnmifkaa", sum := "308393aabb8b5a4ad7626caa8604ec0ef76f4f6becc869cfd993931a4e9b054b", func := "analemma/analemmalaw20.NumericTexts", spec := "numericTexts", inPlace := ["internal/abi.NoEscape", "internal/bytealg.MakeNoZero"], recurses := true, apart := false, narrowed := true }
def NumericTextsUptoSaid : Prop := numericTextsUptoRow.holds Try.pinned (OpenSpec.upto numericTextsSpec)

/-- 'analemmalaw20.NumericExpands', WHERE WHAT IT READS IS OF BULK AT MOST 1048576: true; the input reads as it did. -/
def numericExpandsUptoRow : OpenClaim := { program := "ytnfgmffcnmifkaa", sum := "308393aabb8b5a4ad7626caa8604ec0ef76f4f6becc869cfd993931a4e9b054b", func := "analemma/analemmalaw20.NumericExpands", spec := "numericExpands", inPlace := ["internal/abi.NoEscape", "internal/bytealg.MakeNoZero"], recurses := true, apart := false, narrowed := true }
def NumericExpandsUptoSaid : Prop := numericExpandsUptoRow.holds Try.pinned (OpenSpec.upto numericExpandsSpec)

/-- 'analemmalaw20.NumericBack', WHERE WHAT IT READS IS OF BULK AT MOST 1048576: true; the input reads as it did. -/
def numericBackUptoRow : OpenClaim := { program := "ytnfgmffcnmifkaa", sum := "308393aabb8b5a4ad7626caa8604ec0ef76f4f6becc869cfd993931a4e9b054b", func := "analemma/analemmalaw20.NumericBack", spec := "numericBack", inPlace := ["internal/abi.NoEscape", "internal/bytealg.MakeNoZero"], apart := false, narrowed := true }
def NumericBackUptoSaid : Prop := numericBackUptoRow.holds Try.pinned (OpenSpec.upto numericBackSpec)

/-- 'analemmalaw20.NumericDigits', WHERE WHAT IT READS IS OF BULK AT MOST 1048576: true; the input reads as it did. -/
def numericDigitsUptoRow : OpenClaim := { program := "ytnfgmffcnmifkaa", sum := "308393aabb8b5a4ad7626caa8604ec0ef76f4f6becc869cfd993931a4e9b054b", func := "analemma/analemmalaw20.NumericDigits", spec := "numericDigits", inPlace := ["internal/abi.NoEscape", "internal/bytealg.MakeNoZero"], unfollowed := true, recurses := true, apart := false, narrowed := true }
def NumericDigitsUptoSaid : Prop := numericDigitsUptoRow.holds Try.pinned (OpenSpec.upto numericDigitsSpec)

/-- 'analemmalaw20.NumericEras', WHERE WHAT IT READS IS OF BULK AT MOST 1048576: true; the input reads as it did. -/
def numericErasUptoRow : OpenClaim := { program := "ytnfgmffcnmifkaa", sum := "308393aabb8b5a4ad7626caa8604ec0ef76f4f6becc869cfd993931a4e9b054b", func := "analemma/analemmalaw20.NumericEras", spec := "numericEras", inPlace := ["internal/abi.NoEscape", "internal/bytealg.MakeNoZero"], apart := false, narrowed := true }
def NumericErasUptoSaid : Prop := numericErasUptoRow.holds Try.pinned (OpenSpec.upto numericErasSpec)

/-- 'analemmalaw20.NumericTurned', WHERE WHAT IT READS IS OF BULK AT MOST 1048576: true; the input reads as it did. -/
def numericTurnedUptoRow : OpenClaim := { program := "ytnfgmffcnmifkaa", sum := "308393aabb8b5a4ad7626caa8604ec0ef76f4f6becc869cfd993931a4e9b054b", func := "analemma/analemmalaw20.NumericTurned", spec := "numericTurned", inPlace := ["internal/abi.NoEscape", "internal/bytealg.MakeNoZero", "internal/bytealg.IndexByteString", "internal/bytealg.IndexString"], named := ["internal/bytealg.MaxLen"], apart := false, narrowed := true }
def NumericTurnedUptoSaid : Prop := numericTurnedUptoRow.holds Try.pinned (OpenSpec.upto numericTurnedSpec)

/-- 'analemmalaw20.NumericRefuses', WHERE WHAT IT READS IS OF BULK AT MOST 1048576: true; the input reads as it did. -/
def numericRefusesUptoRow : OpenClaim := { program := "ytnfgmffcnmifkaa", sum := "308393aabb8b5a4ad7626caa8604ec0ef76f4f6becc869cfd993931a4e9b054b", func := "analemma/analemmalaw20.NumericRefuses", spec := "numericRefuses", inPlace := ["internal/abi.NoEscape", "internal/bytealg.MakeNoZero"], apart := false, narrowed := true }
def NumericRefusesUptoSaid : Prop := numericRefusesUptoRow.holds Try.pinned (OpenSpec.upto numericRefusesSpec)

end Rows
end Go.Proofs.Ytnfgmffcnmifkaa
