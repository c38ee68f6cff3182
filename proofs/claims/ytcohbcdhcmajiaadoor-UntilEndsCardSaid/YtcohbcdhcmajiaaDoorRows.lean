/-
  NARROWER THAN 'FOR EVERY INPUT', by the rows' own cells (each row's printed sentence says how): FormatAbbrs: laid · FormatChecks: laid · FormatStates: laid · FormatNumbers: laid · FormatKinds: laid · FormatRefuses: laid · UntilEnds: laid · UntilInstants: laid · UntilNear: laid · UntilShift: laid · UntilOrder: laid · UntilRefuses: laid.
  DERIVED. THE GIVEN ROWS OF THIS SEAT. 12 by the template 'for every input the law returns true; each argument reads behind the call as it read before'; 0 by the template 'total and deterministic' (their statements: YtcohbcdhcmajiaaDoorTotals.lean).
  GIVEN WITH THE SEED: the statements are not yours to turn. If you find one false, say at which input.
  Laid BY PROGRAM, IN A SANDBOX (cutbox-rows.mjs): the forced cells as the released guide's own fill.sh prints them over the translation d24a3f05c87ee380… (all of the seat's roots in one cut). By AI agents, Wed Nov 11 2026. No macro, syntax, notation, axiom, sorry.
-/
import Derived.Test.YtcohbcdhcmajiaaDoorChecked
import GoSem.PinnedTables
import GoSem.Claim
import GoSem.ClaimJoined
import GoSem.ClaimMapViews
import Derived.JoinedTies
import Derived.KernelRfl
namespace Go.Proofs.YtcohbcdhcmajiaaDoor
/- THE CELL 'sum', in the pinned program and in every row, IS THE sha256 OF THE DUMP (.gsa) THAT YtcohbcdhcmajiaaDoorProg.lean LOADS. Nothing in Lean hashes anything: it is a label: what it is worth is what the hold of that sum in a sandbox is worth. -/
noncomputable def Tryd.pinned : Pinned := { name := "ytcohbcdhcmajiaadoor", sum := "d24a3f05c87ee380e62986a98d43c5029b9a265fba869265bcb6f55881bb10cd", checked := Tryd.checked }
namespace Rows
def none {H : Type} : Left H := { results := [], args := [] }

/- WHAT THE LISTED PACKAGE-LEVEL VARIABLES READ AS WHEN THE CALL BEGINS. Each datum BY PROGRAM (the guide's laid-datum.mjs) off the statement by which the dump's own 'gosem.cut.vars' lays the variable. In a bare row this is a premise. The card (YtcohbcdhcmajiaaDoorCards.lean) ties it to the program's text. -/
def laid_unicode_utf8_acceptRanges {H : Type} : DataW H := .agg [.agg [.lit (.int .u8 128), .lit (.int .u8 191)], .agg [.lit (.int .u8 160), .lit (.int .u8 191)], .agg [.lit (.int .u8 128), .lit (.int .u8 159)], .agg [.lit (.int .u8 144), .lit (.int .u8 191)], .agg [.lit (.int .u8 128), .lit (.int .u8 143)], .agg [.lit (.int .u8 0), .lit (.int .u8 0)], .agg [.lit (.int .u8 0), .lit (.int .u8 0)], .agg [.lit (.int .u8 0), .lit (.int .u8 0)], .agg [.lit (.int .u8 0), .lit (.int .u8 0)], .agg [.lit (.int .u8 0), .lit (.int .u8 0)], .agg [.lit (.int .u8 0), .lit (.int .u8 0)], .agg [.lit (.int .u8 0), .lit (.int .u8 0)], .agg [.lit (.int .u8 0), .lit (.int .u8 0)], .agg [.lit (.int .u8 0), .lit (.int .u8 0)], .agg [.lit (.int .u8 0), .lit (.int .u8 0)], .agg [.lit (.int .u8 0), .lit (.int .u8 0)]]
def laid_analemma_name_classes {H : Type} : DataW H := .agg [.lit (.int .u8 0), .lit (.int .u8 0), .lit (.int .u8 0), .lit (.int .u8 0), .lit (.int .u8 0), .lit (.int .u8 0), .lit (.int .u8 0), .lit (.int .u8 0), .lit (.int .u8 0), .lit (.int .u8 0), .lit (.int .u8 0), .lit (.int .u8 0), .lit (.int .u8 0), .lit (.int .u8 0), .lit (.int .u8 0), .lit (.int .u8 0), .lit (.int .u8 0), .lit (.int .u8 0), .lit (.int .u8 0), .lit (.int .u8 0), .lit (.int .u8 0), .lit (.int .u8 0), .lit (.int .u8 0), .lit (.int .u8 0), .lit (.int .u8 0), .lit (.int .u8 0), .lit (.int .u8 0), .lit (.int .u8 0), .lit (.int .u8 0), .lit (.int .u8 0), .lit (.int .u8 0), .lit (.int .u8 0), .lit (.int .u8 0), .lit (.int .u8 0), .lit (.int .u8 0), .lit (.int .u8 0), .lit (.int .u8 0), .lit (.int .u8 0), .lit (.int .u8 0), .lit (.int .u8 0), .lit (.int .u8 0), .lit (.int .u8 0), .lit (.int .u8 0), .lit (.int .u8 16), .lit (.int .u8 0), .lit (.int .u8 4), .lit (.int .u8 8), .lit (.int .u8 0), .lit (.int .u8 2), .lit (.int .u8 2), .lit (.int .u8 2), .lit (.int .u8 2), .lit (.int .u8 2), .lit (.int .u8 2), .lit (.int .u8 2), .lit (.int .u8 2), .lit (.int .u8 2), .lit (.int .u8 2), .lit (.int .u8 0), .lit (.int .u8 0), .lit (.int .u8 0), .lit (.int .u8 0), .lit (.int .u8 0), .lit (.int .u8 0), .lit (.int .u8 0), .lit (.int .u8 1), .lit (.int .u8 1), .lit (.int .u8 1), .lit (.int .u8 1), .lit (.int .u8 1), .lit (.int .u8 1), .lit (.int .u8 1), .lit (.int .u8 1), .lit (.int .u8 1), .lit (.int .u8 1), .lit (.int .u8 1), .lit (.int .u8 1), .lit (.int .u8 1), .lit (.int .u8 1), .lit (.int .u8 1), .lit (.int .u8 1), .lit (.int .u8 1), .lit (.int .u8 1), .lit (.int .u8 1), .lit (.int .u8 1), .lit (.int .u8 1), .lit (.int .u8 1), .lit (.int .u8 1), .lit (.int .u8 1), .lit (.int .u8 1), .lit (.int .u8 1), .lit (.int .u8 0), .lit (.int .u8 0), .lit (.int .u8 0), .lit (.int .u8 0), .lit (.int .u8 4), .lit (.int .u8 0), .lit (.int .u8 1), .lit (.int .u8 1), .lit (.int .u8 1), .lit (.int .u8 1), .lit (.int .u8 1), .lit (.int .u8 1), .lit (.int .u8 1), .lit (.int .u8 1), .lit (.int .u8 1), .lit (.int .u8 1), .lit (.int .u8 1), .lit (.int .u8 1), .lit (.int .u8 1), .lit (.int .u8 1), .lit (.int .u8 1), .lit (.int .u8 1), .lit (.int .u8 1), .lit (.int .u8 1), .lit (.int .u8 1), .lit (.int .u8 1), .lit (.int .u8 1), .lit (.int .u8 1), .lit (.int .u8 1), .lit (.int .u8 1), .lit (.int .u8 1), .lit (.int .u8 1), .lit (.int .u8 0), .lit (.int .u8 0), .lit (.int .u8 0), .lit (.int .u8 0), .lit (.int .u8 0)]
/-- One of Go's own tables, pinned by name: the form's constant. -/
def laid_unicode_utf8_first : DataW Unit := Go.Pinned.utf8First
def laid_analemma_civil_before {H : Type} : DataW H := .agg [.lit (.int .i64 0), .lit (.int .i64 31), .lit (.int .i64 59), .lit (.int .i64 90), .lit (.int .i64 120), .lit (.int .i64 151), .lit (.int .i64 181), .lit (.int .i64 212), .lit (.int .i64 243), .lit (.int .i64 273), .lit (.int .i64 304), .lit (.int .i64 334), .lit (.int .i64 365)]

/-- 'analemmalaw21.FormatAbbrs': WHATEVER THE INPUT: true; the input reads as it did. -/
def formatAbbrsSpec : ChangeSpec := { name := "formatAbbrs", fn := fun _ => fun
  | [d1, d2, d3] => { results := [.lit (.bool true)], args := [d1, d2, d3] }
  | _ => none }
def formatAbbrsRow : OpenClaim := { program := "ytcohbcdhcmajiaadoor", sum := "d24a3f05c87ee380e62986a98d43c5029b9a265fba869265bcb6f55881bb10cd", func := "analemma/analemmalaw21.FormatAbbrs", spec := "formatAbbrs", inPlace := ["internal/bytealg.IndexByteString", "internal/bytealg.IndexString", "internal/bytealg.CountString", "internal/abi.NoEscape", "internal/bytealg.MakeNoZero"], unfollowed := true, recurses := true, named := ["internal/bytealg.MaxLen", "analemma/name.classes", "unicode/utf8.first", "unicode/utf8.acceptRanges"], apart := false, laid := [("unicode/utf8.acceptRanges", laid_unicode_utf8_acceptRanges), ("analemma/name.classes", laid_analemma_name_classes), ("unicode/utf8.first", laid_unicode_utf8_first)] }
def FormatAbbrsSaid : Prop := formatAbbrsRow.holds Tryd.pinned (OpenSpec.ofChange formatAbbrsSpec)

/-- ITS FALSE NEIGHBOUR: 'it returns false'. Refute it at one input. -/
def formatAbbrsWrong : ChangeSpec := { name := "formatAbbrs", fn := fun _ => fun
  | [d1, d2, d3] => { results := [.lit (.bool false)], args := [d1, d2, d3] }
  | _ => none }
def FormatAbbrsWrongFalsely : Prop := formatAbbrsRow.holds Tryd.pinned (OpenSpec.ofChange formatAbbrsWrong)

/-- 'analemmalaw21.FormatChecks': WHATEVER THE INPUT: true; the input reads as it did. -/
def formatChecksSpec : ChangeSpec := { name := "formatChecks", fn := fun _ => fun
  | [d1, d2] => { results := [.lit (.bool true)], args := [d1, d2] }
  | _ => none }
def formatChecksRow : OpenClaim := { program := "ytcohbcdhcmajiaadoor", sum := "d24a3f05c87ee380e62986a98d43c5029b9a265fba869265bcb6f55881bb10cd", func := "analemma/analemmalaw21.FormatChecks", spec := "formatChecks", inPlace := ["internal/bytealg.IndexByteString", "internal/bytealg.IndexString", "internal/bytealg.CountString", "internal/abi.NoEscape", "internal/bytealg.MakeNoZero"], unfollowed := true, recurses := true, named := ["internal/bytealg.MaxLen", "analemma/name.classes", "unicode/utf8.first", "unicode/utf8.acceptRanges"], apart := false, laid := [("unicode/utf8.acceptRanges", laid_unicode_utf8_acceptRanges), ("analemma/name.classes", laid_analemma_name_classes), ("unicode/utf8.first", laid_unicode_utf8_first)] }
def FormatChecksSaid : Prop := formatChecksRow.holds Tryd.pinned (OpenSpec.ofChange formatChecksSpec)

/-- ITS FALSE NEIGHBOUR: 'it returns false'. Refute it at one input. -/
def formatChecksWrong : ChangeSpec := { name := "formatChecks", fn := fun _ => fun
  | [d1, d2] => { results := [.lit (.bool false)], args := [d1, d2] }
  | _ => none }
def FormatChecksWrongFalsely : Prop := formatChecksRow.holds Tryd.pinned (OpenSpec.ofChange formatChecksWrong)

/-- 'analemmalaw21.FormatStates': WHATEVER THE INPUT: true; the input reads as it did. -/
def formatStatesSpec : ChangeSpec := { name := "formatStates", fn := fun _ => fun
  | [d1, d2, d3] => { results := [.lit (.bool true)], args := [d1, d2, d3] }
  | _ => none }
def formatStatesRow : OpenClaim := { program := "ytcohbcdhcmajiaadoor", sum := "d24a3f05c87ee380e62986a98d43c5029b9a265fba869265bcb6f55881bb10cd", func := "analemma/analemmalaw21.FormatStates", spec := "formatStates", inPlace := ["internal/abi.NoEscape", "internal/bytealg.MakeNoZero", "internal/bytealg.IndexByteString", "internal/bytealg.IndexString", "internal/bytealg.CountString"], unfollowed := true, recurses := true, named := ["internal/bytealg.MaxLen", "analemma/name.classes", "unicode/utf8.first", "unicode/utf8.acceptRanges"], apart := false, laid := [("unicode/utf8.acceptRanges", laid_unicode_utf8_acceptRanges), ("analemma/name.classes", laid_analemma_name_classes), ("unicode/utf8.first", laid_unicode_utf8_first)] }
def FormatStatesSaid : Prop := formatStatesRow.holds Tryd.pinned (OpenSpec.ofChange formatStatesSpec)

/-- ITS FALSE NEIGHBOUR: 'it returns false'. Refute it at one input. -/
def formatStatesWrong : ChangeSpec := { name := "formatStates", fn := fun _ => fun
  | [d1, d2, d3] => { results := [.lit (.bool false)], args := [d1, d2, d3] }
  | _ => none }
def FormatStatesWrongFalsely : Prop := formatStatesRow.holds Tryd.pinned (OpenSpec.ofChange formatStatesWrong)

/-- 'analemmalaw21.FormatNumbers': WHATEVER THE INPUT: true; the input reads as it did. -/
def formatNumbersSpec : ChangeSpec := { name := "formatNumbers", fn := fun _ => fun
  | [d1, d2, d3] => { results := [.lit (.bool true)], args := [d1, d2, d3] }
  | _ => none }
def formatNumbersRow : OpenClaim := { program := "ytcohbcdhcmajiaadoor", sum := "d24a3f05c87ee380e62986a98d43c5029b9a265fba869265bcb6f55881bb10cd", func := "analemma/analemmalaw21.FormatNumbers", spec := "formatNumbers", inPlace := ["internal/abi.NoEscape", "internal/bytealg.MakeNoZero", "internal/bytealg.IndexByteString", "internal/bytealg.IndexString", "internal/bytealg.CountString"], unfollowed := true, recurses := true, named := ["internal/bytealg.MaxLen", "analemma/name.classes", "unicode/utf8.first", "unicode/utf8.acceptRanges"], apart := false, laid := [("unicode/utf8.acceptRanges", laid_unicode_utf8_acceptRanges), ("analemma/name.classes", laid_analemma_name_classes), ("unicode/utf8.first", laid_unicode_utf8_first)] }
def FormatNumbersSaid : Prop := formatNumbersRow.holds Tryd.pinned (OpenSpec.ofChange formatNumbersSpec)

/-- ITS FALSE NEIGHBOUR: 'it returns false'. Refute it at one input. -/
def formatNumbersWrong : ChangeSpec := { name := "formatNumbers", fn := fun _ => fun
  | [d1, d2, d3] => { results := [.lit (.bool false)], args := [d1, d2, d3] }
  | _ => none }
def FormatNumbersWrongFalsely : Prop := formatNumbersRow.holds Tryd.pinned (OpenSpec.ofChange formatNumbersWrong)

/-- 'analemmalaw21.FormatKinds': WHATEVER THE INPUT: true; the input reads as it did. -/
def formatKindsSpec : ChangeSpec := { name := "formatKinds", fn := fun _ => fun
  | [d1, d2, d3, d4] => { results := [.lit (.bool true)], args := [d1, d2, d3, d4] }
  | _ => none }
def formatKindsRow : OpenClaim := { program := "ytcohbcdhcmajiaadoor", sum := "d24a3f05c87ee380e62986a98d43c5029b9a265fba869265bcb6f55881bb10cd", func := "analemma/analemmalaw21.FormatKinds", spec := "formatKinds", inPlace := ["internal/bytealg.IndexByteString", "internal/bytealg.IndexString", "internal/bytealg.CountString", "internal/abi.NoEscape", "internal/bytealg.MakeNoZero"], unfollowed := true, recurses := true, named := ["internal/bytealg.MaxLen", "analemma/name.classes", "unicode/utf8.first", "unicode/utf8.acceptRanges"], apart := false, laid := [("unicode/utf8.acceptRanges", laid_unicode_utf8_acceptRanges), ("analemma/name.classes", laid_analemma_name_classes), ("unicode/utf8.first", laid_unicode_utf8_first)] }
def FormatKindsSaid : Prop := formatKindsRow.holds Tryd.pinned (OpenSpec.ofChange formatKindsSpec)

/-- ITS FALSE NEIGHBOUR: 'it returns false'. Refute it at one input. -/
def formatKindsWrong : ChangeSpec := { name := "formatKinds", fn := fun _ => fun
  | [d1, d2, d3, d4] => { results := [.lit (.bool false)], args := [d1, d2, d3, d4] }
  | _ => none }
def FormatKindsWrongFalsely : Prop := formatKindsRow.holds Tryd.pinned (OpenSpec.ofChange formatKindsWrong)

/-- 'analemmalaw21.FormatRefuses': WHATEVER THE INPUT: true; the input reads as it did. -/
def formatRefusesSpec : ChangeSpec := { name := "formatRefuses", fn := fun _ => fun
  | [d1, d2, d3] => { results := [.lit (.bool true)], args := [d1, d2, d3] }
  | _ => none }
def formatRefusesRow : OpenClaim := { program := "ytcohbcdhcmajiaadoor", sum := "d24a3f05c87ee380e62986a98d43c5029b9a265fba869265bcb6f55881bb10cd", func := "analemma/analemmalaw21.FormatRefuses", spec := "formatRefuses", inPlace := ["internal/abi.NoEscape", "internal/bytealg.MakeNoZero", "internal/bytealg.IndexByteString", "internal/bytealg.IndexString", "internal/bytealg.CountString"], unfollowed := true, recurses := true, named := ["internal/bytealg.MaxLen", "analemma/name.classes", "unicode/utf8.first", "unicode/utf8.acceptRanges"], apart := false, laid := [("unicode/utf8.acceptRanges", laid_unicode_utf8_acceptRanges), ("analemma/name.classes", laid_analemma_name_classes), ("unicode/utf8.first", laid_unicode_utf8_first)] }
def FormatRefusesSaid : Prop := formatRefusesRow.holds Tryd.pinned (OpenSpec.ofChange formatRefusesSpec)

/-- ITS FALSE NEIGHBOUR: 'it returns false'. Refute it at one input. -/
def formatRefusesWrong : ChangeSpec := { name := "formatRefuses", fn := fun _ => fun
  | [d1, d2, d3] => { results := [.lit (.bool false)], args := [d1, d2, d3] }
  | _ => none }
def FormatRefusesWrongFalsely : Prop := formatRefusesRow.holds Tryd.pinned (OpenSpec.ofChange formatRefusesWrong)

/-- 'analemmalaw22.UntilEnds': WHATEVER THE INPUT: true; the input reads as it did. -/
def untilEndsSpec : ChangeSpec := { name := "untilEnds", fn := fun _ => fun
  | [d1, d2] => { results := [.lit (.bool true)], args := [d1, d2] }
  | _ => none }
def untilEndsRow : OpenClaim := { program := "ytcohbcdhcmajiaadoor", sum := "d24a3f05c87ee380e62986a98d43c5029b9a265fba869265bcb6f55881bb10cd", func := "analemma/analemmalaw22.UntilEnds", spec := "untilEnds", unfollowed := true, recurses := true, named := ["analemma/civil.before"], apart := false, laid := [("analemma/civil.before", laid_analemma_civil_before)] }
def UntilEndsSaid : Prop := untilEndsRow.holds Tryd.pinned (OpenSpec.ofChange untilEndsSpec)

/-- ITS FALSE NEIGHBOUR: 'it returns false'. Refute it at one input. -/
def untilEndsWrong : ChangeSpec := { name := "untilEnds", fn := fun _ => fun
  | [d1, d2] => { results := [.lit (.bool false)], args := [d1, d2] }
  | _ => none }
def UntilEndsWrongFalsely : Prop := untilEndsRow.holds Tryd.pinned (OpenSpec.ofChange untilEndsWrong)

/-- 'analemmalaw22.UntilInstants': WHATEVER THE INPUT: true; the input reads as it did. -/
def untilInstantsSpec : ChangeSpec := { name := "untilInstants", fn := fun _ => fun
  | [d1, d2] => { results := [.lit (.bool true)], args := [d1, d2] }
  | _ => none }
def untilInstantsRow : OpenClaim := { program := "ytcohbcdhcmajiaadoor", sum := "d24a3f05c87ee380e62986a98d43c5029b9a265fba869265bcb6f55881bb10cd", func := "analemma/analemmalaw22.UntilInstants", spec := "untilInstants", unfollowed := true, recurses := true, named := ["analemma/civil.before"], apart := false, laid := [("analemma/civil.before", laid_analemma_civil_before)] }
def UntilInstantsSaid : Prop := untilInstantsRow.holds Tryd.pinned (OpenSpec.ofChange untilInstantsSpec)

/-- ITS FALSE NEIGHBOUR: 'it returns false'. Refute it at one input. -/
def untilInstantsWrong : ChangeSpec := { name := "untilInstants", fn := fun _ => fun
  | [d1, d2] => { results := [.lit (.bool false)], args := [d1, d2] }
  | _ => none }
def UntilInstantsWrongFalsely : Prop := untilInstantsRow.holds Tryd.pinned (OpenSpec.ofChange untilInstantsWrong)

/-- 'analemmalaw22.UntilNear': WHATEVER THE INPUT: true; the input reads as it did. -/
def untilNearSpec : ChangeSpec := { name := "untilNear", fn := fun _ => fun
  | [d1, d2, d3, d4, d5] => { results := [.lit (.bool true)], args := [d1, d2, d3, d4, d5] }
  | _ => none }
def untilNearRow : OpenClaim := { program := "ytcohbcdhcmajiaadoor", sum := "d24a3f05c87ee380e62986a98d43c5029b9a265fba869265bcb6f55881bb10cd", func := "analemma/analemmalaw22.UntilNear", spec := "untilNear", unfollowed := true, recurses := true, named := ["analemma/civil.before"], apart := false, laid := [("analemma/civil.before", laid_analemma_civil_before)] }
def UntilNearSaid : Prop := untilNearRow.holds Tryd.pinned (OpenSpec.ofChange untilNearSpec)

/-- ITS FALSE NEIGHBOUR: 'it returns false'. Refute it at one input. -/
def untilNearWrong : ChangeSpec := { name := "untilNear", fn := fun _ => fun
  | [d1, d2, d3, d4, d5] => { results := [.lit (.bool false)], args := [d1, d2, d3, d4, d5] }
  | _ => none }
def UntilNearWrongFalsely : Prop := untilNearRow.holds Tryd.pinned (OpenSpec.ofChange untilNearWrong)

/-- 'analemmalaw22.UntilShift': WHATEVER THE INPUT: true; the input reads as it did. -/
def untilShiftSpec : ChangeSpec := { name := "untilShift", fn := fun _ => fun
  | [d1, d2, d3] => { results := [.lit (.bool true)], args := [d1, d2, d3] }
  | _ => none }
def untilShiftRow : OpenClaim := { program := "ytcohbcdhcmajiaadoor", sum := "d24a3f05c87ee380e62986a98d43c5029b9a265fba869265bcb6f55881bb10cd", func := "analemma/analemmalaw22.UntilShift", spec := "untilShift", unfollowed := true, recurses := true, named := ["analemma/civil.before"], apart := false, laid := [("analemma/civil.before", laid_analemma_civil_before)] }
def UntilShiftSaid : Prop := untilShiftRow.holds Tryd.pinned (OpenSpec.ofChange untilShiftSpec)

/-- ITS FALSE NEIGHBOUR: 'it returns false'. Refute it at one input. -/
def untilShiftWrong : ChangeSpec := { name := "untilShift", fn := fun _ => fun
  | [d1, d2, d3] => { results := [.lit (.bool false)], args := [d1, d2, d3] }
  | _ => none }
def UntilShiftWrongFalsely : Prop := untilShiftRow.holds Tryd.pinned (OpenSpec.ofChange untilShiftWrong)

/-- 'analemmalaw22.UntilOrder': WHATEVER THE INPUT: true; the input reads as it did. -/
def untilOrderSpec : ChangeSpec := { name := "untilOrder", fn := fun _ => fun
  | [d1, d2, d3, d4, d5, d6] => { results := [.lit (.bool true)], args := [d1, d2, d3, d4, d5, d6] }
  | _ => none }
def untilOrderRow : OpenClaim := { program := "ytcohbcdhcmajiaadoor", sum := "d24a3f05c87ee380e62986a98d43c5029b9a265fba869265bcb6f55881bb10cd", func := "analemma/analemmalaw22.UntilOrder", spec := "untilOrder", unfollowed := true, recurses := true, named := ["analemma/civil.before"], apart := false, laid := [("analemma/civil.before", laid_analemma_civil_before)] }
def UntilOrderSaid : Prop := untilOrderRow.holds Tryd.pinned (OpenSpec.ofChange untilOrderSpec)

/-- ITS FALSE NEIGHBOUR: 'it returns false'. Refute it at one input. -/
def untilOrderWrong : ChangeSpec := { name := "untilOrder", fn := fun _ => fun
  | [d1, d2, d3, d4, d5, d6] => { results := [.lit (.bool false)], args := [d1, d2, d3, d4, d5, d6] }
  | _ => none }
def UntilOrderWrongFalsely : Prop := untilOrderRow.holds Tryd.pinned (OpenSpec.ofChange untilOrderWrong)

/-- 'analemmalaw22.UntilRefuses': WHATEVER THE INPUT: true; the input reads as it did. -/
def untilRefusesSpec : ChangeSpec := { name := "untilRefuses", fn := fun _ => fun
  | [d1, d2, d3] => { results := [.lit (.bool true)], args := [d1, d2, d3] }
  | _ => none }
def untilRefusesRow : OpenClaim := { program := "ytcohbcdhcmajiaadoor", sum := "d24a3f05c87ee380e62986a98d43c5029b9a265fba869265bcb6f55881bb10cd", func := "analemma/analemmalaw22.UntilRefuses", spec := "untilRefuses", unfollowed := true, recurses := true, named := ["analemma/civil.before"], apart := false, laid := [("analemma/civil.before", laid_analemma_civil_before)] }
def UntilRefusesSaid : Prop := untilRefusesRow.holds Tryd.pinned (OpenSpec.ofChange untilRefusesSpec)

/-- ITS FALSE NEIGHBOUR: 'it returns false'. Refute it at one input. -/
def untilRefusesWrong : ChangeSpec := { name := "untilRefuses", fn := fun _ => fun
  | [d1, d2, d3] => { results := [.lit (.bool false)], args := [d1, d2, d3] }
  | _ => none }
def UntilRefusesWrongFalsely : Prop := untilRefusesRow.holds Tryd.pinned (OpenSpec.ofChange untilRefusesWrong)

/- THE SECOND FORM. 'bulk': how many values and letters a reading holds, each counted each time it is reached (what is shared counts as often as it is met; a slice's spare places count too). A statement '..UptoSaid' is the law's where the arguments, and the package variables that the reading takes, are together of bulk at most 1048576: NARROWER than '..Said'. Prove '..Said' where nothing that the law and all that it calls make is longer than what came in: it says more and counts as full. Else prove '..UptoSaid'. A law counts once. -/
mutual
def uptoBulk {H : Type} : DataW H → Nat
  | .lit (.string bytes) => bytes.length + 1
  | .lit _ => 1
  | .nil => 1
  | .ptr d => uptoBulk d + 1
  | .slice elems spare => uptoBulkAll elems + uptoBulkAll spare + 1
  | .agg parts => uptoBulkAll parts + 1
  | .iface _ d => uptoBulk d + 1
  | .map entries => uptoBulkEntries entries + 1
  | .held _ => 1
def uptoBulkAll {H : Type} : List (DataW H) → Nat
  | [] => 0
  | d :: r => uptoBulk d + uptoBulkAll r
def uptoBulkEntries {H : Type} : List (Lit × DataW H) → Nat
  | [] => 0
  | x :: r => uptoBulkEntry x + uptoBulkEntries r
def uptoBulkEntry {H : Type} : Lit × DataW H → Nat
  | (.string bytes, d) => bytes.length + uptoBulk d + 1
  | (_, d) => uptoBulk d + 1
 end
def uptoSmall : (H : Type) → List (DataW H) → Bool := fun _ ds => decide (uptoBulkAll ds ≤ 1048576)
def OpenSpec.upto (s : _root_.Go.ChangeSpec) : _root_.Go.OpenSpec := { _root_.Go.OpenSpec.ofChange s with cond := some uptoSmall }

/-- 'analemmalaw21.FormatAbbrs', WHERE WHAT IT READS IS OF BULK AT MOST 1048576: true; the input reads as it did. -/
def formatAbbrsUptoRow : OpenClaim := { program := "ytcohbcdhcmajiaadoor", sum := "d24a3f05c87ee380e62986a98d43c5029b9a265fba869265bcb6f55881bb10cd", func := "analemma/analemmalaw21.FormatAbbrs", spec := "formatAbbrs", inPlace := ["internal/bytealg.IndexByteString", "internal/bytealg.IndexString", "internal/bytealg.CountString", "internal/abi.NoEscape", "internal/bytealg.MakeNoZero"], unfollowed := true, recurses := true, named := ["internal/bytealg.MaxLen", "analemma/name.classes", "unicode/utf8.first", "unicode/utf8.acceptRanges"], apart := false, laid := [("unicode/utf8.acceptRanges", laid_unicode_utf8_acceptRanges), ("analemma/name.classes", laid_analemma_name_classes), ("unicode/utf8.first", laid_unicode_utf8_first)], narrowed := true }
def FormatAbbrsUptoSaid : Prop := formatAbbrsUptoRow.holds Tryd.pinned (OpenSpec.upto formatAbbrsSpec)

/-- 'analemmalaw21.FormatChecks', WHERE WHAT IT READS IS OF BULK AT MOST 1048576: true; the input reads as it did. -/
def formatChecksUptoRow : OpenClaim := { program := "ytcohbcdhcmajiaadoor", sum := "d24a3f05c87ee380e62986a98d43c5029b9a265fba869265bcb6f55881bb10cd", func := "analemma/analemmalaw21.FormatChecks", spec := "formatChecks", inPlace := ["internal/bytealg.IndexByteString", "internal/bytealg.IndexString", "internal/bytealg.CountString", "internal/abi.NoEscape", "internal/bytealg.MakeNoZero"], unfollowed := true, recurses := true, named := ["internal/bytealg.MaxLen", "analemma/name.classes", "unicode/utf8.first", "unicode/utf8.acceptRanges"], apart := false, laid := [("unicode/utf8.acceptRanges", laid_unicode_utf8_acceptRanges), ("analemma/name.classes", laid_analemma_name_classes), ("unicode/utf8.first", laid_unicode_utf8_first)], narrowed := true }
def FormatChecksUptoSaid : Prop := formatChecksUptoRow.holds Tryd.pinned (OpenSpec.upto formatChecksSpec)

/-- 'analemmalaw21.FormatStates', WHERE WHAT IT READS IS OF BULK AT MOST 1048576: true; the input reads as it did. -/
def formatStatesUptoRow : OpenClaim := { program := "ytcohbcdhcmajiaadoor", sum := "d24a3f05c87ee380e62986a98d43c5029b9a265fba869265bcb6f55881bb10cd", func := "analemma/analemmalaw21.FormatStates", spec := "formatStates", inPlace := ["internal/abi.NoEscape", "internal/bytealg.MakeNoZero", "internal/bytealg.IndexByteString", "internal/bytealg.IndexString", "internal/bytealg.CountString"], unfollowed := true, recurses := true, named := ["internal/bytealg.MaxLen", "analemma/name.classes", "unicode/utf8.first", "unicode/utf8.acceptRanges"], apart := false, laid := [("unicode/utf8.acceptRanges", laid_unicode_utf8_acceptRanges), ("analemma/name.classes", laid_analemma_name_classes), ("unicode/utf8.first", laid_unicode_utf8_first)], narrowed := true }
def FormatStatesUptoSaid : Prop := formatStatesUptoRow.holds Tryd.pinned (OpenSpec.upto formatStatesSpec)

/-- 'analemmalaw21.FormatNumbers', WHERE WHAT IT READS IS OF BULK AT MOST 1048576: true; the input reads as it did. -/
def formatNumbersUptoRow : OpenClaim := { program := "ytcohbcdhcmajiaadoor", sum := "d24a3f05c87ee380e62986a98d43c5029b9a265fba869265bcb6f55881bb10cd", func := "analemma/analemmalaw21.FormatNumbers", spec := "formatNumbers", inPlace := ["internal/abi.NoEscape", "internal/bytealg.MakeNoZero", "internal/bytealg.IndexByteString", "internal/bytealg.IndexString", "internal/bytealg.CountString"], unfollowed := true, recurses := true, named := ["internal/bytealg.MaxLen", "analemma/name.classes", "unicode/utf8.first", "unicode/utf8.acceptRanges"], apart := false, laid := [("unicode/utf8.acceptRanges", laid_unicode_utf8_acceptRanges), ("analemma/name.classes", laid_analemma_name_classes), ("unicode/utf8.first", laid_unicode_utf8_first)], narrowed := true }
def FormatNumbersUptoSaid : Prop := formatNumbersUptoRow.holds Tryd.pinned (OpenSpec.upto formatNumbersSpec)

/-- 'analemmalaw21.FormatKinds', WHERE WHAT IT READS IS OF BULK AT MOST 1048576: true; the input reads as it did. -/
def formatKindsUptoRow : OpenClaim := { program := "ytcohbcdhcmajiaadoor", sum := "d24a3f05c87ee380e62986a98d43c5029b9a265fba869265bcb6f55881bb10cd", func := "analemma/analemmalaw21.FormatKinds", spec := "formatKinds", inPlace := ["internal/bytealg.IndexByteString", "internal/bytealg.IndexString", "internal/bytealg.CountString", "internal/abi.NoEscape", "internal/bytealg.MakeNoZero"], unfollowed := true, recurses := true, named := ["internal/bytealg.MaxLen", "analemma/name.classes", "unicode/utf8.first", "unicode/utf8.acceptRanges"], apart := false, laid := [("unicode/utf8.acceptRanges", laid_unicode_utf8_acceptRanges), ("analemma/name.classes", laid_analemma_name_classes), ("unicode/utf8.first", laid_unicode_utf8_first)], narrowed := true }
def FormatKindsUptoSaid : Prop := formatKindsUptoRow.holds Tryd.pinned (OpenSpec.upto formatKindsSpec)

/-- 'analemmalaw21.FormatRefuses', WHERE WHAT IT READS IS OF BULK AT MOST 1048576: true; the input reads as it did. -/
def formatRefusesUptoRow : OpenClaim := { program := "ytcohbcdhcmajiaadoor", sum := "d24a3f05c87ee380e62986a98d43c5029b9a265fba869265bcb6f55881bb10cd", func := "analemma/analemmalaw21.FormatRefuses", spec := "formatRefuses", inPlace := ["internal/abi.NoEscape", "internal/bytealg.MakeNoZero", "internal/bytealg.IndexByteString", "internal/bytealg.IndexString", "internal/bytealg.CountString"], unfollowed := true, recurses := true, named := ["internal/bytealg.MaxLen", "analemma/name.classes", "unicode/utf8.first", "unicode/utf8.acceptRanges"], apart := false, laid := [("unicode/utf8.acceptRanges", laid_unicode_utf8_acceptRanges), ("analemma/name.classes", laid_analemma_name_classes), ("unicode/utf8.first", laid_unicode_utf8_first)], narrowed := true }
def FormatRefusesUptoSaid : Prop := formatRefusesUptoRow.holds Tryd.pinned (OpenSpec.upto formatRefusesSpec)

/-- 'analemmalaw22.UntilEnds', WHERE WHAT IT READS IS OF BULK AT MOST 1048576: true; the input reads as it did. -/
def untilEndsUptoRow : OpenClaim := { program := "ytcohbcdhcmajiaadoor", sum := "d24a3f05c87ee380e62986a98d43c5029b9a265fba869265bcb6f55881bb10cd", func := "analemma/analemmalaw22.UntilEnds", spec := "untilEnds", unfollowed := true, recurses := true, named := ["analemma/civil.before"], apart := false, laid := [("analemma/civil.before", laid_analemma_civil_before)], narrowed := true }
def UntilEndsUptoSaid : Prop := untilEndsUptoRow.holds Tryd.pinned (OpenSpec.upto untilEndsSpec)

/-- 'analemmalaw22.UntilInstants', WHERE WHAT IT READS IS OF BULK AT MOST 1048576: true; the input reads as it did. -/
def untilInstantsUptoRow : OpenClaim := { program := "ytcohbcdhcmajiaadoor", sum := "d24a3f05c87ee380e62986a98d43c5029b9a265fba869265bcb6f55881bb10cd", func := "analemma/analemmalaw22.UntilInstants", spec := "untilInstants", unfollowed := true, recurses := true, named := ["analemma/civil.before"], apart := false, laid := [("analemma/civil.before", laid_analemma_civil_before)], narrowed := true }
def UntilInstantsUptoSaid : Prop := untilInstantsUptoRow.holds Tryd.pinned (OpenSpec.upto untilInstantsSpec)

/-- 'analemmalaw22.UntilNear', WHERE WHAT IT READS IS OF BULK AT MOST 1048576: true; the input reads as it did. -/
def untilNearUptoRow : OpenClaim := { program := "ytcohbcdhcmajiaadoor", sum := "d24a3f05c87ee380e62986a98d43c5029b9a265fba869265bcb6f55881bb10cd", func := "analemma/analemmalaw22.UntilNear", spec := "untilNear", unfollowed := true, recurses := true, named := ["analemma/civil.before"], apart := false, laid := [("analemma/civil.before", laid_analemma_civil_before)], narrowed := true }
def UntilNearUptoSaid : Prop := untilNearUptoRow.holds Tryd.pinned (OpenSpec.upto untilNearSpec)

/-- 'analemmalaw22.UntilShift', WHERE WHAT IT READS IS OF BULK AT MOST 1048576: true; the input reads as it did. -/
def untilShiftUptoRow : OpenClaim := { program := "ytcohbcdhcmajiaadoor", sum := "d24a3f05c87ee380e62986a98d43c5029b9a265fba869265bcb6f55881bb10cd", func := "analemma/analemmalaw22.UntilShift", spec := "untilShift", unfollowed := true, recurses := true, named := ["analemma/civil.before"], apart := false, laid := [("analemma/civil.before", laid_analemma_civil_before)], narrowed := true }
def UntilShiftUptoSaid : Prop := untilShiftUptoRow.holds Tryd.pinned (OpenSpec.upto untilShiftSpec)

/-- 'analemmalaw22.UntilOrder', WHERE WHAT IT READS IS OF BULK AT MOST 1048576: true; the input reads as it did. -/
def untilOrderUptoRow : OpenClaim := { program := "ytcohbcdhcmajiaadoor", sum := "d24a3f05c87ee380e62986a98d43c5029b9a265fba869265bcb6f55881bb10cd", func := "analemma/analemmalaw22.UntilOrder", spec := "untilOrder", unfollowed := true, recurses := true, named := ["analemma/civil.before"], apart := false, laid := [("analemma/civil.before", laid_analemma_civil_before)], narrowed := true }
def UntilOrderUptoSaid : Prop := untilOrderUptoRow.holds Tryd.pinned (OpenSpec.upto untilOrderSpec)

/-- 'analemmalaw22.UntilRefuses', WHERE WHAT IT READS IS OF BULK AT MOST 1048576: true; the input reads as it did. -/
def untilRefusesUptoRow : OpenClaim := { program := "ytcohbcdhcmajiaadoor", sum := "d24a3f05c87ee380e62986a98d43c5029b9a265fba869265bcb6f55881bb10cd", func := "analemma/analemmalaw22.UntilRefuses", spec := "untilRefuses", unfollowed := true, recurses := true, named := ["analemma/civil.before"], apart := false, laid := [("analemma/civil.before", laid_analemma_civil_before)], narrowed := true }
def UntilRefusesUptoSaid : Prop := untilRefusesUptoRow.holds Tryd.pinned (OpenSpec.upto untilRefusesSpec)

end Rows
end Go.Proofs.YtcohbcdhcmajiaaDoor
