/-
  NARROWER THAN 'FOR EVERY INPUT', by the rows' own cells (each row's printed sentence says how): NameStrings: laid · NameParts: laid · NameBytes: laid · NameAmong: laid · LinklineReads: laid · LinklinePrints: laid · LinklineBack: laid · LinklineNames: laid · LinklineNumbers: laid.
  DERIVED. THE GIVEN ROWS OF THIS SEAT. 9 by the template 'for every input the law returns true; each argument reads behind the call as it read before'; 0 by the template 'total and deterministic' (their statements: YtgmmcmfnniaekaaDoorTotals.lean).
  GIVEN WITH THE SEED: the statements are not yours to turn. If you find one false, say at which input.
  Laid BY PROGRAM, IN A SANDBOX (cutbox-rows.mjs): the forced cells as the released guide's own fill.sh prints them over the translation 8a7e214a6bf31ef0… (all of the seat's roots in one cut). By AI agents, Wed Nov 11 2026. No macro, syntax, notation, axiom, sorry.
-/
import Derived.Test.YtgmmcmfnniaekaaDoorChecked
import GoSem.PinnedTables
import GoSem.Claim
import GoSem.ClaimJoined
import GoSem.ClaimMapViews
import Derived.JoinedTies
import Derived.KernelRfl
namespace Go.Proofs.YtgmmcmfnniaekaaDoor
/- THE CELL 'sum', in the pinned program and in every row, IS THE sha256 OF THE DUMP (.gsa) THAT YtgmmcmfnniaekaaDoorProg.lean LOADS. Nothing in Lean hashes anything: it is a label: what it is worth is what the hold of that sum in a sandbox is worth. -/
noncomputable def Tryd.pinned : Pinned := { name := "ytgmmcmfnniaekaadoor", sum := "8a7e214a6bf31ef0a18907ccdf1f2023a2df56ebe622a8b051111525a57076ab", checked := Tryd.checked }
namespace Rows
def none {H : Type} : Left H := { results := [], args := [] }

/- WHAT THE LISTED PACKAGE-LEVEL VARIABLES READ AS WHEN THE CALL BEGINS. Each datum BY PROGRAM (the guide's laid-datum.mjs) off the statement by which the dump's own 'gosem.cut.vars' lays the variable. In a bare row this is a premise. The card (YtgmmcmfnniaekaaDoorCards.lean) ties it to the program's text. -/
def laid_unicode_utf8_acceptRanges {H : Type} : DataW H := .agg [.agg [.lit (.int .u8 128), .lit (.int .u8 191)], .agg [.lit (.int .u8 160), .lit (.int .u8 191)], .agg [.lit (.int .u8 128), .lit (.int .u8 159)], .agg [.lit (.int .u8 144), .lit (.int .u8 191)], .agg [.lit (.int .u8 128), .lit (.int .u8 143)], .agg [.lit (.int .u8 0), .lit (.int .u8 0)], .agg [.lit (.int .u8 0), .lit (.int .u8 0)], .agg [.lit (.int .u8 0), .lit (.int .u8 0)], .agg [.lit (.int .u8 0), .lit (.int .u8 0)], .agg [.lit (.int .u8 0), .lit (.int .u8 0)], .agg [.lit (.int .u8 0), .lit (.int .u8 0)], .agg [.lit (.int .u8 0), .lit (.int .u8 0)], .agg [.lit (.int .u8 0), .lit (.int .u8 0)], .agg [.lit (.int .u8 0), .lit (.int .u8 0)], .agg [.lit (.int .u8 0), .lit (.int .u8 0)], .agg [.lit (.int .u8 0), .lit (.int .u8 0)]]
def laid_analemma_name_classes {H : Type} : DataW H := .agg [.lit (.int .u8 0), .lit (.int .u8 0), .lit (.int .u8 0), .lit (.int .u8 0), .lit (.int .u8 0), .lit (.int .u8 0), .lit (.int .u8 0), .lit (.int .u8 0), .lit (.int .u8 0), .lit (.int .u8 0), .lit (.int .u8 0), .lit (.int .u8 0), .lit (.int .u8 0), .lit (.int .u8 0), .lit (.int .u8 0), .lit (.int .u8 0), .lit (.int .u8 0), .lit (.int .u8 0), .lit (.int .u8 0), .lit (.int .u8 0), .lit (.int .u8 0), .lit (.int .u8 0), .lit (.int .u8 0), .lit (.int .u8 0), .lit (.int .u8 0), .lit (.int .u8 0), .lit (.int .u8 0), .lit (.int .u8 0), .lit (.int .u8 0), .lit (.int .u8 0), .lit (.int .u8 0), .lit (.int .u8 0), .lit (.int .u8 0), .lit (.int .u8 0), .lit (.int .u8 0), .lit (.int .u8 0), .lit (.int .u8 0), .lit (.int .u8 0), .lit (.int .u8 0), .lit (.int .u8 0), .lit (.int .u8 0), .lit (.int .u8 0), .lit (.int .u8 0), .lit (.int .u8 16), .lit (.int .u8 0), .lit (.int .u8 4), .lit (.int .u8 8), .lit (.int .u8 0), .lit (.int .u8 2), .lit (.int .u8 2), .lit (.int .u8 2), .lit (.int .u8 2), .lit (.int .u8 2), .lit (.int .u8 2), .lit (.int .u8 2), .lit (.int .u8 2), .lit (.int .u8 2), .lit (.int .u8 2), .lit (.int .u8 0), .lit (.int .u8 0), .lit (.int .u8 0), .lit (.int .u8 0), .lit (.int .u8 0), .lit (.int .u8 0), .lit (.int .u8 0), .lit (.int .u8 1), .lit (.int .u8 1), .lit (.int .u8 1), .lit (.int .u8 1), .lit (.int .u8 1), .lit (.int .u8 1), .lit (.int .u8 1), .lit (.int .u8 1), .lit (.int .u8 1), .lit (.int .u8 1), .lit (.int .u8 1), .lit (.int .u8 1), .lit (.int .u8 1), .lit (.int .u8 1), .lit (.int .u8 1), .lit (.int .u8 1), .lit (.int .u8 1), .lit (.int .u8 1), .lit (.int .u8 1), .lit (.int .u8 1), .lit (.int .u8 1), .lit (.int .u8 1), .lit (.int .u8 1), .lit (.int .u8 1), .lit (.int .u8 1), .lit (.int .u8 1), .lit (.int .u8 0), .lit (.int .u8 0), .lit (.int .u8 0), .lit (.int .u8 0), .lit (.int .u8 4), .lit (.int .u8 0), .lit (.int .u8 1), .lit (.int .u8 1), .lit (.int .u8 1), .lit (.int .u8 1), .lit (.int .u8 1), .lit (.int .u8 1), .lit (.int .u8 1), .lit (.int .u8 1), .lit (.int .u8 1), .lit (.int .u8 1), .lit (.int .u8 1), .lit (.int .u8 1), .lit (.int .u8 1), .lit (.int .u8 1), .lit (.int .u8 1), .lit (.int .u8 1), .lit (.int .u8 1), .lit (.int .u8 1), .lit (.int .u8 1), .lit (.int .u8 1), .lit (.int .u8 1), .lit (.int .u8 1), .lit (.int .u8 1), .lit (.int .u8 1), .lit (.int .u8 1), .lit (.int .u8 1), .lit (.int .u8 0), .lit (.int .u8 0), .lit (.int .u8 0), .lit (.int .u8 0), .lit (.int .u8 0)]
/-- One of Go's own tables, pinned by name: the form's constant. -/
def laid_unicode_utf8_first : DataW Unit := Go.Pinned.utf8First

/-- 'analemmalaw07.NameStrings': WHATEVER THE INPUT: true; the input reads as it did. -/
def nameStringsSpec : ChangeSpec := { name := "nameStrings", fn := fun _ => fun
  | [d] => { results := [.lit (.bool true)], args := [d] }
  | _ => none }
def nameStringsRow : OpenClaim := { program := "ytgmmcmfnniaekaadoor", sum := "8a7e214a6bf31ef0a18907ccdf1f2023a2df56ebe622a8b051111525a57076ab", func := "analemma/analemmalaw07.NameStrings", spec := "nameStrings", inPlace := ["internal/bytealg.IndexByteString", "internal/bytealg.IndexString"], unfollowed := true, recurses := true, named := ["unicode/utf8.first", "unicode/utf8.acceptRanges", "internal/bytealg.MaxLen", "analemma/name.classes"], apart := false, laid := [("unicode/utf8.acceptRanges", laid_unicode_utf8_acceptRanges), ("analemma/name.classes", laid_analemma_name_classes), ("unicode/utf8.first", laid_unicode_utf8_first)] }
def NameStringsSaid : Prop := nameStringsRow.holds Tryd.pinned (OpenSpec.ofChange nameStringsSpec)

/-- ITS FALSE NEIGHBOUR: 'it returns false'. Refute it at one input. -/
def nameStringsWrong : ChangeSpec := { name := "nameStrings", fn := fun _ => fun
  | [d] => { results := [.lit (.bool false)], args := [d] }
  | _ => none }
def NameStringsWrongFalsely : Prop := nameStringsRow.holds Tryd.pinned (OpenSpec.ofChange nameStringsWrong)

/-- 'analemmalaw07.NameParts': WHATEVER THE INPUT: true; the input reads as it did. -/
def namePartsSpec : ChangeSpec := { name := "nameParts", fn := fun _ => fun
  | [d1, d2, d3] => { results := [.lit (.bool true)], args := [d1, d2, d3] }
  | _ => none }
def namePartsRow : OpenClaim := { program := "ytgmmcmfnniaekaadoor", sum := "8a7e214a6bf31ef0a18907ccdf1f2023a2df56ebe622a8b051111525a57076ab", func := "analemma/analemmalaw07.NameParts", spec := "nameParts", inPlace := ["internal/bytealg.IndexByteString", "internal/bytealg.IndexString", "internal/bytealg.CountString", "internal/abi.NoEscape", "internal/bytealg.MakeNoZero"], unfollowed := true, recurses := true, named := ["unicode/utf8.first", "unicode/utf8.acceptRanges", "internal/bytealg.MaxLen", "analemma/name.classes"], apart := false, laid := [("unicode/utf8.acceptRanges", laid_unicode_utf8_acceptRanges), ("analemma/name.classes", laid_analemma_name_classes), ("unicode/utf8.first", laid_unicode_utf8_first)] }
def NamePartsSaid : Prop := namePartsRow.holds Tryd.pinned (OpenSpec.ofChange namePartsSpec)

/-- ITS FALSE NEIGHBOUR: 'it returns false'. Refute it at one input. -/
def namePartsWrong : ChangeSpec := { name := "nameParts", fn := fun _ => fun
  | [d1, d2, d3] => { results := [.lit (.bool false)], args := [d1, d2, d3] }
  | _ => none }
def NamePartsWrongFalsely : Prop := namePartsRow.holds Tryd.pinned (OpenSpec.ofChange namePartsWrong)

/-- 'analemmalaw07.NameBytes': WHATEVER THE INPUT: true; the input reads as it did. -/
def nameBytesSpec : ChangeSpec := { name := "nameBytes", fn := fun _ => fun
  | [d1, d2, d3, d4] => { results := [.lit (.bool true)], args := [d1, d2, d3, d4] }
  | _ => none }
def nameBytesRow : OpenClaim := { program := "ytgmmcmfnniaekaadoor", sum := "8a7e214a6bf31ef0a18907ccdf1f2023a2df56ebe622a8b051111525a57076ab", func := "analemma/analemmalaw07.NameBytes", spec := "nameBytes", inPlace := ["internal/bytealg.IndexByteString", "internal/bytealg.IndexString"], unfollowed := true, recurses := true, named := ["unicode/utf8.first", "unicode/utf8.acceptRanges", "internal/bytealg.MaxLen", "analemma/name.classes"], apart := false, laid := [("unicode/utf8.acceptRanges", laid_unicode_utf8_acceptRanges), ("analemma/name.classes", laid_analemma_name_classes), ("unicode/utf8.first", laid_unicode_utf8_first)] }
def NameBytesSaid : Prop := nameBytesRow.holds Tryd.pinned (OpenSpec.ofChange nameBytesSpec)

/-- ITS FALSE NEIGHBOUR: 'it returns false'. Refute it at one input. -/
def nameBytesWrong : ChangeSpec := { name := "nameBytes", fn := fun _ => fun
  | [d1, d2, d3, d4] => { results := [.lit (.bool false)], args := [d1, d2, d3, d4] }
  | _ => none }
def NameBytesWrongFalsely : Prop := nameBytesRow.holds Tryd.pinned (OpenSpec.ofChange nameBytesWrong)

/-- 'analemmalaw07.NameAmong': WHATEVER THE INPUT: true; the input reads as it did. -/
def nameAmongSpec : ChangeSpec := { name := "nameAmong", fn := fun _ => fun
  | [d1, d2] => { results := [.lit (.bool true)], args := [d1, d2] }
  | _ => none }
def nameAmongRow : OpenClaim := { program := "ytgmmcmfnniaekaadoor", sum := "8a7e214a6bf31ef0a18907ccdf1f2023a2df56ebe622a8b051111525a57076ab", func := "analemma/analemmalaw07.NameAmong", spec := "nameAmong", inPlace := ["internal/bytealg.IndexByteString", "internal/bytealg.IndexString"], unfollowed := true, recurses := true, named := ["analemma/name.classes", "unicode/utf8.first", "unicode/utf8.acceptRanges", "internal/bytealg.MaxLen"], apart := false, laid := [("unicode/utf8.acceptRanges", laid_unicode_utf8_acceptRanges), ("analemma/name.classes", laid_analemma_name_classes), ("unicode/utf8.first", laid_unicode_utf8_first)] }
def NameAmongSaid : Prop := nameAmongRow.holds Tryd.pinned (OpenSpec.ofChange nameAmongSpec)

/-- ITS FALSE NEIGHBOUR: 'it returns false'. Refute it at one input. -/
def nameAmongWrong : ChangeSpec := { name := "nameAmong", fn := fun _ => fun
  | [d1, d2] => { results := [.lit (.bool false)], args := [d1, d2] }
  | _ => none }
def NameAmongWrongFalsely : Prop := nameAmongRow.holds Tryd.pinned (OpenSpec.ofChange nameAmongWrong)

/-- 'analemmalaw12.LinklineReads': WHATEVER THE INPUT: true; the input reads as it did. -/
def linklineReadsSpec : ChangeSpec := { name := "linklineReads", fn := fun _ => fun
  | [d] => { results := [.lit (.bool true)], args := [d] }
  | _ => none }
def linklineReadsRow : OpenClaim := { program := "ytgmmcmfnniaekaadoor", sum := "8a7e214a6bf31ef0a18907ccdf1f2023a2df56ebe622a8b051111525a57076ab", func := "analemma/analemmalaw12.LinklineReads", spec := "linklineReads", inPlace := ["internal/bytealg.IndexByteString", "internal/bytealg.IndexString", "internal/abi.NoEscape"], unfollowed := true, recurses := true, named := ["unicode/utf8.first", "unicode/utf8.acceptRanges", "internal/bytealg.MaxLen", "analemma/name.classes"], apart := false, laid := [("unicode/utf8.acceptRanges", laid_unicode_utf8_acceptRanges), ("analemma/name.classes", laid_analemma_name_classes), ("unicode/utf8.first", laid_unicode_utf8_first)] }
def LinklineReadsSaid : Prop := linklineReadsRow.holds Tryd.pinned (OpenSpec.ofChange linklineReadsSpec)

/-- ITS FALSE NEIGHBOUR: 'it returns false'. Refute it at one input. -/
def linklineReadsWrong : ChangeSpec := { name := "linklineReads", fn := fun _ => fun
  | [d] => { results := [.lit (.bool false)], args := [d] }
  | _ => none }
def LinklineReadsWrongFalsely : Prop := linklineReadsRow.holds Tryd.pinned (OpenSpec.ofChange linklineReadsWrong)

/-- 'analemmalaw12.LinklinePrints': WHATEVER THE INPUT: true; the input reads as it did. -/
def linklinePrintsSpec : ChangeSpec := { name := "linklinePrints", fn := fun _ => fun
  | [d1, d2] => { results := [.lit (.bool true)], args := [d1, d2] }
  | _ => none }
def linklinePrintsRow : OpenClaim := { program := "ytgmmcmfnniaekaadoor", sum := "8a7e214a6bf31ef0a18907ccdf1f2023a2df56ebe622a8b051111525a57076ab", func := "analemma/analemmalaw12.LinklinePrints", spec := "linklinePrints", inPlace := ["internal/bytealg.IndexByteString", "internal/bytealg.IndexString", "internal/abi.NoEscape"], unfollowed := true, recurses := true, named := ["unicode/utf8.first", "unicode/utf8.acceptRanges", "internal/bytealg.MaxLen", "analemma/name.classes"], apart := false, laid := [("unicode/utf8.acceptRanges", laid_unicode_utf8_acceptRanges), ("analemma/name.classes", laid_analemma_name_classes), ("unicode/utf8.first", laid_unicode_utf8_first)] }
def LinklinePrintsSaid : Prop := linklinePrintsRow.holds Tryd.pinned (OpenSpec.ofChange linklinePrintsSpec)

/-- ITS FALSE NEIGHBOUR: 'it returns false'. Refute it at one input. -/
def linklinePrintsWrong : ChangeSpec := { name := "linklinePrints", fn := fun _ => fun
  | [d1, d2] => { results := [.lit (.bool false)], args := [d1, d2] }
  | _ => none }
def LinklinePrintsWrongFalsely : Prop := linklinePrintsRow.holds Tryd.pinned (OpenSpec.ofChange linklinePrintsWrong)

/-- 'analemmalaw12.LinklineBack': WHATEVER THE INPUT: true; the input reads as it did. -/
def linklineBackSpec : ChangeSpec := { name := "linklineBack", fn := fun _ => fun
  | [d1, d2, d3] => { results := [.lit (.bool true)], args := [d1, d2, d3] }
  | _ => none }
def linklineBackRow : OpenClaim := { program := "ytgmmcmfnniaekaadoor", sum := "8a7e214a6bf31ef0a18907ccdf1f2023a2df56ebe622a8b051111525a57076ab", func := "analemma/analemmalaw12.LinklineBack", spec := "linklineBack", inPlace := ["internal/bytealg.IndexByteString", "internal/bytealg.IndexString", "internal/abi.NoEscape"], unfollowed := true, recurses := true, named := ["unicode/utf8.first", "unicode/utf8.acceptRanges", "internal/bytealg.MaxLen", "analemma/name.classes"], apart := false, laid := [("unicode/utf8.acceptRanges", laid_unicode_utf8_acceptRanges), ("analemma/name.classes", laid_analemma_name_classes), ("unicode/utf8.first", laid_unicode_utf8_first)] }
def LinklineBackSaid : Prop := linklineBackRow.holds Tryd.pinned (OpenSpec.ofChange linklineBackSpec)

/-- ITS FALSE NEIGHBOUR: 'it returns false'. Refute it at one input. -/
def linklineBackWrong : ChangeSpec := { name := "linklineBack", fn := fun _ => fun
  | [d1, d2, d3] => { results := [.lit (.bool false)], args := [d1, d2, d3] }
  | _ => none }
def LinklineBackWrongFalsely : Prop := linklineBackRow.holds Tryd.pinned (OpenSpec.ofChange linklineBackWrong)

/-- 'analemmalaw12.LinklineNames': WHATEVER THE INPUT: true; the input reads as it did. -/
def linklineNamesSpec : ChangeSpec := { name := "linklineNames", fn := fun _ => fun
  | [d1, d2] => { results := [.lit (.bool true)], args := [d1, d2] }
  | _ => none }
def linklineNamesRow : OpenClaim := { program := "ytgmmcmfnniaekaadoor", sum := "8a7e214a6bf31ef0a18907ccdf1f2023a2df56ebe622a8b051111525a57076ab", func := "analemma/analemmalaw12.LinklineNames", spec := "linklineNames", inPlace := ["internal/bytealg.IndexByteString", "internal/bytealg.IndexString", "internal/abi.NoEscape", "internal/bytealg.MakeNoZero"], unfollowed := true, recurses := true, named := ["unicode/utf8.first", "unicode/utf8.acceptRanges", "internal/bytealg.MaxLen", "analemma/name.classes"], apart := false, laid := [("unicode/utf8.acceptRanges", laid_unicode_utf8_acceptRanges), ("analemma/name.classes", laid_analemma_name_classes), ("unicode/utf8.first", laid_unicode_utf8_first)] }
def LinklineNamesSaid : Prop := linklineNamesRow.holds Tryd.pinned (OpenSpec.ofChange linklineNamesSpec)

/-- ITS FALSE NEIGHBOUR: 'it returns false'. Refute it at one input. -/
def linklineNamesWrong : ChangeSpec := { name := "linklineNames", fn := fun _ => fun
  | [d1, d2] => { results := [.lit (.bool false)], args := [d1, d2] }
  | _ => none }
def LinklineNamesWrongFalsely : Prop := linklineNamesRow.holds Tryd.pinned (OpenSpec.ofChange linklineNamesWrong)

/-- 'analemmalaw12.LinklineNumbers': WHATEVER THE INPUT: true; the input reads as it did. -/
def linklineNumbersSpec : ChangeSpec := { name := "linklineNumbers", fn := fun _ => fun
  | [d] => { results := [.lit (.bool true)], args := [d] }
  | _ => none }
def linklineNumbersRow : OpenClaim := { program := "ytgmmcmfnniaekaadoor", sum := "8a7e214a6bf31ef0a18907ccdf1f2023a2df56ebe622a8b051111525a57076ab", func := "analemma/analemmalaw12.LinklineNumbers", spec := "linklineNumbers", inPlace := ["internal/bytealg.IndexByteString", "internal/bytealg.IndexString", "internal/abi.NoEscape"], unfollowed := true, recurses := true, named := ["unicode/utf8.first", "unicode/utf8.acceptRanges", "internal/bytealg.MaxLen", "analemma/name.classes"], apart := false, laid := [("unicode/utf8.acceptRanges", laid_unicode_utf8_acceptRanges), ("analemma/name.classes", laid_analemma_name_classes), ("unicode/utf8.first", laid_unicode_utf8_first)] }
def LinklineNumbersSaid : Prop := linklineNumbersRow.holds Tryd.pinned (OpenSpec.ofChange linklineNumbersSpec)

/-- ITS FALSE NEIGHBOUR: 'it returns false'. Refute it at one input. -/
def linklineNumbersWrong : ChangeSpec := { name := "linklineNumbers", fn := fun _ => fun
  | [d] => { results := [.lit (.bool false)], args := [d] }
  | _ => none }
def LinklineNumbersWrongFalsely : Prop := linklineNumbersRow.holds Tryd.pinned (OpenSpec.ofChange linklineNumbersWrong)

/- THE SECOND FORM. 'bulk': how many values and letters a reading holds, each counted each time it is reached (what is shared counts as often as it is met; a slice's spare places count too). A statement '..UptoSaid' is the law's where the arguments, and the package variables that the reading takes, are together of bulk at most 1048576: NARROWER than '..Said'. Prove '..Said' where nothing that the law and all that it calls make is longer than what came in: it says more and counts as full. Else prove '..UptoSaid'. A law counts once. -/
mutual
def uptoBulk {H : Type} : DataW H → Nat
  | .lit (.string bytes) => bytes.length + 1
  | .lit _ => 1
  | .nil => 1
  | .ptr d => uptoBulk d + 1
  | .slice elems spare => uptoBulkAll elems + uptoBulkAll spare + 1
  | .agg parts => uptoBulkAll parts + 1
  | .iface _ d => uptoBulk d + 1
  | .map entries => uptoBulkEntries entries + 1
  | .held _ => 1
def uptoBulkAll {H : Type} : List (DataW H) → Nat
  | [] => 0
  | d :: r => uptoBulk d + uptoBulkAll r
def uptoBulkEntries {H : Type} : List (Lit × DataW H) → Nat
  | [] => 0
  | x :: r => uptoBulkEntry x + uptoBulkEntries r
def uptoBulkEntry {H : Type} : Lit × DataW H → Nat
  | (.string bytes, d) => bytes.length + uptoBulk d + 1
  | (_, d) => uptoBulk d + 1
 end
def uptoSmall : (H : Type) → List (DataW H) → Bool := fun _ ds => decide (uptoBulkAll ds ≤ 1048576)
def OpenSpec.upto (s : _root_.Go.ChangeSpec) : _root_.Go.OpenSpec := { _root_.Go.OpenSpec.ofChange s with cond := some uptoSmall }

/-- 'analemmalaw07.NameStrings', WHERE WHAT IT READS IS OF BULK AT MOST 1048576: true; the input reads as it did. -/
def nameStringsUptoRow : OpenClaim := { program := "ytgmmcmfnniaekaadoor", sum := "8a7e214a6bf31ef0a18907ccdf1f2023a2df56ebe622a8b051111525a57076ab", func := "analemma/analemmalaw07.NameStrings", spec := "nameStrings", inPlace := ["internal/bytealg.IndexByteString", "internal/bytealg.IndexString"], unfollowed := true, recurses := true, named := ["unicode/utf8.first", "unicode/utf8.acceptRanges", "internal/bytealg.MaxLen", "analemma/name.classes"], apart := false, laid := [("unicode/utf8.acceptRanges", laid_unicode_utf8_acceptRanges), ("analemma/name.classes", laid_analemma_name_classes), ("unicode/utf8.first", laid_unicode_utf8_first)], narrowed := true }
def NameStringsUptoSaid : Prop := nameStringsUptoRow.holds Tryd.pinned (OpenSpec.upto nameStringsSpec)

/-- 'analemmalaw07.NameParts', WHERE WHAT IT READS IS OF BULK AT MOST 1048576: true; the input reads as it did. -/
def namePartsUptoRow : OpenClaim := { program := "ytgmmcmfnniaekaadoor", sum := "8a7e214a6bf31ef0a18907ccdf1f2023a2df56ebe622a8b051111525a57076ab", func := "analemma/analemmalaw07.NameParts", spec := "nameParts", inPlace := ["internal/bytealg.IndexByteString", "internal/bytealg.IndexString", "internal/bytealg.CountString", "internal/abi.NoEscape", "internal/bytealg.MakeNoZero"], unfollowed := true, recurses := true, named := ["unicode/utf8.first", "unicode/utf8.acceptRanges", "internal/bytealg.MaxLen", "analemma/name.classes"], apart := false, laid := [("unicode/utf8.acceptRanges", laid_unicode_utf8_acceptRanges), ("analemma/name.classes", laid_analemma_name_classes), ("unicode/utf8.first", laid_unicode_utf8_first)], narrowed := true }
def NamePartsUptoSaid : Prop := namePartsUptoRow.holds Tryd.pinned (OpenSpec.upto namePartsSpec)

/-- 'analemmalaw07.NameBytes', WHERE WHAT IT READS IS OF BULK AT MOST 1048576: true; the input reads as it did. -/
def nameBytesUptoRow : OpenClaim := { program := "ytgmmcmfnniaekaadoor", sum := "8a7e214a6bf31ef0a18907ccdf1f2023a2df56ebe622a8b051111525a57076ab", func := "analemma/analemmalaw07.NameBytes", spec := "nameBytes", inPlace := ["internal/bytealg.IndexByteString", "internal/bytealg.IndexString"], unfollowed := true, recurses := true, named := ["unicode/utf8.first", "unicode/utf8.acceptRanges", "internal/bytealg.MaxLen", "analemma/name.classes"], apart := false, laid := [("unicode/utf8.acceptRanges", laid_unicode_utf8_acceptRanges), ("analemma/name.classes", laid_analemma_name_classes), ("unicode/utf8.first", laid_unicode_utf8_first)], narrowed := true }
def NameBytesUptoSaid : Prop := nameBytesUptoRow.holds Tryd.pinned (OpenSpec.upto nameBytesSpec)

/-- 'analemmalaw07.NameAmong', WHERE WHAT IT READS IS OF BULK AT MOST 1048576: true; the input reads as it did. -/
def nameAmongUptoRow : OpenClaim := { program := "ytgmmcmfnniaekaadoor", sum := "8a7e214a6bf31ef0a18907ccdf1f2023a2df56ebe622a8b051111525a57076ab", func := "analemma/analemmalaw07.NameAmong", spec := "nameAmong", inPlace := ["internal/bytealg.IndexByteString", "internal/bytealg.IndexString"], unfollowed := true, recurses := true, named := ["analemma/name.classes", "unicode/utf8.first", "unicode/utf8.acceptRanges", "internal/bytealg.MaxLen"], apart := false, laid := [("unicode/utf8.acceptRanges", laid_unicode_utf8_acceptRanges), ("analemma/name.classes", laid_analemma_name_classes), ("unicode/utf8.first", laid_unicode_utf8_first)], narrowed := true }
def NameAmongUptoSaid : Prop := nameAmongUptoRow.holds Tryd.pinned (OpenSpec.upto nameAmongSpec)

/-- 'analemmalaw12.LinklineReads', WHERE WHAT IT READS IS OF BULK AT MOST 1048576: true; the input reads as it did. -/
def linklineReadsUptoRow : OpenClaim := { program := "ytgmmcmfnniaekaadoor", sum := "8a7e214a6bf31ef0a18907ccdf1f2023a2df56ebe622a8b051111525a57076ab", func := "analemma/analemmalaw12.LinklineReads", spec := "linklineReads", inPlace := ["internal/bytealg.IndexByteString", "internal/bytealg.IndexString", "internal/abi.NoEscape"], unfollowed := true, recurses := true, named := ["unicode/utf8.first", "unicode/utf8.acceptRanges", "internal/bytealg.MaxLen", "analemma/name.classes"], apart := false, laid := [("unicode/utf8.acceptRanges", laid_unicode_utf8_acceptRanges), ("analemma/name.classes", laid_analemma_name_classes), ("unicode/utf8.first", laid_unicode_utf8_first)], narrowed := true }
def LinklineReadsUptoSaid : Prop := linklineReadsUptoRow.holds Tryd.pinned (OpenSpec.upto linklineReadsSpec)

/-- 'analemmalaw12.LinklinePrints', WHERE WHAT IT READS IS OF BULK AT MOST 1048576: true; the input reads as it did. -/
def linklinePrintsUptoRow : OpenClaim := { program := "ytgmmcmfnniaekaadoor", sum := "8a7e214a6bf31ef0a18907ccdf1f2023a2df56ebe622a8b051111525a57076ab", func := "analemma/analemmalaw12.LinklinePrints", spec := "linklinePrints", inPlace := ["internal/bytealg.IndexByteString", "internal/bytealg.IndexString", "internal/abi.NoEscape"], unfollowed := true, recurses := true, named := ["unicode/utf8.first", "unicode/utf8.acceptRanges", "internal/bytealg.MaxLen", "analemma/name.classes"], apart := false, laid := [("unicode/utf8.acceptRanges", laid_unicode_utf8_acceptRanges), ("analemma/name.classes", laid_analemma_name_classes), ("unicode/utf8.first", laid_unicode_utf8_first)], narrowed := true }
def LinklinePrintsUptoSaid : Prop := linklinePrintsUptoRow.holds Tryd.pinned (OpenSpec.upto linklinePrintsSpec)

/-- 'analemmalaw12.LinklineBack', WHERE WHAT IT READS IS OF BULK AT MOST 1048576: true; the input reads as it did. -/
def linklineBackUptoRow : OpenClaim := { program := "ytgmmcmfnniaekaadoor", sum := "8a7e214a6bf31ef0a18907ccdf1f2023a2df56ebe622a8b051111525a57076ab", func := "analemma/analemmalaw12.LinklineBack", spec := "linklineBack", inPlace := ["internal/bytealg.IndexByteString", "internal/bytealg.IndexString", "internal/abi.NoEscape"], unfollowed := true, recurses := true, named := ["unicode/utf8.first", "unicode/utf8.acceptRanges", "internal/bytealg.MaxLen", "analemma/name.classes"], apart := false, laid := [("unicode/utf8.acceptRanges", laid_unicode_utf8_acceptRanges), ("analemma/name.classes", laid_analemma_name_classes), ("unicode/utf8.first", laid_unicode_utf8_first)], narrowed := true }
def LinklineBackUptoSaid : Prop := linklineBackUptoRow.holds Tryd.pinned (OpenSpec.upto linklineBackSpec)

/-- 'analemmalaw12.LinklineNames', WHERE WHAT IT READS IS OF BULK AT MOST 1048576: true; the input reads as it did. -/
def linklineNamesUptoRow : OpenClaim := { program := "ytgmmcmfnniaekaadoor", sum := "8a7e214a6bf31ef0a18907ccdf1f2023a2df56ebe622a8b051111525a57076ab", func := "analemma/analemmalaw12.LinklineNames", spec := "linklineNames", inPlace := ["internal/bytealg.IndexByteString", "internal/bytealg.IndexString", "internal/abi.NoEscape", "internal/bytealg.MakeNoZero"], unfollowed := true, recurses := true, named := ["unicode/utf8.first", "unicode/utf8.acceptRanges", "internal/bytealg.MaxLen", "analemma/name.classes"], apart := false, laid := [("unicode/utf8.acceptRanges", laid_unicode_utf8_acceptRanges), ("analemma/name.classes", laid_analemma_name_classes), ("unicode/utf8.first", laid_unicode_utf8_first)], narrowed := true }
def LinklineNamesUptoSaid : Prop := linklineNamesUptoRow.holds Tryd.pinned (OpenSpec.upto linklineNamesSpec)

/-- 'analemmalaw12.LinklineNumbers', WHERE WHAT IT READS IS OF BULK AT MOST 1048576: true; the input reads as it did. -/
def linklineNumbersUptoRow : OpenClaim := { program := "ytgmmcmfnniaekaadoor", sum := "8a7e214a6bf31ef0a18907ccdf1f2023a2df56ebe622a8b051111525a57076ab", func := "analemma/analemmalaw12.LinklineNumbers", spec := "linklineNumbers", inPlace := ["internal/bytealg.IndexByteString", "internal/bytealg.IndexString", "internal/abi.NoEscape"], unfollowed := true, recurses := true, named := ["unicode/utf8.first", "unicode/utf8.acceptRanges", "internal/bytealg.MaxLen", "analemma/name.classes"], apart := false, laid := [("unicode/utf8.acceptRanges", laid_unicode_utf8_acceptRanges), ("analemma/name.classes", laid_analemma_name_classes), ("unicode/utf8.first", laid_unicode_utf8_first)], narrowed := true }
def LinklineNumbersUptoSaid : Prop := linklineNumbersUptoRow.holds Tryd.pinned (OpenSpec.upto linklineNumbersSpec)

end Rows
end Go.Proofs.YtgmmcmfnniaekaaDoor
