/-
  NARROWER THAN 'FOR EVERY INPUT', by the rows' own cells (each row's printed sentence says how): LexemeLines: laid · LexemeFields: laid · LexemeBack: laid · LexemeText: laid · LexemeQuotes: laid · LexemeWrong: laid · LexemeLong: laid · LexemeHuge: laid.
  DERIVED. THE GIVEN ROWS OF THIS SEAT. 8 by the template 'for every input the law returns true; each argument reads behind the call as it read before'; 0 by the template 'total and deterministic' (their statements: YtgehedalhppehaaDoorTotals.lean).
  GIVEN WITH THE SEED: the statements are not yours to turn. If you find one false, say at which input.
  Laid BY PROGRAM, IN A SANDBOX (cutbox-rows.mjs): the forced cells as the released guide's own fill.sh prints them over the translation a36d3d5e4b793365… (all of the seat's roots in one cut). By AI agents, Wed Nov 11 2026. No macro, syntax, notation, axiom, sorry.
-/
import Derived.Test.YtgehedalhppehaaDoorChecked
import GoSem.PinnedTables
import GoSem.Claim
import GoSem.ClaimJoined
import GoSem.ClaimMapViews
import Derived.JoinedTies
import Derived.KernelRfl
namespace Go.Proofs.YtgehedalhppehaaDoor
/- THE CELL 'sum', in the pinned program and in every row, IS THE sha256 OF THE DUMP (.gsa) THAT YtgehedalhppehaaDoorProg.lean LOADS. Nothing in Lean hashes anything: it is a label: what it is worth is what the hold of that sum in a sandbox is worth. -/
noncomputable def Tryd.pinned : Pinned := { name := "ytgehedalhppehaadoor", sum := "a36d3d5e4b7933652ea0cb763c1342b9cf89265f498d8840db376936696c9d32", checked := Tryd.checked }
namespace Rows
def none {H : Type} : Left H := { results := [], args := [] }

/- WHAT THE LISTED PACKAGE-LEVEL VARIABLES READ AS WHEN THE CALL BEGINS. Each datum BY PROGRAM (the guide's laid-datum.mjs) off the statement by which the dump's own 'gosem.cut.vars' lays the variable. In a bare row this is a premise. The card (YtgehedalhppehaaDoorCards.lean) ties it to the program's text. -/
def laid_unicode_utf8_acceptRanges {H : Type} : DataW H := .agg [.agg [.lit (.int .u8 128), .lit (.int .u8 191)], .agg [.lit (.int .u8 160), .lit (.int .u8 191)], .agg [.lit (.int .u8 128), .lit (.int .u8 159)], .agg [.lit (.int .u8 144), .lit (.int .u8 191)], .agg [.lit (.int .u8 128), .lit (.int .u8 143)], .agg [.lit (.int .u8 0), .lit (.int .u8 0)], .agg [.lit (.int .u8 0), .lit (.int .u8 0)], .agg [.lit (.int .u8 0), .lit (.int .u8 0)], .agg [.lit (.int .u8 0), .lit (.int .u8 0)], .agg [.lit (.int .u8 0), .lit (.int .u8 0)], .agg [.lit (.int .u8 0), .lit (.int .u8 0)], .agg [.lit (.int .u8 0), .lit (.int .u8 0)], .agg [.lit (.int .u8 0), .lit (.int .u8 0)], .agg [.lit (.int .u8 0), .lit (.int .u8 0)], .agg [.lit (.int .u8 0), .lit (.int .u8 0)], .agg [.lit (.int .u8 0), .lit (.int .u8 0)]]
/-- One of Go's own tables, pinned by name: the form's constant. -/
def laid_unicode_utf8_first : DataW Unit := Go.Pinned.utf8First

/-- 'analemmalaw05.LexemeLines': WHATEVER THE INPUT: true; the input reads as it did. -/
def lexemeLinesSpec : ChangeSpec := { name := "lexemeLines", fn := fun _ => fun
  | [d] => { results := [.lit (.bool true)], args := [d] }
  | _ => none }
def lexemeLinesRow : OpenClaim := { program := "ytgehedalhppehaadoor", sum := "a36d3d5e4b7933652ea0cb763c1342b9cf89265f498d8840db376936696c9d32", func := "analemma/analemmalaw05.LexemeLines", spec := "lexemeLines", inPlace := ["internal/bytealg.CountString", "internal/bytealg.IndexByteString", "internal/bytealg.IndexString", "internal/abi.NoEscape"], unfollowed := true, recurses := true, named := ["unicode/utf8.first", "unicode/utf8.acceptRanges", "internal/bytealg.MaxLen"], apart := false, laid := [("unicode/utf8.acceptRanges", laid_unicode_utf8_acceptRanges), ("unicode/utf8.first", laid_unicode_utf8_first)] }
def LexemeLinesSaid : Prop := lexemeLinesRow.holds Tryd.pinned (OpenSpec.ofChange lexemeLinesSpec)

/-- ITS FALSE NEIGHBOUR: 'it returns false'. Refute it at one input. -/
def lexemeLinesWrong : ChangeSpec := { name := "lexemeLines", fn := fun _ => fun
  | [d] => { results := [.lit (.bool false)], args := [d] }
  | _ => none }
def LexemeLinesWrongFalsely : Prop := lexemeLinesRow.holds Tryd.pinned (OpenSpec.ofChange lexemeLinesWrong)

/-- 'analemmalaw05.LexemeFields': WHATEVER THE INPUT: true; the input reads as it did. -/
def lexemeFieldsSpec : ChangeSpec := { name := "lexemeFields", fn := fun _ => fun
  | [d1, d2] => { results := [.lit (.bool true)], args := [d1, d2] }
  | _ => none }
def lexemeFieldsRow : OpenClaim := { program := "ytgehedalhppehaadoor", sum := "a36d3d5e4b7933652ea0cb763c1342b9cf89265f498d8840db376936696c9d32", func := "analemma/analemmalaw05.LexemeFields", spec := "lexemeFields", inPlace := ["internal/bytealg.CountString", "internal/bytealg.IndexByteString", "internal/bytealg.IndexString", "internal/abi.NoEscape"], unfollowed := true, recurses := true, named := ["unicode/utf8.first", "unicode/utf8.acceptRanges", "internal/bytealg.MaxLen"], apart := false, laid := [("unicode/utf8.acceptRanges", laid_unicode_utf8_acceptRanges), ("unicode/utf8.first", laid_unicode_utf8_first)] }
def LexemeFieldsSaid : Prop := lexemeFieldsRow.holds Tryd.pinned (OpenSpec.ofChange lexemeFieldsSpec)

/-- ITS FALSE NEIGHBOUR: 'it returns false'. Refute it at one input. -/
def lexemeFieldsWrong : ChangeSpec := { name := "lexemeFields", fn := fun _ => fun
  | [d1, d2] => { results := [.lit (.bool false)], args := [d1, d2] }
  | _ => none }
def LexemeFieldsWrongFalsely : Prop := lexemeFieldsRow.holds Tryd.pinned (OpenSpec.ofChange lexemeFieldsWrong)

/-- 'analemmalaw05.LexemeBack': WHATEVER THE INPUT: true; the input reads as it did. -/
def lexemeBackSpec : ChangeSpec := { name := "lexemeBack", fn := fun _ => fun
  | [d1, d2] => { results := [.lit (.bool true)], args := [d1, d2] }
  | _ => none }
def lexemeBackRow : OpenClaim := { program := "ytgehedalhppehaadoor", sum := "a36d3d5e4b7933652ea0cb763c1342b9cf89265f498d8840db376936696c9d32", func := "analemma/analemmalaw05.LexemeBack", spec := "lexemeBack", inPlace := ["internal/abi.NoEscape", "internal/bytealg.IndexByteString", "internal/bytealg.IndexString", "internal/bytealg.CountString"], unfollowed := true, recurses := true, named := ["internal/bytealg.MaxLen", "unicode/utf8.first", "unicode/utf8.acceptRanges"], apart := false, laid := [("unicode/utf8.acceptRanges", laid_unicode_utf8_acceptRanges), ("unicode/utf8.first", laid_unicode_utf8_first)] }
def LexemeBackSaid : Prop := lexemeBackRow.holds Tryd.pinned (OpenSpec.ofChange lexemeBackSpec)

/-- ITS FALSE NEIGHBOUR: 'it returns false'. Refute it at one input. -/
def lexemeBackWrong : ChangeSpec := { name := "lexemeBack", fn := fun _ => fun
  | [d1, d2] => { results := [.lit (.bool false)], args := [d1, d2] }
  | _ => none }
def LexemeBackWrongFalsely : Prop := lexemeBackRow.holds Tryd.pinned (OpenSpec.ofChange lexemeBackWrong)

/-- 'analemmalaw05.LexemeText': WHATEVER THE INPUT: true; the input reads as it did. -/
def lexemeTextSpec : ChangeSpec := { name := "lexemeText", fn := fun _ => fun
  | [d] => { results := [.lit (.bool true)], args := [d] }
  | _ => none }
def lexemeTextRow : OpenClaim := { program := "ytgehedalhppehaadoor", sum := "a36d3d5e4b7933652ea0cb763c1342b9cf89265f498d8840db376936696c9d32", func := "analemma/analemmalaw05.LexemeText", spec := "lexemeText", inPlace := ["internal/bytealg.CountString", "internal/bytealg.IndexByteString", "internal/bytealg.IndexString", "internal/abi.NoEscape", "internal/bytealg.MakeNoZero"], unfollowed := true, recurses := true, named := ["unicode/utf8.first", "unicode/utf8.acceptRanges", "internal/bytealg.MaxLen"], apart := false, laid := [("unicode/utf8.acceptRanges", laid_unicode_utf8_acceptRanges), ("unicode/utf8.first", laid_unicode_utf8_first)] }
def LexemeTextSaid : Prop := lexemeTextRow.holds Tryd.pinned (OpenSpec.ofChange lexemeTextSpec)

/-- ITS FALSE NEIGHBOUR: 'it returns false'. Refute it at one input. -/
def lexemeTextWrong : ChangeSpec := { name := "lexemeText", fn := fun _ => fun
  | [d] => { results := [.lit (.bool false)], args := [d] }
  | _ => none }
def LexemeTextWrongFalsely : Prop := lexemeTextRow.holds Tryd.pinned (OpenSpec.ofChange lexemeTextWrong)

/-- 'analemmalaw05.LexemeQuotes': WHATEVER THE INPUT: true; the input reads as it did. -/
def lexemeQuotesSpec : ChangeSpec := { name := "lexemeQuotes", fn := fun _ => fun
  | [d1, d2, d3] => { results := [.lit (.bool true)], args := [d1, d2, d3] }
  | _ => none }
def lexemeQuotesRow : OpenClaim := { program := "ytgehedalhppehaadoor", sum := "a36d3d5e4b7933652ea0cb763c1342b9cf89265f498d8840db376936696c9d32", func := "analemma/analemmalaw05.LexemeQuotes", spec := "lexemeQuotes", inPlace := ["internal/bytealg.CountString", "internal/bytealg.IndexByteString", "internal/bytealg.IndexString", "internal/abi.NoEscape"], unfollowed := true, recurses := true, named := ["unicode/utf8.first", "unicode/utf8.acceptRanges", "internal/bytealg.MaxLen"], apart := false, laid := [("unicode/utf8.acceptRanges", laid_unicode_utf8_acceptRanges), ("unicode/utf8.first", laid_unicode_utf8_first)] }
def LexemeQuotesSaid : Prop := lexemeQuotesRow.holds Tryd.pinned (OpenSpec.ofChange lexemeQuotesSpec)

/-- ITS FALSE NEIGHBOUR: 'it returns false'. Refute it at one input. -/
def lexemeQuotesWrong : ChangeSpec := { name := "lexemeQuotes", fn := fun _ => fun
  | [d1, d2, d3] => { results := [.lit (.bool false)], args := [d1, d2, d3] }
  | _ => none }
def LexemeQuotesWrongFalsely : Prop := lexemeQuotesRow.holds Tryd.pinned (OpenSpec.ofChange lexemeQuotesWrong)

/-- 'analemmalaw05.LexemeWrong': WHATEVER THE INPUT: true; the input reads as it did. -/
def lexemeWrongSpec : ChangeSpec := { name := "lexemeWrong", fn := fun _ => fun
  | [d1, d2, d3] => { results := [.lit (.bool true)], args := [d1, d2, d3] }
  | _ => none }
def lexemeWrongRow : OpenClaim := { program := "ytgehedalhppehaadoor", sum := "a36d3d5e4b7933652ea0cb763c1342b9cf89265f498d8840db376936696c9d32", func := "analemma/analemmalaw05.LexemeWrong", spec := "lexemeWrong", inPlace := ["internal/abi.NoEscape", "internal/bytealg.IndexByteString", "internal/bytealg.IndexString", "internal/bytealg.CountString"], unfollowed := true, recurses := true, named := ["unicode/utf8.first", "unicode/utf8.acceptRanges", "internal/bytealg.MaxLen"], apart := false, laid := [("unicode/utf8.acceptRanges", laid_unicode_utf8_acceptRanges), ("unicode/utf8.first", laid_unicode_utf8_first)] }
def LexemeWrongSaid : Prop := lexemeWrongRow.holds Tryd.pinned (OpenSpec.ofChange lexemeWrongSpec)

/-- ITS FALSE NEIGHBOUR: 'it returns false'. Refute it at one input. -/
def lexemeWrongWrong : ChangeSpec := { name := "lexemeWrong", fn := fun _ => fun
  | [d1, d2, d3] => { results := [.lit (.bool false)], args := [d1, d2, d3] }
  | _ => none }
def LexemeWrongWrongFalsely : Prop := lexemeWrongRow.holds Tryd.pinned (OpenSpec.ofChange lexemeWrongWrong)

/-- 'analemmalaw05.LexemeLong': WHATEVER THE INPUT: true; the input reads as it did. -/
def lexemeLongSpec : ChangeSpec := { name := "lexemeLong", fn := fun _ => fun
  | [d1, d2] => { results := [.lit (.bool true)], args := [d1, d2] }
  | _ => none }
def lexemeLongRow : OpenClaim := { program := "ytgehedalhppehaadoor", sum := "a36d3d5e4b7933652ea0cb763c1342b9cf89265f498d8840db376936696c9d32", func := "analemma/analemmalaw05.LexemeLong", spec := "lexemeLong", inPlace := ["internal/abi.NoEscape", "internal/bytealg.MakeNoZero", "internal/bytealg.IndexByteString", "internal/bytealg.IndexString", "internal/bytealg.CountString"], unfollowed := true, recurses := true, named := ["unicode/utf8.first", "unicode/utf8.acceptRanges", "internal/bytealg.MaxLen"], apart := false, laid := [("unicode/utf8.acceptRanges", laid_unicode_utf8_acceptRanges), ("unicode/utf8.first", laid_unicode_utf8_first)] }
def LexemeLongSaid : Prop := lexemeLongRow.holds Tryd.pinned (OpenSpec.ofChange lexemeLongSpec)

/-- ITS FALSE NEIGHBOUR: 'it returns false'. Refute it at one input. -/
def lexemeLongWrong : ChangeSpec := { name := "lexemeLong", fn := fun _ => fun
  | [d1, d2] => { results := [.lit (.bool false)], args := [d1, d2] }
  | _ => none }
def LexemeLongWrongFalsely : Prop := lexemeLongRow.holds Tryd.pinned (OpenSpec.ofChange lexemeLongWrong)

/-- 'analemmalaw05.LexemeHuge': WHATEVER THE INPUT: true; the input reads as it did. -/
def lexemeHugeSpec : ChangeSpec := { name := "lexemeHuge", fn := fun _ => fun
  | [] => { results := [.lit (.bool true)], args := [] }
  | _ => none }
def lexemeHugeRow : OpenClaim := { program := "ytgehedalhppehaadoor", sum := "a36d3d5e4b7933652ea0cb763c1342b9cf89265f498d8840db376936696c9d32", func := "analemma/analemmalaw05.LexemeHuge", spec := "lexemeHuge", inPlace := ["internal/abi.NoEscape", "internal/bytealg.MakeNoZero", "internal/bytealg.CountString", "internal/bytealg.IndexByteString", "internal/bytealg.IndexString"], unfollowed := true, recurses := true, named := ["unicode/utf8.first", "unicode/utf8.acceptRanges", "internal/bytealg.MaxLen"], apart := false, laid := [("unicode/utf8.acceptRanges", laid_unicode_utf8_acceptRanges), ("unicode/utf8.first", laid_unicode_utf8_first)] }
def LexemeHugeSaid : Prop := lexemeHugeRow.holds Tryd.pinned (OpenSpec.ofChange lexemeHugeSpec)

/-- ITS FALSE NEIGHBOUR: 'it returns false'. Refute it at one input. -/
def lexemeHugeWrong : ChangeSpec := { name := "lexemeHuge", fn := fun _ => fun
  | [] => { results := [.lit (.bool false)], args := [] }
  | _ => none }
def LexemeHugeWrongFalsely : Prop := lexemeHugeRow.holds Tryd.pinned (OpenSpec.ofChange lexemeHugeWrong)

/- THE SECOND FORM. 'bulk': how many values and letters a reading holds, each counted each time it is reached (what is shared counts as often as it is met; a slice's spare places count too). A statement '..UptoSaid' is the law's where the arguments, and the package variables that the reading takes, are together of bulk at most 1048576: NARROWER than '..Said'. Prove '..Said' where nothing that the law and all that it calls make is longer than what came in: it says more and counts as full. Else prove '..UptoSaid'. A law counts once. -/
mutual
def uptoBulk {H : Type} : DataW H → Nat
  | .lit (.string bytes) => bytes.length + 1
  | .lit _ => 1
  | .nil => 1
  | .ptr d => uptoBulk d + 1
  | .slice elems spare => uptoBulkAll elems + uptoBulkAll spare + 1
  | .agg parts => uptoBulkAll parts + 1
  | .iface _ d => uptoBulk d + 1
  | .map entries => uptoBulkEntries entries + 1
  | .held _ => 1
def uptoBulkAll {H : Type} : List (DataW H) → Nat
  | [] => 0
  | d :: r => uptoBulk d + uptoBulkAll r
def uptoBulkEntries {H : Type} : List (Lit × DataW H) → Nat
  | [] => 0
  | x :: r => uptoBulkEntry x + uptoBulkEntries r
def uptoBulkEntry {H : Type} : Lit × DataW H → Nat
  | (.string bytes, d) => bytes.length + uptoBulk d + 1
  | (_, d) => uptoBulk d + 1
 end
def uptoSmall : (H : Type) → List (DataW H) → Bool := fun _ ds => decide (uptoBulkAll ds ≤ 1048576)
def OpenSpec.upto (s : _root_.Go.ChangeSpec) : _root_.Go.OpenSpec := { _root_.Go.OpenSpec.ofChange s with cond := some uptoSmall }

/-- 'analemmalaw05.LexemeLines', WHERE WHAT IT READS IS OF BULK AT MOST 1048576: true; the input reads as it did. -/
def lexemeLinesUptoRow : OpenClaim := { program := "ytgehedalhppehaadoor", sum := "a36d3d5e4b7933652ea0cb763c1342b9cf89265f498d8840db376936696c9d32", func := "analemma/analemmalaw05.LexemeLines", spec := "lexemeLines", inPlace := ["internal/bytealg.CountString", "internal/bytealg.IndexByteString", "internal/bytealg.IndexString", "internal/abi.NoEscape"], unfollowed := true, recurses := true, named := ["unicode/utf8.first", "unicode/utf8.acceptRanges", "internal/bytealg.MaxLen"], apart := false, laid := [("unicode/utf8.acceptRanges", laid_unicode_utf8_acceptRanges), ("unicode/utf8.first", laid_unicode_utf8_first)], narrowed := true }
def LexemeLinesUptoSaid : Prop := lexemeLinesUptoRow.holds Tryd.pinned (OpenSpec.upto lexemeLinesSpec)

/-- 'analemmalaw05.LexemeFields', WHERE WHAT IT READS IS OF BULK AT MOST 1048576: true; the input reads as it did. -/
def lexemeFieldsUptoRow : OpenClaim := { program := "ytgehedalhppehaadoor", sum := "a36d3d5e4b7933652ea0cb763c1342b9cf89265f498d8840db376936696c9d32", func := "analemma/analemmalaw05.LexemeFields", spec := "lexemeFields", inPlace := ["internal/bytealg.CountString", "internal/bytealg.IndexByteString", "internal/bytealg.IndexString", "internal/abi.NoEscape"], unfollowed := true, recurses := true, named := ["unicode/utf8.first", "unicode/utf8.acceptRanges", "internal/bytealg.MaxLen"], apart := false, laid := [("unicode/utf8.acceptRanges", laid_unicode_utf8_acceptRanges), ("unicode/utf8.first", laid_unicode_utf8_first)], narrowed := true }
def LexemeFieldsUptoSaid : Prop := lexemeFieldsUptoRow.holds Tryd.pinned (OpenSpec.upto lexemeFieldsSpec)

/-- 'analemmalaw05.LexemeBack', WHERE WHAT IT READS IS OF BULK AT MOST 1048576: true; the input reads as it did. -/
def lexemeBackUptoRow : OpenClaim := { program := "ytgehedalhppehaadoor", sum := "a36d3d5e4b7933652ea0cb763c1342b9cf89265f498d8840db376936696c9d32", func := "analemma/analemmalaw05.LexemeBack", spec := "lexemeBack", inPlace := ["internal/abi.NoEscape", "internal/bytealg.IndexByteString", "internal/bytealg.IndexString", "internal/bytealg.CountString"], unfollowed := true, recurses := true, named := ["internal/bytealg.MaxLen", "unicode/utf8.first", "unicode/utf8.acceptRanges"], apart := false, laid := [("unicode/utf8.acceptRanges", laid_unicode_utf8_acceptRanges), ("unicode/utf8.first", laid_unicode_utf8_first)], narrowed := true }
def LexemeBackUptoSaid : Prop := lexemeBackUptoRow.holds Tryd.pinned (OpenSpec.upto lexemeBackSpec)

/-- 'analemmalaw05.LexemeText', WHERE WHAT IT READS IS OF BULK AT MOST 1048576: true; the input reads as it did. -/
def lexemeTextUptoRow : OpenClaim := { program := "ytgehedalhppehaadoor", sum := "a36d3d5e4b7933652ea0cb763c1342b9cf89265f498d8840db376936696c9d32", func := "analemma/analemmalaw05.LexemeText", spec := "lexemeText", inPlace := ["internal/bytealg.CountString", "internal/bytealg.IndexByteString", "internal/bytealg.IndexString", "internal/abi.NoEscape", "internal/bytealg.MakeNoZero"], unfollowed := true, recurses := true, named := ["unicode/utf8.first", "unicode/utf8.acceptRanges", "internal/bytealg.MaxLen"], apart := false, laid := [("unicode/utf8.acceptRanges", laid_unicode_utf8_acceptRanges), ("unicode/utf8.first", laid_unicode_utf8_first)], narrowed := true }
def LexemeTextUptoSaid : Prop := lexemeTextUptoRow.holds Tryd.pinned (OpenSpec.upto lexemeTextSpec)

/-- 'analemmalaw05.LexemeQuotes', WHERE WHAT IT READS IS OF BULK AT MOST 1048576: true; the input reads as it did. -/
def lexemeQuotesUptoRow : OpenClaim := { program := "ytgehedalhppehaadoor", sum := "a36d3d5e4b7933652ea0cb763c1342b9cf89265f498d8840db376936696c9d32", func := "analemma/analemmalaw05.LexemeQuotes", spec := "lexemeQuotes", inPlace := ["internal/bytealg.CountString", "internal/bytealg.IndexByteString", "internal/bytealg.IndexString", "internal/abi.NoEscape"], unfollowed := true, recurses := true, named := ["unicode/utf8.first", "unicode/utf8.acceptRanges", "internal/bytealg.MaxLen"], apart := false, laid := [("unicode/utf8.acceptRanges", laid_unicode_utf8_acceptRanges), ("unicode/utf8.first", laid_unicode_utf8_first)], narrowed := true }
def LexemeQuotesUptoSaid : Prop := lexemeQuotesUptoRow.holds Tryd.pinned (OpenSpec.upto lexemeQuotesSpec)

/-- 'analemmalaw05.LexemeWrong', WHERE WHAT IT READS IS OF BULK AT MOST 1048576: true; the input reads as it did. -/
def lexemeWrongUptoRow : OpenClaim := { program := "ytgehedalhppehaadoor", sum := "a36d3d5e4b7933652ea0cb763c1342b9cf89265f498d8840db376936696c9d32", func := "analemma/analemmalaw05.LexemeWrong", spec := "lexemeWrong", inPlace := ["internal/abi.NoEscape", "internal/bytealg.IndexByteString", "internal/bytealg.IndexString", "internal/bytealg.CountString"], unfollowed := true, recurses := true, named := ["unicode/utf8.first", "unicode/utf8.acceptRanges", "internal/bytealg.MaxLen"], apart := false, laid := [("unicode/utf8.acceptRanges", laid_unicode_utf8_acceptRanges), ("unicode/utf8.first", laid_unicode_utf8_first)], narrowed := true }
def LexemeWrongUptoSaid : Prop := lexemeWrongUptoRow.holds Tryd.pinned (OpenSpec.upto lexemeWrongSpec)

/-- 'analemmalaw05.LexemeLong', WHERE WHAT IT READS IS OF BULK AT MOST 1048576: true; the input reads as it did. -/
def lexemeLongUptoRow : OpenClaim := { program := "ytgehedalhppehaadoor", sum := "a36d3d5e4b7933652ea0cb763c1342b9cf89265f498d8840db376936696c9d32", func := "analemma/analemmalaw05.LexemeLong", spec := "lexemeLong", inPlace := ["internal/abi.NoEscape", "internal/bytealg.MakeNoZero", "internal/bytealg.IndexByteString", "internal/bytealg.IndexString", "internal/bytealg.CountString"], unfollowed := true, recurses := true, named := ["unicode/utf8.first", "unicode/utf8.acceptRanges", "internal/bytealg.MaxLen"], apart := false, laid := [("unicode/utf8.acceptRanges", laid_unicode_utf8_acceptRanges), ("unicode/utf8.first", laid_unicode_utf8_first)], narrowed := true }
def LexemeLongUptoSaid : Prop := lexemeLongUptoRow.holds Tryd.pinned (OpenSpec.upto lexemeLongSpec)

/-- 'analemmalaw05.LexemeHuge', WHERE WHAT IT READS IS OF BULK AT MOST 1048576: true; the input reads as it did. -/
def lexemeHugeUptoRow : OpenClaim := { program := "ytgehedalhppehaadoor", sum := "a36d3d5e4b7933652ea0cb763c1342b9cf89265f498d8840db376936696c9d32", func := "analemma/analemmalaw05.LexemeHuge", spec := "lexemeHuge", inPlace := ["internal/abi.NoEscape", "internal/bytealg.MakeNoZero", "internal/bytealg.CountString", "internal/bytealg.IndexByteString", "internal/bytealg.IndexString"], unfollowed := true, recurses := true, named := ["unicode/utf8.first", "unicode/utf8.acceptRanges", "internal/bytealg.MaxLen"], apart := false, laid := [("unicode/utf8.acceptRanges", laid_unicode_utf8_acceptRanges), ("unicode/utf8.first", laid_unicode_utf8_first)], narrowed := true }
def LexemeHugeUptoSaid : Prop := lexemeHugeUptoRow.holds Tryd.pinned (OpenSpec.upto lexemeHugeSpec)

end Rows
end Go.Proofs.YtgehedalhppehaaDoor
