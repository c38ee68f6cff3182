/-
  NARROWER THAN 'FOR EVERY INPUT', by the rows' own cells (each row's printed sentence says how): OffsetParses: laid · OffsetPrints: laid · OffsetBack: laid · OffsetFields: laid · OffsetOrder: laid · OffsetSpoilt: laid · OffsetRefuses: laid · WordFinds: laid · WordTexts: laid · WordBack: laid · WordShort: laid · WordMore: laid · WordOne: laid · WordNumbers: laid.
  DERIVED. THE GIVEN ROWS OF THIS SEAT. 14 by the template 'for every input the law returns true; each argument reads behind the call as it read before'; 0 by the template 'total and deterministic' (their statements: YtdpjkapaphelhaaDoorTotals.lean).
  GIVEN WITH THE SEED: the statements are not yours to turn. If you find one false, say at which input.
  Laid BY PROGRAM, IN A SANDBOX (cutbox-rows.mjs): the forced cells as the released guide's own fill.sh prints them over the translation 153d6ccb21332877… (all of the seat's roots in one cut). By AI agents, Wed Nov 11 2026. No macro, syntax, notation, axiom, sorry.
-/
import Derived.Test.YtdpjkapaphelhaaDoorChecked
import GoSem.Claim
import GoSem.ClaimJoined
import GoSem.ClaimMapViews
import Derived.JoinedTies
import Derived.KernelRfl
namespace Go.Proofs.YtdpjkapaphelhaaDoor
/- THE CELL 'sum', in the pinned program and in every row, IS THE sha256 OF THE DUMP (.gsa) THAT YtdpjkapaphelhaaDoorProg.lean LOADS. Nothing in Lean hashes anything: it is a label: what it is worth is what the hold of that sum in a sandbox is worth. -/
noncomputable def Tryd.pinned : Pinned := { name := "ytdpjkapaphelhaadoor", sum := "153d6ccb21332877b77a67228e6ecff07af76c829040d4acb9368fbcfeea581c", checked := Tryd.checked }
namespace Rows
def none {H : Type} : Left H := { results := [], args := [] }

/- WHAT THE LISTED PACKAGE-LEVEL VARIABLES READ AS WHEN THE CALL BEGINS. Each datum BY PROGRAM (the guide's laid-datum.mjs) off the statement by which the dump's own 'gosem.cut.vars' lays the variable. In a bare row this is a premise. The card (YtdpjkapaphelhaaDoorCards.lean) ties it to the program's text. -/
def laid_math_bits_deBruijn32tab {H : Type} : DataW H := .agg [.lit (.int .u8 0), .lit (.int .u8 1), .lit (.int .u8 28), .lit (.int .u8 2), .lit (.int .u8 29), .lit (.int .u8 14), .lit (.int .u8 24), .lit (.int .u8 3), .lit (.int .u8 30), .lit (.int .u8 22), .lit (.int .u8 20), .lit (.int .u8 15), .lit (.int .u8 25), .lit (.int .u8 17), .lit (.int .u8 4), .lit (.int .u8 8), .lit (.int .u8 31), .lit (.int .u8 27), .lit (.int .u8 13), .lit (.int .u8 23), .lit (.int .u8 21), .lit (.int .u8 19), .lit (.int .u8 16), .lit (.int .u8 7), .lit (.int .u8 26), .lit (.int .u8 12), .lit (.int .u8 18), .lit (.int .u8 6), .lit (.int .u8 11), .lit (.int .u8 5), .lit (.int .u8 10), .lit (.int .u8 9)]
def laid_math_bits_deBruijn64tab {H : Type} : DataW H := .agg [.lit (.int .u8 0), .lit (.int .u8 1), .lit (.int .u8 56), .lit (.int .u8 2), .lit (.int .u8 57), .lit (.int .u8 49), .lit (.int .u8 28), .lit (.int .u8 3), .lit (.int .u8 61), .lit (.int .u8 58), .lit (.int .u8 42), .lit (.int .u8 50), .lit (.int .u8 38), .lit (.int .u8 29), .lit (.int .u8 17), .lit (.int .u8 4), .lit (.int .u8 62), .lit (.int .u8 47), .lit (.int .u8 59), .lit (.int .u8 36), .lit (.int .u8 45), .lit (.int .u8 43), .lit (.int .u8 51), .lit (.int .u8 22), .lit (.int .u8 53), .lit (.int .u8 39), .lit (.int .u8 33), .lit (.int .u8 30), .lit (.int .u8 24), .lit (.int .u8 18), .lit (.int .u8 12), .lit (.int .u8 5), .lit (.int .u8 63), .lit (.int .u8 55), .lit (.int .u8 48), .lit (.int .u8 27), .lit (.int .u8 60), .lit (.int .u8 41), .lit (.int .u8 37), .lit (.int .u8 16), .lit (.int .u8 46), .lit (.int .u8 35), .lit (.int .u8 44), .lit (.int .u8 21), .lit (.int .u8 52), .lit (.int .u8 32), .lit (.int .u8 23), .lit (.int .u8 11), .lit (.int .u8 54), .lit (.int .u8 26), .lit (.int .u8 40), .lit (.int .u8 15), .lit (.int .u8 34), .lit (.int .u8 20), .lit (.int .u8 31), .lit (.int .u8 10), .lit (.int .u8 25), .lit (.int .u8 14), .lit (.int .u8 19), .lit (.int .u8 9), .lit (.int .u8 13), .lit (.int .u8 8), .lit (.int .u8 7), .lit (.int .u8 6)]
def laid_internal_strconv_uint64pow10 {H : Type} : DataW H := .agg [.lit (.int .u64 1), .lit (.int .u64 10), .lit (.int .u64 100), .lit (.int .u64 1000), .lit (.int .u64 10000), .lit (.int .u64 100000), .lit (.int .u64 1000000), .lit (.int .u64 10000000), .lit (.int .u64 100000000), .lit (.int .u64 1000000000), .lit (.int .u64 10000000000), .lit (.int .u64 100000000000), .lit (.int .u64 1000000000000), .lit (.int .u64 10000000000000), .lit (.int .u64 100000000000000), .lit (.int .u64 1000000000000000), .lit (.int .u64 10000000000000000), .lit (.int .u64 100000000000000000), .lit (.int .u64 1000000000000000000), .lit (.int .u64 10000000000000000000)]
def laid_analemma_offset_units {H : Type} : DataW H := .agg [.lit (.int .i64 3600), .lit (.int .i64 60), .lit (.int .i64 1)]
def laid_analemma_word_lines {H : Type} : DataW H := .agg [.lit (.string [114, 117, 108, 101]), .lit (.string [122, 111, 110, 101]), .lit (.string [108, 105, 110, 107]), .lit (.string [115, 104, 105, 102, 116]), .lit (.string []), .lit (.string []), .lit (.string []), .lit (.string []), .lit (.string []), .lit (.string []), .lit (.string []), .lit (.string [])]
def laid_analemma_word_months {H : Type} : DataW H := .agg [.lit (.string [106, 97, 110, 117, 97, 114, 121]), .lit (.string [102, 101, 98, 114, 117, 97, 114, 121]), .lit (.string [109, 97, 114, 99, 104]), .lit (.string [97, 112, 114, 105, 108]), .lit (.string [109, 97, 121]), .lit (.string [106, 117, 110, 101]), .lit (.string [106, 117, 108, 121]), .lit (.string [97, 117, 103, 117, 115, 116]), .lit (.string [115, 101, 112, 116, 101, 109, 98, 101, 114]), .lit (.string [111, 99, 116, 111, 98, 101, 114]), .lit (.string [110, 111, 118, 101, 109, 98, 101, 114]), .lit (.string [100, 101, 99, 101, 109, 98, 101, 114])]
def laid_analemma_word_weeks {H : Type} : DataW H := .agg [.lit (.string [115, 117, 110, 100, 97, 121]), .lit (.string [109, 111, 110, 100, 97, 121]), .lit (.string [116, 117, 101, 115, 100, 97, 121]), .lit (.string [119, 101, 100, 110, 101, 115, 100, 97, 121]), .lit (.string [116, 104, 117, 114, 115, 100, 97, 121]), .lit (.string [102, 114, 105, 100, 97, 121]), .lit (.string [115, 97, 116, 117, 114, 100, 97, 121]), .lit (.string []), .lit (.string []), .lit (.string []), .lit (.string []), .lit (.string [])]
def laid_analemma_word_years {H : Type} : DataW H := .agg [.lit (.string [111, 110, 108, 121]), .lit (.string [109, 97, 120, 105, 109, 117, 109]), .lit (.string []), .lit (.string []), .lit (.string []), .lit (.string []), .lit (.string []), .lit (.string []), .lit (.string []), .lit (.string []), .lit (.string []), .lit (.string [])]

/-- 'analemmalaw04.OffsetParses': WHATEVER THE INPUT: true; the input reads as it did. -/
def offsetParsesSpec : ChangeSpec := { name := "offsetParses", fn := fun _ => fun
  | [d] => { results := [.lit (.bool true)], args := [d] }
  | _ => none }
def offsetParsesRow : OpenClaim := { program := "ytdpjkapaphelhaadoor", sum := "153d6ccb21332877b77a67228e6ecff07af76c829040d4acb9368fbcfeea581c", func := "analemma/analemmalaw04.OffsetParses", spec := "offsetParses", unfollowed := true, recurses := true, named := ["analemma/offset.units", "internal/strconv.uint64pow10", "math/bits.deBruijn32tab", "math/bits.deBruijn64tab"], apart := false, laid := [("math/bits.deBruijn32tab", laid_math_bits_deBruijn32tab), ("math/bits.deBruijn64tab", laid_math_bits_deBruijn64tab), ("internal/strconv.uint64pow10", laid_internal_strconv_uint64pow10), ("analemma/offset.units", laid_analemma_offset_units)] }
def OffsetParsesSaid : Prop := offsetParsesRow.holds Tryd.pinned (OpenSpec.ofChange offsetParsesSpec)

/-- ITS FALSE NEIGHBOUR: 'it returns false'. Refute it at one input. -/
def offsetParsesWrong : ChangeSpec := { name := "offsetParses", fn := fun _ => fun
  | [d] => { results := [.lit (.bool false)], args := [d] }
  | _ => none }
def OffsetParsesWrongFalsely : Prop := offsetParsesRow.holds Tryd.pinned (OpenSpec.ofChange offsetParsesWrong)

/-- 'analemmalaw04.OffsetPrints': WHATEVER THE INPUT: true; the input reads as it did. -/
def offsetPrintsSpec : ChangeSpec := { name := "offsetPrints", fn := fun _ => fun
  | [d] => { results := [.lit (.bool true)], args := [d] }
  | _ => none }
def offsetPrintsRow : OpenClaim := { program := "ytdpjkapaphelhaadoor", sum := "153d6ccb21332877b77a67228e6ecff07af76c829040d4acb9368fbcfeea581c", func := "analemma/analemmalaw04.OffsetPrints", spec := "offsetPrints", unfollowed := true, recurses := true, named := ["analemma/offset.units", "internal/strconv.uint64pow10", "math/bits.deBruijn32tab", "math/bits.deBruijn64tab"], apart := false, laid := [("math/bits.deBruijn32tab", laid_math_bits_deBruijn32tab), ("math/bits.deBruijn64tab", laid_math_bits_deBruijn64tab), ("internal/strconv.uint64pow10", laid_internal_strconv_uint64pow10), ("analemma/offset.units", laid_analemma_offset_units)] }
def OffsetPrintsSaid : Prop := offsetPrintsRow.holds Tryd.pinned (OpenSpec.ofChange offsetPrintsSpec)

/-- ITS FALSE NEIGHBOUR: 'it returns false'. Refute it at one input. -/
def offsetPrintsWrong : ChangeSpec := { name := "offsetPrints", fn := fun _ => fun
  | [d] => { results := [.lit (.bool false)], args := [d] }
  | _ => none }
def OffsetPrintsWrongFalsely : Prop := offsetPrintsRow.holds Tryd.pinned (OpenSpec.ofChange offsetPrintsWrong)

/-- 'analemmalaw04.OffsetBack': WHATEVER THE INPUT: true; the input reads as it did. -/
def offsetBackSpec : ChangeSpec := { name := "offsetBack", fn := fun _ => fun
  | [d] => { results := [.lit (.bool true)], args := [d] }
  | _ => none }
def offsetBackRow : OpenClaim := { program := "ytdpjkapaphelhaadoor", sum := "153d6ccb21332877b77a67228e6ecff07af76c829040d4acb9368fbcfeea581c", func := "analemma/analemmalaw04.OffsetBack", spec := "offsetBack", unfollowed := true, recurses := true, named := ["analemma/offset.units", "internal/strconv.uint64pow10", "math/bits.deBruijn32tab", "math/bits.deBruijn64tab"], apart := false, laid := [("math/bits.deBruijn32tab", laid_math_bits_deBruijn32tab), ("math/bits.deBruijn64tab", laid_math_bits_deBruijn64tab), ("internal/strconv.uint64pow10", laid_internal_strconv_uint64pow10), ("analemma/offset.units", laid_analemma_offset_units)] }
def OffsetBackSaid : Prop := offsetBackRow.holds Tryd.pinned (OpenSpec.ofChange offsetBackSpec)

/-- ITS FALSE NEIGHBOUR: 'it returns false'. Refute it at one input. -/
def offsetBackWrong : ChangeSpec := { name := "offsetBack", fn := fun _ => fun
  | [d] => { results := [.lit (.bool false)], args := [d] }
  | _ => none }
def OffsetBackWrongFalsely : Prop := offsetBackRow.holds Tryd.pinned (OpenSpec.ofChange offsetBackWrong)

/-- 'analemmalaw04.OffsetFields': WHATEVER THE INPUT: true; the input reads as it did. -/
def offsetFieldsSpec : ChangeSpec := { name := "offsetFields", fn := fun _ => fun
  | [d1, d2, d3, d4] => { results := [.lit (.bool true)], args := [d1, d2, d3, d4] }
  | _ => none }
def offsetFieldsRow : OpenClaim := { program := "ytdpjkapaphelhaadoor", sum := "153d6ccb21332877b77a67228e6ecff07af76c829040d4acb9368fbcfeea581c", func := "analemma/analemmalaw04.OffsetFields", spec := "offsetFields", inPlace := ["internal/bytealg.IndexByteString", "internal/bytealg.IndexString"], unfollowed := true, recurses := true, named := ["analemma/offset.units", "internal/strconv.uint64pow10", "math/bits.deBruijn32tab", "math/bits.deBruijn64tab", "internal/bytealg.MaxLen"], apart := false, laid := [("math/bits.deBruijn32tab", laid_math_bits_deBruijn32tab), ("math/bits.deBruijn64tab", laid_math_bits_deBruijn64tab), ("internal/strconv.uint64pow10", laid_internal_strconv_uint64pow10), ("analemma/offset.units", laid_analemma_offset_units)] }
def OffsetFieldsSaid : Prop := offsetFieldsRow.holds Tryd.pinned (OpenSpec.ofChange offsetFieldsSpec)

/-- ITS FALSE NEIGHBOUR: 'it returns false'. Refute it at one input. -/
def offsetFieldsWrong : ChangeSpec := { name := "offsetFields", fn := fun _ => fun
  | [d1, d2, d3, d4] => { results := [.lit (.bool false)], args := [d1, d2, d3, d4] }
  | _ => none }
def OffsetFieldsWrongFalsely : Prop := offsetFieldsRow.holds Tryd.pinned (OpenSpec.ofChange offsetFieldsWrong)

/-- 'analemmalaw04.OffsetOrder': WHATEVER THE INPUT: true; the input reads as it did. -/
def offsetOrderSpec : ChangeSpec := { name := "offsetOrder", fn := fun _ => fun
  | [d1, d2] => { results := [.lit (.bool true)], args := [d1, d2] }
  | _ => none }
def offsetOrderRow : OpenClaim := { program := "ytdpjkapaphelhaadoor", sum := "153d6ccb21332877b77a67228e6ecff07af76c829040d4acb9368fbcfeea581c", func := "analemma/analemmalaw04.OffsetOrder", spec := "offsetOrder", inPlace := ["internal/bytealg.IndexByteString", "internal/bytealg.IndexString"], unfollowed := true, recurses := true, named := ["analemma/offset.units", "internal/strconv.uint64pow10", "math/bits.deBruijn32tab", "math/bits.deBruijn64tab", "internal/bytealg.MaxLen"], apart := false, laid := [("math/bits.deBruijn32tab", laid_math_bits_deBruijn32tab), ("math/bits.deBruijn64tab", laid_math_bits_deBruijn64tab), ("internal/strconv.uint64pow10", laid_internal_strconv_uint64pow10), ("analemma/offset.units", laid_analemma_offset_units)] }
def OffsetOrderSaid : Prop := offsetOrderRow.holds Tryd.pinned (OpenSpec.ofChange offsetOrderSpec)

/-- ITS FALSE NEIGHBOUR: 'it returns false'. Refute it at one input. -/
def offsetOrderWrong : ChangeSpec := { name := "offsetOrder", fn := fun _ => fun
  | [d1, d2] => { results := [.lit (.bool false)], args := [d1, d2] }
  | _ => none }
def OffsetOrderWrongFalsely : Prop := offsetOrderRow.holds Tryd.pinned (OpenSpec.ofChange offsetOrderWrong)

/-- 'analemmalaw04.OffsetSpoilt': WHATEVER THE INPUT: true; the input reads as it did. -/
def offsetSpoiltSpec : ChangeSpec := { name := "offsetSpoilt", fn := fun _ => fun
  | [d1, d2, d3, d4] => { results := [.lit (.bool true)], args := [d1, d2, d3, d4] }
  | _ => none }
def offsetSpoiltRow : OpenClaim := { program := "ytdpjkapaphelhaadoor", sum := "153d6ccb21332877b77a67228e6ecff07af76c829040d4acb9368fbcfeea581c", func := "analemma/analemmalaw04.OffsetSpoilt", spec := "offsetSpoilt", unfollowed := true, recurses := true, named := ["analemma/offset.units", "internal/strconv.uint64pow10", "math/bits.deBruijn32tab", "math/bits.deBruijn64tab"], apart := false, laid := [("math/bits.deBruijn32tab", laid_math_bits_deBruijn32tab), ("math/bits.deBruijn64tab", laid_math_bits_deBruijn64tab), ("internal/strconv.uint64pow10", laid_internal_strconv_uint64pow10), ("analemma/offset.units", laid_analemma_offset_units)] }
def OffsetSpoiltSaid : Prop := offsetSpoiltRow.holds Tryd.pinned (OpenSpec.ofChange offsetSpoiltSpec)

/-- ITS FALSE NEIGHBOUR: 'it returns false'. Refute it at one input. -/
def offsetSpoiltWrong : ChangeSpec := { name := "offsetSpoilt", fn := fun _ => fun
  | [d1, d2, d3, d4] => { results := [.lit (.bool false)], args := [d1, d2, d3, d4] }
  | _ => none }
def OffsetSpoiltWrongFalsely : Prop := offsetSpoiltRow.holds Tryd.pinned (OpenSpec.ofChange offsetSpoiltWrong)

/-- 'analemmalaw04.OffsetRefuses': WHATEVER THE INPUT: true; the input reads as it did. -/
def offsetRefusesSpec : ChangeSpec := { name := "offsetRefuses", fn := fun _ => fun
  | [d1, d2, d3] => { results := [.lit (.bool true)], args := [d1, d2, d3] }
  | _ => none }
def offsetRefusesRow : OpenClaim := { program := "ytdpjkapaphelhaadoor", sum := "153d6ccb21332877b77a67228e6ecff07af76c829040d4acb9368fbcfeea581c", func := "analemma/analemmalaw04.OffsetRefuses", spec := "offsetRefuses", unfollowed := true, recurses := true, named := ["analemma/offset.units", "internal/strconv.uint64pow10", "math/bits.deBruijn32tab", "math/bits.deBruijn64tab"], apart := false, laid := [("math/bits.deBruijn32tab", laid_math_bits_deBruijn32tab), ("math/bits.deBruijn64tab", laid_math_bits_deBruijn64tab), ("internal/strconv.uint64pow10", laid_internal_strconv_uint64pow10), ("analemma/offset.units", laid_analemma_offset_units)] }
def OffsetRefusesSaid : Prop := offsetRefusesRow.holds Tryd.pinned (OpenSpec.ofChange offsetRefusesSpec)

/-- ITS FALSE NEIGHBOUR: 'it returns false'. Refute it at one input. -/
def offsetRefusesWrong : ChangeSpec := { name := "offsetRefuses", fn := fun _ => fun
  | [d1, d2, d3] => { results := [.lit (.bool false)], args := [d1, d2, d3] }
  | _ => none }
def OffsetRefusesWrongFalsely : Prop := offsetRefusesRow.holds Tryd.pinned (OpenSpec.ofChange offsetRefusesWrong)

/-- 'analemmalaw08.WordFinds': WHATEVER THE INPUT: true; the input reads as it did. -/
def wordFindsSpec : ChangeSpec := { name := "wordFinds", fn := fun _ => fun
  | [d] => { results := [.lit (.bool true)], args := [d] }
  | _ => none }
def wordFindsRow : OpenClaim := { program := "ytdpjkapaphelhaadoor", sum := "153d6ccb21332877b77a67228e6ecff07af76c829040d4acb9368fbcfeea581c", func := "analemma/analemmalaw08.WordFinds", spec := "wordFinds", unfollowed := true, recurses := true, named := ["analemma/word.lines", "analemma/word.months", "analemma/word.weeks", "analemma/word.years"], apart := false, laid := [("analemma/word.lines", laid_analemma_word_lines), ("analemma/word.months", laid_analemma_word_months), ("analemma/word.weeks", laid_analemma_word_weeks), ("analemma/word.years", laid_analemma_word_years)] }
def WordFindsSaid : Prop := wordFindsRow.holds Tryd.pinned (OpenSpec.ofChange wordFindsSpec)

/-- ITS FALSE NEIGHBOUR: 'it returns false'. Refute it at one input. -/
def wordFindsWrong : ChangeSpec := { name := "wordFinds", fn := fun _ => fun
  | [d] => { results := [.lit (.bool false)], args := [d] }
  | _ => none }
def WordFindsWrongFalsely : Prop := wordFindsRow.holds Tryd.pinned (OpenSpec.ofChange wordFindsWrong)

/-- 'analemmalaw08.WordTexts': WHATEVER THE INPUT: true; the input reads as it did. -/
def wordTextsSpec : ChangeSpec := { name := "wordTexts", fn := fun _ => fun
  | [d] => { results := [.lit (.bool true)], args := [d] }
  | _ => none }
def wordTextsRow : OpenClaim := { program := "ytdpjkapaphelhaadoor", sum := "153d6ccb21332877b77a67228e6ecff07af76c829040d4acb9368fbcfeea581c", func := "analemma/analemmalaw08.WordTexts", spec := "wordTexts", unfollowed := true, recurses := true, named := ["analemma/word.months", "analemma/word.weeks", "analemma/word.lines", "analemma/word.years"], apart := false, laid := [("analemma/word.lines", laid_analemma_word_lines), ("analemma/word.months", laid_analemma_word_months), ("analemma/word.weeks", laid_analemma_word_weeks), ("analemma/word.years", laid_analemma_word_years)] }
def WordTextsSaid : Prop := wordTextsRow.holds Tryd.pinned (OpenSpec.ofChange wordTextsSpec)

/-- ITS FALSE NEIGHBOUR: 'it returns false'. Refute it at one input. -/
def wordTextsWrong : ChangeSpec := { name := "wordTexts", fn := fun _ => fun
  | [d] => { results := [.lit (.bool false)], args := [d] }
  | _ => none }
def WordTextsWrongFalsely : Prop := wordTextsRow.holds Tryd.pinned (OpenSpec.ofChange wordTextsWrong)

/-- 'analemmalaw08.WordBack': WHATEVER THE INPUT: true; the input reads as it did. -/
def wordBackSpec : ChangeSpec := { name := "wordBack", fn := fun _ => fun
  | [d1, d2, d3, d4] => { results := [.lit (.bool true)], args := [d1, d2, d3, d4] }
  | _ => none }
def wordBackRow : OpenClaim := { program := "ytdpjkapaphelhaadoor", sum := "153d6ccb21332877b77a67228e6ecff07af76c829040d4acb9368fbcfeea581c", func := "analemma/analemmalaw08.WordBack", spec := "wordBack", unfollowed := true, recurses := true, named := ["analemma/word.lines", "analemma/word.months", "analemma/word.weeks", "analemma/word.years"], apart := false, laid := [("analemma/word.lines", laid_analemma_word_lines), ("analemma/word.months", laid_analemma_word_months), ("analemma/word.weeks", laid_analemma_word_weeks), ("analemma/word.years", laid_analemma_word_years)] }
def WordBackSaid : Prop := wordBackRow.holds Tryd.pinned (OpenSpec.ofChange wordBackSpec)

/-- ITS FALSE NEIGHBOUR: 'it returns false'. Refute it at one input. -/
def wordBackWrong : ChangeSpec := { name := "wordBack", fn := fun _ => fun
  | [d1, d2, d3, d4] => { results := [.lit (.bool false)], args := [d1, d2, d3, d4] }
  | _ => none }
def WordBackWrongFalsely : Prop := wordBackRow.holds Tryd.pinned (OpenSpec.ofChange wordBackWrong)

/-- 'analemmalaw08.WordShort': WHATEVER THE INPUT: true; the input reads as it did. -/
def wordShortSpec : ChangeSpec := { name := "wordShort", fn := fun _ => fun
  | [d1, d2] => { results := [.lit (.bool true)], args := [d1, d2] }
  | _ => none }
def wordShortRow : OpenClaim := { program := "ytdpjkapaphelhaadoor", sum := "153d6ccb21332877b77a67228e6ecff07af76c829040d4acb9368fbcfeea581c", func := "analemma/analemmalaw08.WordShort", spec := "wordShort", unfollowed := true, recurses := true, named := ["analemma/word.months", "analemma/word.weeks", "analemma/word.lines", "analemma/word.years"], apart := false, laid := [("analemma/word.lines", laid_analemma_word_lines), ("analemma/word.months", laid_analemma_word_months), ("analemma/word.weeks", laid_analemma_word_weeks), ("analemma/word.years", laid_analemma_word_years)] }
def WordShortSaid : Prop := wordShortRow.holds Tryd.pinned (OpenSpec.ofChange wordShortSpec)

/-- ITS FALSE NEIGHBOUR: 'it returns false'. Refute it at one input. -/
def wordShortWrong : ChangeSpec := { name := "wordShort", fn := fun _ => fun
  | [d1, d2] => { results := [.lit (.bool false)], args := [d1, d2] }
  | _ => none }
def WordShortWrongFalsely : Prop := wordShortRow.holds Tryd.pinned (OpenSpec.ofChange wordShortWrong)

/-- 'analemmalaw08.WordMore': WHATEVER THE INPUT: true; the input reads as it did. -/
def wordMoreSpec : ChangeSpec := { name := "wordMore", fn := fun _ => fun
  | [d1, d2, d3, d4] => { results := [.lit (.bool true)], args := [d1, d2, d3, d4] }
  | _ => none }
def wordMoreRow : OpenClaim := { program := "ytdpjkapaphelhaadoor", sum := "153d6ccb21332877b77a67228e6ecff07af76c829040d4acb9368fbcfeea581c", func := "analemma/analemmalaw08.WordMore", spec := "wordMore", unfollowed := true, recurses := true, named := ["analemma/word.lines", "analemma/word.months", "analemma/word.weeks", "analemma/word.years"], apart := false, laid := [("analemma/word.lines", laid_analemma_word_lines), ("analemma/word.months", laid_analemma_word_months), ("analemma/word.weeks", laid_analemma_word_weeks), ("analemma/word.years", laid_analemma_word_years)] }
def WordMoreSaid : Prop := wordMoreRow.holds Tryd.pinned (OpenSpec.ofChange wordMoreSpec)

/-- ITS FALSE NEIGHBOUR: 'it returns false'. Refute it at one input. -/
def wordMoreWrong : ChangeSpec := { name := "wordMore", fn := fun _ => fun
  | [d1, d2, d3, d4] => { results := [.lit (.bool false)], args := [d1, d2, d3, d4] }
  | _ => none }
def WordMoreWrongFalsely : Prop := wordMoreRow.holds Tryd.pinned (OpenSpec.ofChange wordMoreWrong)

/-- 'analemmalaw08.WordOne': WHATEVER THE INPUT: true; the input reads as it did. -/
def wordOneSpec : ChangeSpec := { name := "wordOne", fn := fun _ => fun
  | [d] => { results := [.lit (.bool true)], args := [d] }
  | _ => none }
def wordOneRow : OpenClaim := { program := "ytdpjkapaphelhaadoor", sum := "153d6ccb21332877b77a67228e6ecff07af76c829040d4acb9368fbcfeea581c", func := "analemma/analemmalaw08.WordOne", spec := "wordOne", unfollowed := true, recurses := true, named := ["analemma/word.lines", "analemma/word.months", "analemma/word.weeks", "analemma/word.years"], apart := false, laid := [("analemma/word.lines", laid_analemma_word_lines), ("analemma/word.months", laid_analemma_word_months), ("analemma/word.weeks", laid_analemma_word_weeks), ("analemma/word.years", laid_analemma_word_years)] }
def WordOneSaid : Prop := wordOneRow.holds Tryd.pinned (OpenSpec.ofChange wordOneSpec)

/-- ITS FALSE NEIGHBOUR: 'it returns false'. Refute it at one input. -/
def wordOneWrong : ChangeSpec := { name := "wordOne", fn := fun _ => fun
  | [d] => { results := [.lit (.bool false)], args := [d] }
  | _ => none }
def WordOneWrongFalsely : Prop := wordOneRow.holds Tryd.pinned (OpenSpec.ofChange wordOneWrong)

/-- 'analemmalaw08.WordNumbers': WHATEVER THE INPUT: true; the input reads as it did. -/
def wordNumbersSpec : ChangeSpec := { name := "wordNumbers", fn := fun _ => fun
  | [d] => { results := [.lit (.bool true)], args := [d] }
  | _ => none }
def wordNumbersRow : OpenClaim := { program := "ytdpjkapaphelhaadoor", sum := "153d6ccb21332877b77a67228e6ecff07af76c829040d4acb9368fbcfeea581c", func := "analemma/analemmalaw08.WordNumbers", spec := "wordNumbers", unfollowed := true, recurses := true, named := ["analemma/word.months", "analemma/word.weeks", "analemma/word.lines", "analemma/word.years"], apart := false, laid := [("analemma/word.lines", laid_analemma_word_lines), ("analemma/word.months", laid_analemma_word_months), ("analemma/word.weeks", laid_analemma_word_weeks), ("analemma/word.years", laid_analemma_word_years)] }
def WordNumbersSaid : Prop := wordNumbersRow.holds Tryd.pinned (OpenSpec.ofChange wordNumbersSpec)

/-- ITS FALSE NEIGHBOUR: 'it returns false'. Refute it at one input. -/
def wordNumbersWrong : ChangeSpec := { name := "wordNumbers", fn := fun _ => fun
  | [d] => { results := [.lit (.bool false)], args := [d] }
  | _ => none }
def WordNumbersWrongFalsely : Prop := wordNumbersRow.holds Tryd.pinned (OpenSpec.ofChange wordNumbersWrong)

/- THE SECOND FORM. 'bulk': how many values and letters a reading holds, each counted each time it is reached (what is shared counts as often as it is met; a slice's spare places count too). A statement '..UptoSaid' is the law's where the arguments, and the package variables that the reading takes, are together of bulk at most 1048576: NARROWER than '..Said'. Prove '..Said' where nothing that the law and all that it calls make is longer than what came in: it says more and counts as full. Else prove '..UptoSaid'. A law counts once. -/
mutual
def uptoBulk {H : Type} : DataW H → Nat
  | .lit (.string bytes) => bytes.length + 1
  | .lit _ => 1
  | .nil => 1
  | .ptr d => uptoBulk d + 1
  | .slice elems spare => uptoBulkAll elems + uptoBulkAll spare + 1
  | .agg parts => uptoBulkAll parts + 1
  | .iface _ d => uptoBulk d + 1
  | .map entries => uptoBulkEntries entries + 1
  | .held _ => 1
def uptoBulkAll {H : Type} : List (DataW H) → Nat
  | [] => 0
  | d :: r => uptoBulk d + uptoBulkAll r
def uptoBulkEntries {H : Type} : List (Lit × DataW H) → Nat
  | [] => 0
  | x :: r => uptoBulkEntry x + uptoBulkEntries r
def uptoBulkEntry {H : Type} : Lit × DataW H → Nat
  | (.string bytes, d) => bytes.length + uptoBulk d + 1
  | (_, d) => uptoBulk d + 1
 end
def uptoSmall : (H : Type) → List (DataW H) → Bool := fun _ ds => decide (uptoBulkAll ds ≤ 1048576)
def OpenSpec.upto (s : _root_.Go.ChangeSpec) : _root_.Go.OpenSpec := { _root_.Go.OpenSpec.ofChange s with cond := some uptoSmall }

/-- 'analemmalaw04.OffsetParses', WHERE WHAT IT READS IS OF BULK AT MOST 1048576: true; the input reads as it did. -/
def offsetParsesUptoRow : OpenClaim := { program := "ytdpjkapaphelhaadoor", sum := "153d6ccb21332877b77a67228e6ecff07af76c829040d4acb9368fbcfeea581c", func := "analemma/analemmalaw04.OffsetParses", spec := "offsetParses", unfollowed := true, recurses := true, named := ["analemma/offset.units", "internal/strconv.uint64pow10", "math/bits.deBruijn32tab", "math/bits.deBruijn64tab"], apart := false, laid := [("math/bits.deBruijn32tab", laid_math_bits_deBruijn32tab), ("math/bits.deBruijn64tab", laid_math_bits_deBruijn64tab), ("internal/strconv.uint64pow10", laid_internal_strconv_uint64pow10), ("analemma/offset.units", laid_analemma_offset_units)], narrowed := true }
def OffsetParsesUptoSaid : Prop := offsetParsesUptoRow.holds Tryd.pinned (OpenSpec.upto offsetParsesSpec)

/-- 'analemmalaw04.OffsetPrints', WHERE WHAT IT READS IS OF BULK AT MOST 1048576: true; the input reads as it did. -/
def offsetPrintsUptoRow : OpenClaim := { program := "ytdpjkapaphelhaadoor", sum := "153d6ccb21332877b77a67228e6ecff07af76c829040d4acb9368fbcfeea581c", func := "analemma/analemmalaw04.OffsetPrints", spec := "offsetPrints", unfollowed := true, recurses := true, named := ["analemma/offset.units", "internal/strconv.uint64pow10", "math/bits.deBruijn32tab", "math/bits.deBruijn64tab"], apart := false, laid := [("math/bits.deBruijn32tab", laid_math_bits_deBruijn32tab), ("math/bits.deBruijn64tab", laid_math_bits_deBruijn64tab), ("internal/strconv.uint64pow10", laid_internal_strconv_uint64pow10), ("analemma/offset.units", laid_analemma_offset_units)], narrowed := true }
def OffsetPrintsUptoSaid : Prop := offsetPrintsUptoRow.holds Tryd.pinned (OpenSpec.upto offsetPrintsSpec)

/-- 'analemmalaw04.OffsetBack', WHERE WHAT IT READS IS OF BULK AT MOST 1048576: true; the input reads as it did. -/
def offsetBackUptoRow : OpenClaim := { program := "ytdpjkapaphelhaadoor", sum := "153d6ccb21332877b77a67228e6ecff07af76c829040d4acb9368fbcfeea581c", func := "analemma/analemmalaw04.OffsetBack", spec := "offsetBack", unfollowed := true, recurses := true, named := ["analemma/offset.units", "internal/strconv.uint64pow10", "math/bits.deBruijn32tab", "math/bits.deBruijn64tab"], apart := false, laid := [("math/bits.deBruijn32tab", laid_math_bits_deBruijn32tab), ("math/bits.deBruijn64tab", laid_math_bits_deBruijn64tab), ("internal/strconv.uint64pow10", laid_internal_strconv_uint64pow10), ("analemma/offset.units", laid_analemma_offset_units)], narrowed := true }
def OffsetBackUptoSaid : Prop := offsetBackUptoRow.holds Tryd.pinned (OpenSpec.upto offsetBackSpec)

/-- 'analemmalaw04.OffsetFields', WHERE WHAT IT READS IS OF BULK AT MOST 1048576: true; the input reads as it did. -/
def offsetFieldsUptoRow : OpenClaim := { program := "ytdpjkapaphelhaadoor", sum := "153d6ccb21332877b77a67228e6ecff07af76c829040d4acb9368fbcfeea581c", func := "analemma/analemmalaw04.OffsetFields", spec := "offsetFields", inPlace := ["internal/bytealg.IndexByteString", "internal/bytealg.IndexString"], unfollowed := true, recurses := true, named := ["analemma/offset.units", "internal/strconv.uint64pow10", "math/bits.deBruijn32tab", "math/bits.deBruijn64tab", "internal/bytealg.MaxLen"], apart := false, laid := [("math/bits.deBruijn32tab", laid_math_bits_deBruijn32tab), ("math/bits.deBruijn64tab", laid_math_bits_deBruijn64tab), ("internal/strconv.uint64pow10", laid_internal_strconv_uint64pow10), ("analemma/offset.units", laid_analemma_offset_units)], narrowed := true }
def OffsetFieldsUptoSaid : Prop := offsetFieldsUptoRow.holds Tryd.pinned (OpenSpec.upto offsetFieldsSpec)

/-- 'analemmalaw04.OffsetOrder', WHERE WHAT IT READS IS OF BULK AT MOST 1048576: true; the input reads as it did. -/
def offsetOrderUptoRow : OpenClaim := { program := "ytdpjkapaphelhaadoor", sum := "153d6ccb21332877b77a67228e6ecff07af76c829040d4acb9368fbcfeea581c", func := "analemma/analemmalaw04.OffsetOrder", spec := "offsetOrder", inPlace := ["internal/bytealg.IndexByteString", "internal/bytealg.IndexString"], unfollowed := true, recurses := true, named := ["analemma/offset.units", "internal/strconv.uint64pow10", "math/bits.deBruijn32tab", "math/bits.deBruijn64tab", "internal/bytealg.MaxLen"], apart := false, laid := [("math/bits.deBruijn32tab", laid_math_bits_deBruijn32tab), ("math/bits.deBruijn64tab", laid_math_bits_deBruijn64tab), ("internal/strconv.uint64pow10", laid_internal_strconv_uint64pow10), ("analemma/offset.units", laid_analemma_offset_units)], narrowed := true }
def OffsetOrderUptoSaid : Prop := offsetOrderUptoRow.holds Tryd.pinned (OpenSpec.upto offsetOrderSpec)

/-- 'analemmalaw04.OffsetSpoilt', WHERE WHAT IT READS IS OF BULK AT MOST 1048576: true; the input reads as it did. -/
def offsetSpoiltUptoRow : OpenClaim := { program := "ytdpjkapaphelhaadoor", sum := "153d6ccb21332877b77a67228e6ecff07af76c829040d4acb9368fbcfeea581c", func := "analemma/analemmalaw04.OffsetSpoilt", spec := "offsetSpoilt", unfollowed := true, recurses := true, named := ["analemma/offset.units", "internal/strconv.uint64pow10", "math/bits.deBruijn32tab", "math/bits.deBruijn64tab"], apart := false, laid := [("math/bits.deBruijn32tab", laid_math_bits_deBruijn32tab), ("math/bits.deBruijn64tab", laid_math_bits_deBruijn64tab), ("internal/strconv.uint64pow10", laid_internal_strconv_uint64pow10), ("analemma/offset.units", laid_analemma_offset_units)], narrowed := true }
def OffsetSpoiltUptoSaid : Prop := offsetSpoiltUptoRow.holds Tryd.pinned (OpenSpec.upto offsetSpoiltSpec)

/-- 'analemmalaw04.OffsetRefuses', WHERE WHAT IT READS IS OF BULK AT MOST 1048576: true; the input reads as it did. -/
def offsetRefusesUptoRow : OpenClaim := { program := "ytdpjkapaphelhaadoor", sum := "153d6ccb21332877b77a67228e6ecff07af76c829040d4acb9368fbcfeea581c", func := "analemma/analemmalaw04.OffsetRefuses", spec := "offsetRefuses", unfollowed := true, recurses := true, named := ["analemma/offset.units", "internal/strconv.uint64pow10", "math/bits.deBruijn32tab", "math/bits.deBruijn64tab"], apart := false, laid := [("math/bits.deBruijn32tab", laid_math_bits_deBruijn32tab), ("math/bits.deBruijn64tab", laid_math_bits_deBruijn64tab), ("internal/strconv.uint64pow10", laid_internal_strconv_uint64pow10), ("analemma/offset.units", laid_analemma_offset_units)], narrowed := true }
def OffsetRefusesUptoSaid : Prop := offsetRefusesUptoRow.holds Tryd.pinned (OpenSpec.upto offsetRefusesSpec)

/-- 'analemmalaw08.WordFinds', WHERE WHAT IT READS IS OF BULK AT MOST 1048576: true; the input reads as it did. -/
def wordFindsUptoRow : OpenClaim := { program := "ytdpjkapaphelhaadoor", sum := "153d6ccb21332877b77a67228e6ecff07af76c829040d4acb9368fbcfeea581c", func := "analemma/analemmalaw08.WordFinds", spec := "wordFinds", unfollowed := true, recurses := true, named := ["analemma/word.lines", "analemma/word.months", "analemma/word.weeks", "analemma/word.years"], apart := false, laid := [("analemma/word.lines", laid_analemma_word_lines), ("analemma/word.months", laid_analemma_word_months), ("analemma/word.weeks", laid_analemma_word_weeks), ("analemma/word.years", laid_analemma_word_years)], narrowed := true }
def WordFindsUptoSaid : Prop := wordFindsUptoRow.holds Tryd.pinned (OpenSpec.upto wordFindsSpec)

/-- 'analemmalaw08.WordTexts', WHERE WHAT IT READS IS OF BULK AT MOST 1048576: true; the input reads as it did. -/
def wordTextsUptoRow : OpenClaim := { program := "ytdpjkapaphelhaadoor", sum := "153d6ccb21332877b77a67228e6ecff07af76c829040d4acb9368fbcfeea581c", func := "analemma/analemmalaw08.WordTexts", spec := "wordTexts", unfollowed := true, recurses := true, named := ["analemma/word.months", "analemma/word.weeks", "analemma/word.lines", "analemma/word.years"], apart := false, laid := [("analemma/word.lines", laid_analemma_word_lines), ("analemma/word.months", laid_analemma_word_months), ("analemma/word.weeks", laid_analemma_word_weeks), ("analemma/word.years", laid_analemma_word_years)], narrowed := true }
def WordTextsUptoSaid : Prop := wordTextsUptoRow.holds Tryd.pinned (OpenSpec.upto wordTextsSpec)

/-- 'analemmalaw08.WordBack', WHERE WHAT IT READS IS OF BULK AT MOST 1048576: true; the input reads as it did. -/
def wordBackUptoRow : OpenClaim := { program := "ytdpjkapaphelhaadoor", sum := "153d6ccb21332877b77a67228e6ecff07af76c829040d4acb9368fbcfeea581c", func := "analemma/analemmalaw08.WordBack", spec := "wordBack", unfollowed := true, recurses := true, named := ["analemma/word.lines", "analemma/word.months", "analemma/word.weeks", "analemma/word.years"], apart := false, laid := [("analemma/word.lines", laid_analemma_word_lines), ("analemma/word.months", laid_analemma_word_months), ("analemma/word.weeks", laid_analemma_word_weeks), ("analemma/word.years", laid_analemma_word_years)], narrowed := true }
def WordBackUptoSaid : Prop := wordBackUptoRow.holds Tryd.pinned (OpenSpec.upto wordBackSpec)

/-- 'analemmalaw08.WordShort', WHERE WHAT IT READS IS OF BULK AT MOST 1048576: true; the input reads as it did. -/
def wordShortUptoRow : OpenClaim := { program := "ytdpjkapaphelhaadoor", sum := "153d6ccb21332877b77a67228e6ecff07af76c829040d4acb9368fbcfeea581c", func := "analemma/analemmalaw08.WordShort", spec := "wordShort", unfollowed := true, recurses := true, named := ["analemma/word.months", "analemma/word.weeks", "analemma/word.lines", "analemma/word.years"], apart := false, laid := [("analemma/word.lines", laid_analemma_word_lines), ("analemma/word.months", laid_analemma_word_months), ("analemma/word.weeks", laid_analemma_word_weeks), ("analemma/word.years", laid_analemma_word_years)], narrowed := true }
def WordShortUptoSaid : Prop := wordShortUptoRow.holds Tryd.pinned (OpenSpec.upto wordShortSpec)

/-- 'analemmalaw08.WordMore', WHERE WHAT IT READS IS OF BULK AT MOST 1048576: true; the input reads as it did. -/
def wordMoreUptoRow : OpenClaim := { program := "ytdpjkapaphelhaadoor", sum := "153d6ccb21332877b77a67228e6ecff07af76c829040d4acb9368fbcfeea581c", func := "analemma/analemmalaw08.WordMore", spec := "wordMore", unfollowed := true, recurses := true, named := ["analemma/word.lines", "analemma/word.months", "analemma/word.weeks", "analemma/word.years"], apart := false, laid := [("analemma/word.lines", laid_analemma_word_lines), ("analemma/word.months", laid_analemma_word_months), ("analemma/word.weeks", laid_analemma_word_weeks), ("analemma/word.years", laid_analemma_word_years)], narrowed := true }
def WordMoreUptoSaid : Prop := wordMoreUptoRow.holds Tryd.pinned (OpenSpec.upto wordMoreSpec)

/-- 'analemmalaw08.WordOne', WHERE WHAT IT READS IS OF BULK AT MOST 1048576: true; the input reads as it did. -/
def wordOneUptoRow : OpenClaim := { program := "ytdpjkapaphelhaadoor", sum := "153d6ccb21332877b77a67228e6ecff07af76c829040d4acb9368fbcfeea581c", func := "analemma/analemmalaw08.WordOne", spec := "wordOne", unfollowed := true, recurses := true, named := ["analemma/word.lines", "analemma/word.months", "analemma/word.weeks", "analemma/word.years"], apart := false, laid := [("analemma/word.lines", laid_analemma_word_lines), ("analemma/word.months", laid_analemma_word_months), ("analemma/word.weeks", laid_analemma_word_weeks), ("analemma/word.years", laid_analemma_word_years)], narrowed := true }
def WordOneUptoSaid : Prop := wordOneUptoRow.holds Tryd.pinned (OpenSpec.upto wordOneSpec)

/-- 'analemmalaw08.WordNumbers', WHERE WHAT IT READS IS OF BULK AT MOST 1048576: true; the input reads as it did. -/
def wordNumbersUptoRow : OpenClaim := { program := "ytdpjkapaphelhaadoor", sum := "153d6ccb21332877b77a67228e6ecff07af76c829040d4acb9368fbcfeea581c", func := "analemma/analemmalaw08.WordNumbers", spec := "wordNumbers", unfollowed := true, recurses := true, named := ["analemma/word.months", "analemma/word.weeks", "analemma/word.lines", "analemma/word.years"], apart := false, laid := [("analemma/word.lines", laid_analemma_word_lines), ("analemma/word.months", laid_analemma_word_months), ("analemma/word.weeks", laid_analemma_word_weeks), ("analemma/word.years", laid_analemma_word_years)], narrowed := true }
def WordNumbersUptoSaid : Prop := wordNumbersUptoRow.holds Tryd.pinned (OpenSpec.upto wordNumbersSpec)

end Rows
end Go.Proofs.YtdpjkapaphelhaaDoor
