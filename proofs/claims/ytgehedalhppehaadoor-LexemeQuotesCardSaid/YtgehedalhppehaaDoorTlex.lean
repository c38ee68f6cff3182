/-
  The functions of plain data are what the program's code says.
-/
import Derived.Test.YtgehedalhppehaaDoorAxT
import Derived.Test.YtgehedalhppehaaDoorShelf
import Derived.Test.YtgehedalhppehaaDoorFlex
import Derived.Test.YtgehedalhppehaaDoorHBuilder
namespace Go.Proofs.YtgehedalhppehaaDoor
open Go.Ax
set_option linter.all false
set_option maxRecDepth 100000
set_option maxHeartbeats 4000000
variable {P : Program} [IsProg P]
variable {mx : Int}
def glList (mx : Int) : List (Nat × List AV) := [(2, [.int .u8 (.lit 128), .int .u8 (.lit 191), .int .u8 (.lit 160), .int .u8 (.lit 191), .int .u8 (.lit 128), .int .u8 (.lit 159), .int .u8 (.lit 144), .int .u8 (.lit 191), .int .u8 (.lit 128), .int .u8 (.lit 143), .int .u8 (.lit 0), .int .u8 (.lit 0), .int .u8 (.lit 0), .int .u8 (.lit 0), .int .u8 (.lit 0), .int .u8 (.lit 0), .int .u8 (.lit 0), .int .u8 (.lit 0), .int .u8 (.lit 0), .int .u8 (.lit 0), .int .u8 (.lit 0), .int .u8 (.lit 0), .int .u8 (.lit 0), .int .u8 (.lit 0), .int .u8 (.lit 0), .int .u8 (.lit 0), .int .u8 (.lit 0), .int .u8 (.lit 0), .int .u8 (.lit 0), .int .u8 (.lit 0), .int .u8 (.lit 0), .int .u8 (.lit 0)]), (1, [.int .u8 (.lit 240), .int .u8 (.lit 240), .int .u8 (.lit 240), .int .u8 (.lit 240), .int .u8 (.lit 240), .int .u8 (.lit 240), .int .u8 (.lit 240), .int .u8 (.lit 240), .int .u8 (.lit 240), .int .u8 (.lit 240), .int .u8 (.lit 240), .int .u8 (.lit 240), .int .u8 (.lit 240), .int .u8 (.lit 240), .int .u8 (.lit 240), .int .u8 (.lit 240), .int .u8 (.lit 240), .int .u8 (.lit 240), .int .u8 (.lit 240), .int .u8 (.lit 240), .int .u8 (.lit 240), .int .u8 (.lit 240), .int .u8 (.lit 240), .int .u8 (.lit 240), .int .u8 (.lit 240), .int .u8 (.lit 240), .int .u8 (.lit 240), .int .u8 (.lit 240), .int .u8 (.lit 240), .int .u8 (.lit 240), .int .u8 (.lit 240), .int .u8 (.lit 240), .int .u8 (.lit 240), .int .u8 (.lit 240), .int .u8 (.lit 240), .int .u8 (.lit 240), .int .u8 (.lit 240), .int .u8 (.lit 240), .int .u8 (.lit 240), .int .u8 (.lit 240), .int .u8 (.lit 240), .int .u8 (.lit 240), .int .u8 (.lit 240), .int .u8 (.lit 240), .int .u8 (.lit 240), .int .u8 (.lit 240), .int .u8 (.lit 240), .int .u8 (.lit 240), .int .u8 (.lit 240), .int .u8 (.lit 240), .int .u8 (.lit 240), .int .u8 (.lit 240), .int .u8 (.lit 240), .int .u8 (.lit 240), .int .u8 (.lit 240), .int .u8 (.lit 240), .int .u8 (.lit 240), .int .u8 (.lit 240), .int .u8 (.lit 240), .int .u8 (.lit 240), .int .u8 (.lit 240), .int .u8 (.lit 240), .int .u8 (.lit 240), .int .u8 (.lit 240), .int .u8 (.lit 240), .int .u8 (.lit 240), .int .u8 (.lit 240), .int .u8 (.lit 240), .int .u8 (.lit 240), .int .u8 (.lit 240), .int .u8 (.lit 240), .int .u8 (.lit 240), .int .u8 (.lit 240), .int .u8 (.lit 240), .int .u8 (.lit 240), .int .u8 (.lit 240), .int .u8 (.lit 240), .int .u8 (.lit 240), .int .u8 (.lit 240), .int .u8 (.lit 240), .int .u8 (.lit 240), .int .u8 (.lit 240), .int .u8 (.lit 240), .int .u8 (.lit 240), .int .u8 (.lit 240), .int .u8 (.lit 240), .int .u8 (.lit 240), .int .u8 (.lit 240), .int .u8 (.lit 240), .int .u8 (.lit 240), .int .u8 (.lit 240), .int .u8 (.lit 240), .int .u8 (.lit 240), .int .u8 (.lit 240), .int .u8 (.lit 240), .int .u8 (.lit 240), .int .u8 (.lit 240), .int .u8 (.lit 240), .int .u8 (.lit 240), .int .u8 (.lit 240), .int .u8 (.lit 240), .int .u8 (.lit 240), .int .u8 (.lit 240), .int .u8 (.lit 240), .int .u8 (.lit 240), .int .u8 (.lit 240), .int .u8 (.lit 240), .int .u8 (.lit 240), .int .u8 (.lit 240), .int .u8 (.lit 240), .int .u8 (.lit 240), .int .u8 (.lit 240), .int .u8 (.lit 240), .int .u8 (.lit 240), .int .u8 (.lit 240), .int .u8 (.lit 240), .int .u8 (.lit 240), .int .u8 (.lit 240), .int .u8 (.lit 240), .int .u8 (.lit 240), .int .u8 (.lit 240), .int .u8 (.lit 240), .int .u8 (.lit 240), .int .u8 (.lit 240), .int .u8 (.lit 240), .int .u8 (.lit 240), .int .u8 (.lit 240), .int .u8 (.lit 240), .int .u8 (.lit 241), .int .u8 (.lit 241), .int .u8 (.lit 241), .int .u8 (.lit 241), .int .u8 (.lit 241), .int .u8 (.lit 241), .int .u8 (.lit 241), .int .u8 (.lit 241), .int .u8 (.lit 241), .int .u8 (.lit 241), .int .u8 (.lit 241), .int .u8 (.lit 241), .int .u8 (.lit 241), .int .u8 (.lit 241), .int .u8 (.lit 241), .int .u8 (.lit 241), .int .u8 (.lit 241), .int .u8 (.lit 241), .int .u8 (.lit 241), .int .u8 (.lit 241), .int .u8 (.lit 241), .int .u8 (.lit 241), .int .u8 (.lit 241), .int .u8 (.lit 241), .int .u8 (.lit 241), .int .u8 (.lit 241), .int .u8 (.lit 241), .int .u8 (.lit 241), .int .u8 (.lit 241), .int .u8 (.lit 241), .int .u8 (.lit 241), .int .u8 (.lit 241), .int .u8 (.lit 241), .int .u8 (.lit 241), .int .u8 (.lit 241), .int .u8 (.lit 241), .int .u8 (.lit 241), .int .u8 (.lit 241), .int .u8 (.lit 241), .int .u8 (.lit 241), .int .u8 (.lit 241), .int .u8 (.lit 241), .int .u8 (.lit 241), .int .u8 (.lit 241), .int .u8 (.lit 241), .int .u8 (.lit 241), .int .u8 (.lit 241), .int .u8 (.lit 241), .int .u8 (.lit 241), .int .u8 (.lit 241), .int .u8 (.lit 241), .int .u8 (.lit 241), .int .u8 (.lit 241), .int .u8 (.lit 241), .int .u8 (.lit 241), .int .u8 (.lit 241), .int .u8 (.lit 241), .int .u8 (.lit 241), .int .u8 (.lit 241), .int .u8 (.lit 241), .int .u8 (.lit 241), .int .u8 (.lit 241), .int .u8 (.lit 241), .int .u8 (.lit 241), .int .u8 (.lit 241), .int .u8 (.lit 241), .int .u8 (.lit 2), .int .u8 (.lit 2), .int .u8 (.lit 2), .int .u8 (.lit 2), .int .u8 (.lit 2), .int .u8 (.lit 2), .int .u8 (.lit 2), .int .u8 (.lit 2), .int .u8 (.lit 2), .int .u8 (.lit 2), .int .u8 (.lit 2), .int .u8 (.lit 2), .int .u8 (.lit 2), .int .u8 (.lit 2), .int .u8 (.lit 2), .int .u8 (.lit 2), .int .u8 (.lit 2), .int .u8 (.lit 2), .int .u8 (.lit 2), .int .u8 (.lit 2), .int .u8 (.lit 2), .int .u8 (.lit 2), .int .u8 (.lit 2), .int .u8 (.lit 2), .int .u8 (.lit 2), .int .u8 (.lit 2), .int .u8 (.lit 2), .int .u8 (.lit 2), .int .u8 (.lit 2), .int .u8 (.lit 2), .int .u8 (.lit 19), .int .u8 (.lit 3), .int .u8 (.lit 3), .int .u8 (.lit 3), .int .u8 (.lit 3), .int .u8 (.lit 3), .int .u8 (.lit 3), .int .u8 (.lit 3), .int .u8 (.lit 3), .int .u8 (.lit 3), .int .u8 (.lit 3), .int .u8 (.lit 3), .int .u8 (.lit 3), .int .u8 (.lit 35), .int .u8 (.lit 3), .int .u8 (.lit 3), .int .u8 (.lit 52), .int .u8 (.lit 4), .int .u8 (.lit 4), .int .u8 (.lit 4), .int .u8 (.lit 68), .int .u8 (.lit 241), .int .u8 (.lit 241), .int .u8 (.lit 241), .int .u8 (.lit 241), .int .u8 (.lit 241), .int .u8 (.lit 241), .int .u8 (.lit 241), .int .u8 (.lit 241), .int .u8 (.lit 241), .int .u8 (.lit 241), .int .u8 (.lit 241)]), (0, [.int .i64 (.sym mx)])]
def gl (mx : Int) : Nat → Option (List AV) := Ax.look (glList mx)
noncomputable def rl : Nat → Option Rule := Ax.look [(47, ruleCopy 58), (38, ruleString 58 5)]
theorem rl_ok : RulesOk P (gl mx) rl := (rules_cons copyCheck_rule (rules_cons builderString_rule rules_nil))
noncomputable def E0 : List (Nat × Ax.Fn) := []
omit [IsProg P] in theorem E0_ok : EOk P (gl mx) (Ax.look E0) := eok_nil
def F_internal_stringslite_HasSuffix_T : List (Nat × List (Nat × Nat × Ax.Tm)) := []
theorem F_internal_stringslite_HasSuffix_eq : (fun ds => (fnO tau (gl mx) (xd F_internal_stringslite_HasSuffix_T) rl (Ax.look E0) 100 53 [.str, .str] (.bool) ds).run) = F_internal_stringslite_HasSuffix := by kernel_rfl
theorem F_internal_stringslite_HasSuffix_ok : FnOk P (gl mx) 53 ⟨[.str, .str], (.bool), F_internal_stringslite_HasSuffix⟩ := F_internal_stringslite_HasSuffix_eq ▸ fnO_ok tau_ok mix (xd_ok _) rl_ok (E0_ok)
noncomputable def E1 : List (Nat × Ax.Fn) := (53, ⟨[.str, .str], (.bool), F_internal_stringslite_HasSuffix⟩) :: E0
theorem E1_ok : EOk P (gl mx) (Ax.look E1) := eok_cons F_internal_stringslite_HasSuffix_ok E0_ok
def F_internal_stringslite_TrimSuffix_T : List (Nat × List (Nat × Nat × Ax.Tm)) := []
theorem F_internal_stringslite_TrimSuffix_eq : (fun ds => (fnO tau (gl mx) (xd F_internal_stringslite_TrimSuffix_T) rl (Ax.look E1) 100 43 [.str, .str] (.str) ds).run) = F_internal_stringslite_TrimSuffix := by kernel_rfl
theorem F_internal_stringslite_TrimSuffix_ok : FnOk P (gl mx) 43 ⟨[.str, .str], (.str), F_internal_stringslite_TrimSuffix⟩ := F_internal_stringslite_TrimSuffix_eq ▸ fnO_ok tau_ok mix (xd_ok _) rl_ok (E1_ok)
noncomputable def E2 : List (Nat × Ax.Fn) := (43, ⟨[.str, .str], (.str), F_internal_stringslite_TrimSuffix⟩) :: E1
theorem E2_ok : EOk P (gl mx) (Ax.look E2) := eok_cons F_internal_stringslite_TrimSuffix_ok E1_ok
def F_strings_TrimSuffix_T : List (Nat × List (Nat × Nat × Ax.Tm)) := []
theorem F_strings_TrimSuffix_eq : (fun ds => (fnO tau (gl mx) (xd F_strings_TrimSuffix_T) rl (Ax.look E2) 100 27 [.str, .str] (.str) ds).run) = F_strings_TrimSuffix := by kernel_rfl
theorem F_strings_TrimSuffix_ok : FnOk P (gl mx) 27 ⟨[.str, .str], (.str), F_strings_TrimSuffix⟩ := F_strings_TrimSuffix_eq ▸ fnO_ok tau_ok mix (xd_ok _) rl_ok (E2_ok)
noncomputable def E3 : List (Nat × Ax.Fn) := (27, ⟨[.str, .str], (.str), F_strings_TrimSuffix⟩) :: E2
theorem E3_ok : EOk P (gl mx) (Ax.look E3) := eok_cons F_strings_TrimSuffix_ok E2_ok
noncomputable def E4 : List (Nat × Ax.Fn) := E3
theorem E4_ok : EOk P (gl mx) (Ax.look E4) := E3_ok
def F_unicode_utf8_decodeRuneInStringSlow_T : List (Nat × List (Nat × Nat × Ax.Tm)) := []
theorem F_unicode_utf8_decodeRuneInStringSlow_eq : (fun ds => (fnO tau (gl mx) (xd F_unicode_utf8_decodeRuneInStringSlow_T) rl (Ax.look E4) 100 74 [.str] (.tuple [.int .i32, .int .i64]) ds).run) = F_unicode_utf8_decodeRuneInStringSlow := by kernel_rfl
theorem F_unicode_utf8_decodeRuneInStringSlow_ok : FnOk P (gl mx) 74 ⟨[.str], (.tuple [.int .i32, .int .i64]), F_unicode_utf8_decodeRuneInStringSlow⟩ := F_unicode_utf8_decodeRuneInStringSlow_eq ▸ fnO_ok tau_ok mix (xd_ok _) rl_ok (E4_ok)
noncomputable def E5 : List (Nat × Ax.Fn) := (74, ⟨[.str], (.tuple [.int .i32, .int .i64]), F_unicode_utf8_decodeRuneInStringSlow⟩) :: E4
theorem E5_ok : EOk P (gl mx) (Ax.look E5) := eok_cons F_unicode_utf8_decodeRuneInStringSlow_ok E4_ok
def F_unicode_utf8_DecodeRuneInString_T : List (Nat × List (Nat × Nat × Ax.Tm)) := []
theorem F_unicode_utf8_DecodeRuneInString_eq : (fun ds => (fnO tau (gl mx) (xd F_unicode_utf8_DecodeRuneInString_T) rl (Ax.look E5) 100 67 [.str] (.tuple [.int .i32, .int .i64]) ds).run) = F_unicode_utf8_DecodeRuneInString := by kernel_rfl
theorem F_unicode_utf8_DecodeRuneInString_ok : FnOk P (gl mx) 67 ⟨[.str], (.tuple [.int .i32, .int .i64]), F_unicode_utf8_DecodeRuneInString⟩ := F_unicode_utf8_DecodeRuneInString_eq ▸ fnO_ok tau_ok mix (xd_ok _) rl_ok (E5_ok)
noncomputable def E6 : List (Nat × Ax.Fn) := (67, ⟨[.str], (.tuple [.int .i32, .int .i64]), F_unicode_utf8_DecodeRuneInString⟩) :: E5
theorem E6_ok : EOk P (gl mx) (Ax.look E6) := eok_cons F_unicode_utf8_DecodeRuneInString_ok E5_ok
noncomputable def E7 : List (Nat × Ax.Fn) := E6
theorem E7_ok : EOk P (gl mx) (Ax.look E7) := E6_ok
theorem shelf51 : FnOk P (gl mx) 51 ⟨[.str, .str], (.int .i64), strCount1⟩ := by
  have h := IsProg.eq (P := P)
  subst h
  exact strCount1_ok Tryd.func51 (c := code51) (by kernel_rfl) (by kernel_rfl) (fun s c w => Tryd.strings_Count_one s c w)
noncomputable def E8 : List (Nat × Ax.Fn) := (51, ⟨[.str, .str], (.int .i64), strCount1⟩) :: E7
theorem E8_ok : EOk P (gl mx) (Ax.look E8) := eok_cons shelf51 E7_ok
theorem shelf40 : FnOk P (gl mx) 40 ⟨[.str, .str], (.int .i64), strIndex⟩ := by
  have h := IsProg.eq (P := P)
  subst h
  exact strIndex_ok Tryd.func40 (c := code40) (by kernel_rfl) (by kernel_rfl) (m := mx) (g := 0) (by kernel_rfl) (fun s t w hs hm => Tryd.strings_Index s t mx w hs hm)
noncomputable def E9 : List (Nat × Ax.Fn) := (40, ⟨[.str, .str], (.int .i64), strIndex⟩) :: E8
theorem E9_ok : EOk P (gl mx) (Ax.look E9) := eok_cons shelf40 E8_ok
def F_strings_genSplit_T : List (Nat × List (Nat × Nat × Ax.Tm)) := [(41, [(11, 1, (⟨[(0, .str), (1, .str), (2, .int .i64), (3, .int .i64), (9, .ownS 0 0 1), (10, .int .i64)], [(0, .whole)], 1⟩ : Go.Ax.Tm))])]
theorem F_strings_genSplit_eq : (fun ds => (fnO tau (gl mx) (xd F_strings_genSplit_T) rl (Ax.look E9) 100 41 [.str, .str, .int .i64, .int .i64] (.seq) ds).run) = F_strings_genSplit := by kernel_rfl
theorem F_strings_genSplit_ok : FnOk P (gl mx) 41 ⟨[.str, .str, .int .i64, .int .i64], (.seq), F_strings_genSplit⟩ := F_strings_genSplit_eq ▸ fnO_ok tau_ok mix (xd_ok _) rl_ok (E9_ok)
noncomputable def E10 : List (Nat × Ax.Fn) := (41, ⟨[.str, .str, .int .i64, .int .i64], (.seq), F_strings_genSplit⟩) :: E9
theorem E10_ok : EOk P (gl mx) (Ax.look E10) := eok_cons F_strings_genSplit_ok E9_ok
def F_strings_Split_T : List (Nat × List (Nat × Nat × Ax.Tm)) := []
theorem F_strings_Split_eq : (fun ds => (fnO tau (gl mx) (xd F_strings_Split_T) rl (Ax.look E10) 100 24 [.str, .str] (.seq) ds).run) = F_strings_Split := by kernel_rfl
theorem F_strings_Split_ok : FnOk P (gl mx) 24 ⟨[.str, .str], (.seq), F_strings_Split⟩ := F_strings_Split_eq ▸ fnO_ok tau_ok mix (xd_ok _) rl_ok (E10_ok)
noncomputable def E11 : List (Nat × Ax.Fn) := (24, ⟨[.str, .str], (.seq), F_strings_Split⟩) :: E10
theorem E11_ok : EOk P (gl mx) (Ax.look E11) := eok_cons F_strings_Split_ok E10_ok
def F_lexeme_Lines_T : List (Nat × List (Nat × Nat × Ax.Tm)) := [(12, [(5, 0, (⟨[(5, .seq), (14, .seq), (15, .int .i64), (16, .int .i64)], [], 0⟩ : Go.Ax.Tm))])]
theorem F_lexeme_Lines_eq : (fun ds => (fnO tau (gl mx) (xd F_lexeme_Lines_T) rl (Ax.look E11) 100 12 [.str] (.tuple [.seq, .int .i64, .int .i64]) ds).run) = F_lexeme_Lines := by kernel_rfl
theorem F_lexeme_Lines_ok : FnOk P (gl mx) 12 ⟨[.str], (.tuple [.seq, .int .i64, .int .i64]), F_lexeme_Lines⟩ := F_lexeme_Lines_eq ▸ fnO_ok tau_ok mix (xd_ok _) rl_ok (E11_ok)
noncomputable def E12 : List (Nat × Ax.Fn) := (12, ⟨[.str], (.tuple [.seq, .int .i64, .int .i64]), F_lexeme_Lines⟩) :: E11
theorem E12_ok : EOk P (gl mx) (Ax.look E12) := eok_cons F_lexeme_Lines_ok E11_ok
def F_slices_Equalstring_string__T : List (Nat × List (Nat × Nat × Ax.Tm)) := [(14, [(4, 0, (⟨[(0, .seq), (1, .seq), (12, .int .i64), (13, .int .i64)], [], 0⟩ : Go.Ax.Tm))])]
theorem F_slices_Equalstring_string__eq : (fun ds => (fnO tau (gl mx) (xd F_slices_Equalstring_string__T) rl (Ax.look E12) 100 14 [.seq, .seq] (.bool) ds).run) = F_slices_Equalstring_string_ := by kernel_rfl
theorem F_slices_Equalstring_string__ok : FnOk P (gl mx) 14 ⟨[.seq, .seq], (.bool), F_slices_Equalstring_string_⟩ := F_slices_Equalstring_string__eq ▸ fnO_ok tau_ok mix (xd_ok _) rl_ok (E12_ok)
noncomputable def E13 : List (Nat × Ax.Fn) := (14, ⟨[.seq, .seq], (.bool), F_slices_Equalstring_string_⟩) :: E12
theorem E13_ok : EOk P (gl mx) (Ax.look E13) := eok_cons F_slices_Equalstring_string__ok E12_ok
def F_lexeme_Fields_T : List (Nat × List (Nat × Nat × Ax.Tm)) := [(17, [(8, 3, (⟨[(0, .str), (4, .ptr 0 0), (5, .ptr 1 0), (6, .ptr 2 0), (7, .bool), (8, .func 30 [] [.ptr 2 0, .ptr 0 0, .ptr 1 0]), (16, .int .i64), (17, .int .i64)], [(0, .each [.acc 3 1]), (1, .each [.acc 4 1]), (2, .each [.bool]), (3, .whole), (4, .whole)], 5⟩ : Go.Ax.Tm))])]
theorem F_lexeme_Fields_eq : (fun ds => (fnO tau (gl mx) (xd F_lexeme_Fields_T) rl (Ax.look E13) 100 17 [.str] (.tuple [.seq, .int .i64]) ds).run) = F_lexeme_Fields := by kernel_rfl
theorem F_lexeme_Fields_ok : FnOk P (gl mx) 17 ⟨[.str], (.tuple [.seq, .int .i64]), F_lexeme_Fields⟩ := F_lexeme_Fields_eq ▸ fnO_ok tau_ok mix (xd_ok _) rl_ok (E13_ok)
noncomputable def E14 : List (Nat × Ax.Fn) := (17, ⟨[.str], (.tuple [.seq, .int .i64]), F_lexeme_Fields⟩) :: E13
theorem E14_ok : EOk P (gl mx) (Ax.look E14) := eok_cons F_lexeme_Fields_ok E13_ok
def F_lexeme_writable_T : List (Nat × List (Nat × Nat × Ax.Tm)) := [(33, [(2, 0, (⟨[(0, .str), (5, .int .i64), (6, .int .i64)], [], 0⟩ : Go.Ax.Tm))])]
theorem F_lexeme_writable_eq : (fun ds => (fnO tau (gl mx) (xd F_lexeme_writable_T) rl (Ax.look E14) 100 33 [.str] (.bool) ds).run) = F_lexeme_writable := by kernel_rfl
theorem F_lexeme_writable_ok : FnOk P (gl mx) 33 ⟨[.str], (.bool), F_lexeme_writable⟩ := F_lexeme_writable_eq ▸ fnO_ok tau_ok mix (xd_ok _) rl_ok (E14_ok)
noncomputable def E15 : List (Nat × Ax.Fn) := (33, ⟨[.str], (.bool), F_lexeme_writable⟩) :: E14
theorem E15_ok : EOk P (gl mx) (Ax.look E15) := eok_cons F_lexeme_writable_ok E14_ok
theorem shelf35 : FnOk P (gl mx) 35 ⟨[.str, .str], .bool, strContainsAny⟩ := by
  have h := IsProg.eq (P := P)
  subst h
  exact strContainsAny_ok Tryd.func35 (c := code35) (by kernel_rfl) (by kernel_rfl) (fun s t w h1 h2 h3 h4 => Tryd.strings_ContainsAny_laid s t w h1 h2 h3 h4)
noncomputable def E16 : List (Nat × Ax.Fn) := (35, ⟨[.str, .str], .bool, strContainsAny⟩) :: E15
theorem E16_ok : EOk P (gl mx) (Ax.look E16) := eok_cons shelf35 E15_ok
def F_lexeme_Join_T : List (Nat × List (Nat × Nat × Ax.Tm)) := [(19, [(3, 2, (⟨[(4, .ptr 0 0), (7, .seq), (8, .int .i64), (9, .int .i64)], [(0, .each [.apt 0 58, .buf 1 5]), (1, .whole)], 2⟩ : Go.Ax.Tm))])]
theorem F_lexeme_Join_eq : (fun ds => (fnO tau (gl mx) (xd F_lexeme_Join_T) rl (Ax.look E16) 100 19 [.seq] (.tuple [.str, .int .i64]) ds).run) = F_lexeme_Join := by kernel_rfl
theorem F_lexeme_Join_ok : FnOk P (gl mx) 19 ⟨[.seq], (.tuple [.str, .int .i64]), F_lexeme_Join⟩ := F_lexeme_Join_eq ▸ fnO_ok tau_ok mix (xd_ok _) rl_ok (E16_ok)
noncomputable def E17 : List (Nat × Ax.Fn) := (19, ⟨[.seq], (.tuple [.str, .int .i64]), F_lexeme_Join⟩) :: E16
theorem E17_ok : EOk P (gl mx) (Ax.look E17) := eok_cons F_lexeme_Join_ok E16_ok
theorem F_law05_works_eq : (fun ds => (fnO tau (gl mx) (xd []) rl (Ax.look E17) 3000 11 [] (.bool) ds).run) = F_law05_works := by kernel_rfl
theorem F_law05_works_ok : FnOk P (gl mx) 11 ⟨[], (.bool), F_law05_works⟩ := F_law05_works_eq ▸ fnO_ok tau_ok mix (xd_ok _) rl_ok (E17_ok)
noncomputable def E18 : List (Nat × Ax.Fn) := (11, ⟨[], (.bool), F_law05_works⟩) :: E17
theorem E18_ok : EOk P (gl mx) (Ax.look E18) := eok_cons F_law05_works_ok E17_ok
def F_ref05_Lines_T : List (Nat × List (Nat × Nat × Ax.Tm)) := [(13, [(6, 0, (⟨[(0, .str), (5, .acc 0 1), (6, .int .i64), (7, .int .i64)], [(0, .whole)], 1⟩ : Go.Ax.Tm))])]
theorem F_ref05_Lines_eq : (fun ds => (fnO tau (gl mx) (xd F_ref05_Lines_T) rl (Ax.look E18) 100 13 [.str] (.tuple [.seq, .int .i64, .int .i64]) ds).run) = F_ref05_Lines := by kernel_rfl
theorem F_ref05_Lines_ok : FnOk P (gl mx) 13 ⟨[.str], (.tuple [.seq, .int .i64, .int .i64]), F_ref05_Lines⟩ := F_ref05_Lines_eq ▸ fnO_ok tau_ok mix (xd_ok _) rl_ok (E18_ok)
noncomputable def E19 : List (Nat × Ax.Fn) := (13, ⟨[.str], (.tuple [.seq, .int .i64, .int .i64]), F_ref05_Lines⟩) :: E18
theorem E19_ok : EOk P (gl mx) (Ax.look E19) := eok_cons F_ref05_Lines_ok E18_ok
def F_law05_LexemeLines_T : List (Nat × List (Nat × Nat × Ax.Tm)) := []
theorem F_law05_LexemeLines_eq : (fun ds => (fnO tau (gl mx) (xd F_law05_LexemeLines_T) rl (Ax.look E19) 100 3 [.str] (.bool) ds).run) = F_law05_LexemeLines := by kernel_rfl
theorem F_law05_LexemeLines_ok : FnOk P (gl mx) 3 ⟨[.str], (.bool), F_law05_LexemeLines⟩ := F_law05_LexemeLines_eq ▸ fnO_ok tau_ok mix (xd_ok _) rl_ok (E19_ok)
noncomputable def E20 : List (Nat × Ax.Fn) := (3, ⟨[.str], (.bool), F_law05_LexemeLines⟩) :: E19
theorem E20_ok : EOk P (gl mx) (Ax.look E20) := eok_cons F_law05_LexemeLines_ok E19_ok
def F_ref05_plain_T : List (Nat × List (Nat × Nat × Ax.Tm)) := []
theorem F_ref05_plain_eq : (fun ds => (fnO tau (gl mx) (xd F_ref05_plain_T) rl (Ax.look E20) 100 31 [.int .u8] (.bool) ds).run) = F_ref05_plain := by kernel_rfl
theorem F_ref05_plain_ok : FnOk P (gl mx) 31 ⟨[.int .u8], (.bool), F_ref05_plain⟩ := F_ref05_plain_eq ▸ fnO_ok tau_ok mix (xd_ok _) rl_ok (E20_ok)
noncomputable def E21 : List (Nat × Ax.Fn) := (31, ⟨[.int .u8], (.bool), F_ref05_plain⟩) :: E20
theorem E21_ok : EOk P (gl mx) (Ax.look E21) := eok_cons F_ref05_plain_ok E20_ok
def F_ref05_quoted_T : List (Nat × List (Nat × Nat × Ax.Tm)) := [(46, [(2, 0, (⟨[(0, .str), (1, .int .i64), (7, .int .i64)], [], 0⟩ : Go.Ax.Tm))])]
theorem F_ref05_quoted_eq : (fun ds => (fnO tau (gl mx) (xd F_ref05_quoted_T) rl (Ax.look E21) 100 46 [.str, .int .i64] (.tuple [.str, .int .i64, .bool]) ds).run) = F_ref05_quoted := by kernel_rfl
theorem F_ref05_quoted_ok : FnOk P (gl mx) 46 ⟨[.str, .int .i64], (.tuple [.str, .int .i64, .bool]), F_ref05_quoted⟩ := F_ref05_quoted_eq ▸ fnO_ok tau_ok mix (xd_ok _) rl_ok (E21_ok)
noncomputable def E22 : List (Nat × Ax.Fn) := (46, ⟨[.str, .int .i64], (.tuple [.str, .int .i64, .bool]), F_ref05_quoted⟩) :: E21
theorem E22_ok : EOk P (gl mx) (Ax.look E22) := eok_cons F_ref05_quoted_ok E21_ok
def F_ref05_field_T : List (Nat × List (Nat × Nat × Ax.Tm)) := [(32, [(2, 0, (⟨[(0, .str), (1, .int .i64), (7, .str)], [], 0⟩ : Go.Ax.Tm))])]
theorem F_ref05_field_eq : (fun ds => (fnO tau (gl mx) (xd F_ref05_field_T) rl (Ax.look E22) 100 32 [.str, .int .i64] (.tuple [.str, .int .i64, .bool]) ds).run) = F_ref05_field := by kernel_rfl
theorem F_ref05_field_ok : FnOk P (gl mx) 32 ⟨[.str, .int .i64], (.tuple [.str, .int .i64, .bool]), F_ref05_field⟩ := F_ref05_field_eq ▸ fnO_ok tau_ok mix (xd_ok _) rl_ok (E22_ok)
noncomputable def E23 : List (Nat × Ax.Fn) := (32, ⟨[.str, .int .i64], (.tuple [.str, .int .i64, .bool]), F_ref05_field⟩) :: E22
theorem E23_ok : EOk P (gl mx) (Ax.look E23) := eok_cons F_ref05_field_ok E22_ok
def F_ref05_Fields_T : List (Nat × List (Nat × Nat × Ax.Tm)) := [(18, [(5, 0, (⟨[(0, .str), (4, .acc 0 1), (5, .int .i64)], [(0, .whole)], 1⟩ : Go.Ax.Tm))])]
theorem F_ref05_Fields_eq : (fun ds => (fnO tau (gl mx) (xd F_ref05_Fields_T) rl (Ax.look E23) 100 18 [.str] (.tuple [.seq, .int .i64]) ds).run) = F_ref05_Fields := by kernel_rfl
theorem F_ref05_Fields_ok : FnOk P (gl mx) 18 ⟨[.str], (.tuple [.seq, .int .i64]), F_ref05_Fields⟩ := F_ref05_Fields_eq ▸ fnO_ok tau_ok mix (xd_ok _) rl_ok (E23_ok)
noncomputable def E24 : List (Nat × Ax.Fn) := (18, ⟨[.str], (.tuple [.seq, .int .i64]), F_ref05_Fields⟩) :: E23
theorem E24_ok : EOk P (gl mx) (Ax.look E24) := eok_cons F_ref05_Fields_ok E23_ok
def F_ref05_bare_T : List (Nat × List (Nat × Nat × Ax.Tm)) := [(39, [(2, 0, (⟨[(0, .str), (3, .int .i64)], [], 0⟩ : Go.Ax.Tm))])]
theorem F_ref05_bare_eq : (fun ds => (fnO tau (gl mx) (xd F_ref05_bare_T) rl (Ax.look E24) 100 39 [.str] (.bool) ds).run) = F_ref05_bare := by kernel_rfl
theorem F_ref05_bare_ok : FnOk P (gl mx) 39 ⟨[.str], (.bool), F_ref05_bare⟩ := F_ref05_bare_eq ▸ fnO_ok tau_ok mix (xd_ok _) rl_ok (E24_ok)
noncomputable def E25 : List (Nat × Ax.Fn) := (39, ⟨[.str], (.bool), F_ref05_bare⟩) :: E24
theorem E25_ok : EOk P (gl mx) (Ax.look E25) := eok_cons F_ref05_bare_ok E24_ok
def F_ref05_Join_T : List (Nat × List (Nat × Nat × Ax.Tm)) := [(20, [(3, 0, (⟨[(0, .seq), (4, .str), (5, .int .i64)], [], 0⟩ : Go.Ax.Tm)), (7, 0, (⟨[(0, .seq), (4, .str), (5, .int .i64), (6, .str), (7, .int .i64)], [], 0⟩ : Go.Ax.Tm)), (12, 0, (⟨[(0, .seq), (4, .str), (8, .int .i64)], [], 0⟩ : Go.Ax.Tm))])]
theorem F_ref05_Join_eq : (fun ds => (fnO tau (gl mx) (xd F_ref05_Join_T) rl (Ax.look E25) 100 20 [.seq] (.tuple [.str, .int .i64]) ds).run) = F_ref05_Join := by kernel_rfl
theorem F_ref05_Join_ok : FnOk P (gl mx) 20 ⟨[.seq], (.tuple [.str, .int .i64]), F_ref05_Join⟩ := F_ref05_Join_eq ▸ fnO_ok tau_ok mix (xd_ok _) rl_ok (E25_ok)
noncomputable def E26 : List (Nat × Ax.Fn) := (20, ⟨[.seq], (.tuple [.str, .int .i64]), F_ref05_Join⟩) :: E25
theorem E26_ok : EOk P (gl mx) (Ax.look E26) := eok_cons F_ref05_Join_ok E25_ok
def F_law05_LexemeFields_T : List (Nat × List (Nat × Nat × Ax.Tm)) := [(23, [(2, 0, (⟨[(0, .seq), (1, .func 16 [] []), (7, .int .i64), (8, .int .i64)], [], 0⟩ : Go.Ax.Tm))])]
theorem F_law05_LexemeFields_eq : (fun ds => (fnO tau (gl mx) (xd F_law05_LexemeFields_T) rl (Ax.look E26) 100 4 [.str, .seq] (.bool) ds).run) = F_law05_LexemeFields := by kernel_rfl
theorem F_law05_LexemeFields_ok : FnOk P (gl mx) 4 ⟨[.str, .seq], (.bool), F_law05_LexemeFields⟩ := F_law05_LexemeFields_eq ▸ fnO_ok tau_ok mix (xd_ok _) rl_ok (E26_ok)
noncomputable def E27 : List (Nat × Ax.Fn) := (4, ⟨[.str, .seq], (.bool), F_law05_LexemeFields⟩) :: E26
theorem E27_ok : EOk P (gl mx) (Ax.look E27) := eok_cons F_law05_LexemeFields_ok E26_ok
def F__law05_Draft__Made_T : List (Nat × List (Nat × Nat × Ax.Tm)) := [(21, [(3, 0, (⟨[(3, .acc 0 1), (13, .seq), (14, .int .i64), (15, .int .i64)], [(0, .whole)], 1⟩ : Go.Ax.Tm)), (7, 1, (⟨[(3, .acc 0 1), (6, .str), (13, .seq), (14, .int .i64), (15, .int .i64), (23, .seq), (24, .int .i64), (25, .int .i64)], [(0, .whole)], 1⟩ : Go.Ax.Tm))])]
theorem F__law05_Draft__Made_eq : (fun ds => (fnO tau (gl mx) (xd F__law05_Draft__Made_T) rl (Ax.look E27) 100 21 [.seq] (.seq) ds).run) = F__law05_Draft__Made := by kernel_rfl
theorem F__law05_Draft__Made_ok : FnOk P (gl mx) 21 ⟨[.seq], (.seq), F__law05_Draft__Made⟩ := F__law05_Draft__Made_eq ▸ fnO_ok tau_ok mix (xd_ok _) rl_ok (E27_ok)
noncomputable def E28 : List (Nat × Ax.Fn) := (21, ⟨[.seq], (.seq), F__law05_Draft__Made⟩) :: E27
theorem E28_ok : EOk P (gl mx) (Ax.look E28) := eok_cons F__law05_Draft__Made_ok E27_ok
def F_strings_Contains_T : List (Nat × List (Nat × Nat × Ax.Tm)) := []
theorem F_strings_Contains_eq : (fun ds => (fnO tau (gl mx) (xd F_strings_Contains_T) rl (Ax.look E28) 100 22 [.str, .str] (.bool) ds).run) = F_strings_Contains := by kernel_rfl
theorem F_strings_Contains_ok : FnOk P (gl mx) 22 ⟨[.str, .str], (.bool), F_strings_Contains⟩ := F_strings_Contains_eq ▸ fnO_ok tau_ok mix (xd_ok _) rl_ok (E28_ok)
noncomputable def E29 : List (Nat × Ax.Fn) := (22, ⟨[.str, .str], (.bool), F_strings_Contains⟩) :: E28
theorem E29_ok : EOk P (gl mx) (Ax.look E29) := eok_cons F_strings_Contains_ok E28_ok
def F_law05_LexemeBack_T : List (Nat × List (Nat × Nat × Ax.Tm)) := [(5, [(14, 1, (⟨[(65, .seq), (66, .int .i64), (67, .int .i64)], [], 0⟩ : Go.Ax.Tm))])]
theorem F_law05_LexemeBack_eq : (fun ds => (fnO tau (gl mx) (xd F_law05_LexemeBack_T) rl (Ax.look E29) 100 5 [.seq, .str] (.bool) ds).run) = F_law05_LexemeBack := by kernel_rfl
theorem F_law05_LexemeBack_ok : FnOk P (gl mx) 5 ⟨[.seq, .str], (.bool), F_law05_LexemeBack⟩ := F_law05_LexemeBack_eq ▸ fnO_ok tau_ok mix (xd_ok _) rl_ok (E29_ok)
noncomputable def E30 : List (Nat × Ax.Fn) := (5, ⟨[.seq, .str], (.bool), F_law05_LexemeBack⟩) :: E29
theorem E30_ok : EOk P (gl mx) (Ax.look E30) := eok_cons F_law05_LexemeBack_ok E29_ok
theorem shelf26 : FnOk P (gl mx) 26 ⟨[.seq, .str], .str, strJoin⟩ := by
  have h := IsProg.eq (P := P)
  subst h
  exact strJoin_ok Tryd.func26 (c := code26) (by kernel_rfl) (by kernel_rfl) (fun a c sep w => Any.strings_Join_none Tryd.lays156 Tryd.Builder_Extra_156 a c sep w) (fun bk o c xs sep w h1 h2 h3 h4 h5 => Tryd.strings_Join bk o c xs sep w h1 h2 h3 h4 h5)
noncomputable def E31 : List (Nat × Ax.Fn) := (26, ⟨[.seq, .str], .str, strJoin⟩) :: E30
theorem E31_ok : EOk P (gl mx) (Ax.look E31) := eok_cons shelf26 E30_ok
def F_law05_LexemeText_T : List (Nat × List (Nat × Nat × Ax.Tm)) := [(23, [(2, 0, (⟨[(0, .seq), (1, .func 25 [] []), (7, .int .i64), (8, .int .i64)], [], 0⟩ : Go.Ax.Tm))]), (6, [(10, 0, (⟨[(3, .seq), (60, .seq), (61, .int .i64), (62, .int .i64)], [], 0⟩ : Go.Ax.Tm))])]
theorem F_law05_LexemeText_eq : (fun ds => (fnO tau (gl mx) (xd F_law05_LexemeText_T) rl (Ax.look E31) 100 6 [.str] (.bool) ds).run) = F_law05_LexemeText := by kernel_rfl
theorem F_law05_LexemeText_ok : FnOk P (gl mx) 6 ⟨[.str], (.bool), F_law05_LexemeText⟩ := F_law05_LexemeText_eq ▸ fnO_ok tau_ok mix (xd_ok _) rl_ok (E31_ok)
noncomputable def E32 : List (Nat × Ax.Fn) := (6, ⟨[.str], (.bool), F_law05_LexemeText⟩) :: E31
theorem E32_ok : EOk P (gl mx) (Ax.look E32) := eok_cons F_law05_LexemeText_ok E31_ok
def F_law05_LexemeQuotes_T : List (Nat × List (Nat × Nat × Ax.Tm)) := [(7, [(4, 0, (⟨[(1, .int .u8), (2, .int .u8), (7, .seq), (8, .str), (17, .seq), (18, .int .i64), (19, .int .i64)], [], 0⟩ : Go.Ax.Tm))])]
theorem F_law05_LexemeQuotes_eq : (fun ds => (fnO tau (gl mx) (xd F_law05_LexemeQuotes_T) rl (Ax.look E32) 100 7 [.seq, .int .u8, .int .u8] (.bool) ds).run) = F_law05_LexemeQuotes := by kernel_rfl
theorem F_law05_LexemeQuotes_ok : FnOk P (gl mx) 7 ⟨[.seq, .int .u8, .int .u8], (.bool), F_law05_LexemeQuotes⟩ := F_law05_LexemeQuotes_eq ▸ fnO_ok tau_ok mix (xd_ok _) rl_ok (E32_ok)
noncomputable def E33 : List (Nat × Ax.Fn) := (7, ⟨[.seq, .int .u8, .int .u8], (.bool), F_law05_LexemeQuotes⟩) :: E32
theorem E33_ok : EOk P (gl mx) (Ax.look E33) := eok_cons F_law05_LexemeQuotes_ok E32_ok
def F_slices_Clonestring_string__nil_T : List (Nat × List (Nat × Nat × Ax.Tm)) := []
theorem F_slices_Clonestring_string__nil_eq : (fun ds => (fnO tau (gl mx) (xd F_slices_Clonestring_string__nil_T) rl (Ax.look E33) 100 28 [.nil] (.seq) ds).run) = F_slices_Clonestring_string__nil := by kernel_rfl
theorem F_slices_Clonestring_string__nil_ok : FnOk P (gl mx) 28 ⟨[.nil], (.seq), F_slices_Clonestring_string__nil⟩ := F_slices_Clonestring_string__nil_eq ▸ fnO_ok tau_ok mix (xd_ok _) rl_ok (E33_ok)
noncomputable def E34 : List (Nat × Ax.Fn) := (28, ⟨[.nil], (.seq), F_slices_Clonestring_string__nil⟩) :: E33
theorem E34_ok : EOk P (gl mx) (Ax.look E34) := eok_cons F_slices_Clonestring_string__nil_ok E33_ok
def F_slices_Clonestring_string__empty_T : List (Nat × List (Nat × Nat × Ax.Tm)) := []
theorem F_slices_Clonestring_string__empty_eq : (fun ds => (fnO tau (gl mx) (xd F_slices_Clonestring_string__empty_T) rl (Ax.look E34) 100 28 [.empty] (.seq) ds).run) = F_slices_Clonestring_string__empty := by kernel_rfl
theorem F_slices_Clonestring_string__empty_ok : FnOk P (gl mx) 28 ⟨[.empty], (.seq), F_slices_Clonestring_string__empty⟩ := F_slices_Clonestring_string__empty_eq ▸ fnO_ok tau_ok mix (xd_ok _) rl_ok (E34_ok)
noncomputable def E35 : List (Nat × Ax.Fn) := (28, ⟨[.empty], (.seq), F_slices_Clonestring_string__empty⟩) :: E34
theorem E35_ok : EOk P (gl mx) (Ax.look E35) := eok_cons F_slices_Clonestring_string__empty_ok E34_ok
def F_slices_Clonestring_string__list_T : List (Nat × List (Nat × Nat × Ax.Tm)) := []
theorem F_slices_Clonestring_string__list_eq : (fun ds => (fnO tau (gl mx) (xd F_slices_Clonestring_string__list_T) rl (Ax.look E35) 100 28 [.list] (.seq) ds).run) = F_slices_Clonestring_string__list := by kernel_rfl
theorem F_slices_Clonestring_string__list_ok : FnOk P (gl mx) 28 ⟨[.list], (.seq), F_slices_Clonestring_string__list⟩ := F_slices_Clonestring_string__list_eq ▸ fnO_ok tau_ok mix (xd_ok _) rl_ok (E35_ok)
noncomputable def E36 : List (Nat × Ax.Fn) := (28, ⟨[.list], (.seq), F_slices_Clonestring_string__list⟩) :: E35
theorem E36_ok : EOk P (gl mx) (Ax.look E36) := eok_cons F_slices_Clonestring_string__list_ok E35_ok
theorem F_slices_Clonestring_string__ok : FnOk P (gl mx) 28 ⟨[.seq], (.seq), F_slices_Clonestring_string_⟩ := FnOk.seq3 (rest := []) F_slices_Clonestring_string__nil_ok F_slices_Clonestring_string__empty_ok F_slices_Clonestring_string__list_ok (fun ds => by rfl) (fun ds => by rfl)
noncomputable def E37 : List (Nat × Ax.Fn) := (28, ⟨[.seq], (.seq), F_slices_Clonestring_string_⟩) :: E36
theorem E37_ok : EOk P (gl mx) (Ax.look E37) := eok_cons F_slices_Clonestring_string__ok E36_ok
def F_law05_LexemeWrong_T : List (Nat × List (Nat × Nat × Ax.Tm)) := []
theorem F_law05_LexemeWrong_eq : (fun ds => (fnO tau (gl mx) (xd F_law05_LexemeWrong_T) rl (Ax.look E37) 100 8 [.seq, .int .u8, .int .u8] (.bool) ds).run) = F_law05_LexemeWrong := by kernel_rfl
theorem F_law05_LexemeWrong_ok : FnOk P (gl mx) 8 ⟨[.seq, .int .u8, .int .u8], (.bool), F_law05_LexemeWrong⟩ := F_law05_LexemeWrong_eq ▸ fnO_ok tau_ok mix (xd_ok _) rl_ok (E37_ok)
noncomputable def E38 : List (Nat × Ax.Fn) := (8, ⟨[.seq, .int .u8, .int .u8], (.bool), F_law05_LexemeWrong⟩) :: E37
theorem E38_ok : EOk P (gl mx) (Ax.look E38) := eok_cons F_law05_LexemeWrong_ok E37_ok
theorem shelf29 : FnOk P (gl mx) 29 ⟨[.str, .int .i64], .str, strRepeat⟩ := by
  have h := IsProg.eq (P := P)
  subst h
  exact strRepeat_ok Tryd.func29 (c := code29) (by kernel_rfl) (by kernel_rfl) (fun s n w h1 h2 => Tryd.strings_Repeat s n w h1 h2)
noncomputable def E39 : List (Nat × Ax.Fn) := (29, ⟨[.str, .int .i64], .str, strRepeat⟩) :: E38
theorem E39_ok : EOk P (gl mx) (Ax.look E39) := eok_cons shelf29 E38_ok
def F_law05_LexemeLong_T : List (Nat × List (Nat × Nat × Ax.Tm)) := []
theorem F_law05_LexemeLong_eq : (fun ds => (fnO tau (gl mx) (xd F_law05_LexemeLong_T) rl (Ax.look E39) 100 9 [.int .u8, .int .u8] (.bool) ds).run) = F_law05_LexemeLong := by kernel_rfl
theorem F_law05_LexemeLong_ok : FnOk P (gl mx) 9 ⟨[.int .u8, .int .u8], (.bool), F_law05_LexemeLong⟩ := F_law05_LexemeLong_eq ▸ fnO_ok tau_ok mix (xd_ok _) rl_ok (E39_ok)
noncomputable def E40 : List (Nat × Ax.Fn) := (9, ⟨[.int .u8, .int .u8], (.bool), F_law05_LexemeLong⟩) :: E39
theorem E40_ok : EOk P (gl mx) (Ax.look E40) := eok_cons F_law05_LexemeLong_ok E39_ok
def F_law05_LexemeHuge_T : List (Nat × List (Nat × Nat × Ax.Tm)) := []
theorem F_law05_LexemeHuge_eq : (fun ds => (fnO tau (gl mx) (xd F_law05_LexemeHuge_T) rl (Ax.look E40) 100 10 [] (.bool) ds).run) = F_law05_LexemeHuge := by kernel_rfl
theorem F_law05_LexemeHuge_ok : FnOk P (gl mx) 10 ⟨[], (.bool), F_law05_LexemeHuge⟩ := F_law05_LexemeHuge_eq ▸ fnO_ok tau_ok mix (xd_ok _) rl_ok (E40_ok)
noncomputable def E41 : List (Nat × Ax.Fn) := (10, ⟨[], (.bool), F_law05_LexemeHuge⟩) :: E40
theorem E41_ok : EOk P (gl mx) (Ax.look E41) := eok_cons F_law05_LexemeHuge_ok E40_ok
end Go.Proofs.YtgehedalhppehaaDoor
