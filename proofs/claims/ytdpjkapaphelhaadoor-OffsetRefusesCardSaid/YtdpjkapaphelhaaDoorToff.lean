/-
  The functions of plain data are what the program's code says.
-/
import Derived.Test.YtdpjkapaphelhaaDoorAxT
import Derived.Test.YtdpjkapaphelhaaDoorShelf
import Derived.Test.YtdpjkapaphelhaaDoorFoff
namespace Go.Proofs.YtdpjkapaphelhaaDoor
open Go.Ax
set_option linter.all false
set_option maxRecDepth 100000
set_option maxHeartbeats 4000000
variable {P : Program} [IsProg P]
variable {mx : Int}
def glList (mx : Int) : List (Nat × List AV) := [(7, [.int .u8 (.lit 0), .int .u8 (.lit 1), .int .u8 (.lit 28), .int .u8 (.lit 2), .int .u8 (.lit 29), .int .u8 (.lit 14), .int .u8 (.lit 24), .int .u8 (.lit 3), .int .u8 (.lit 30), .int .u8 (.lit 22), .int .u8 (.lit 20), .int .u8 (.lit 15), .int .u8 (.lit 25), .int .u8 (.lit 17), .int .u8 (.lit 4), .int .u8 (.lit 8), .int .u8 (.lit 31), .int .u8 (.lit 27), .int .u8 (.lit 13), .int .u8 (.lit 23), .int .u8 (.lit 21), .int .u8 (.lit 19), .int .u8 (.lit 16), .int .u8 (.lit 7), .int .u8 (.lit 26), .int .u8 (.lit 12), .int .u8 (.lit 18), .int .u8 (.lit 6), .int .u8 (.lit 11), .int .u8 (.lit 5), .int .u8 (.lit 10), .int .u8 (.lit 9)]), (8, [.int .u8 (.lit 0), .int .u8 (.lit 1), .int .u8 (.lit 56), .int .u8 (.lit 2), .int .u8 (.lit 57), .int .u8 (.lit 49), .int .u8 (.lit 28), .int .u8 (.lit 3), .int .u8 (.lit 61), .int .u8 (.lit 58), .int .u8 (.lit 42), .int .u8 (.lit 50), .int .u8 (.lit 38), .int .u8 (.lit 29), .int .u8 (.lit 17), .int .u8 (.lit 4), .int .u8 (.lit 62), .int .u8 (.lit 47), .int .u8 (.lit 59), .int .u8 (.lit 36), .int .u8 (.lit 45), .int .u8 (.lit 43), .int .u8 (.lit 51), .int .u8 (.lit 22), .int .u8 (.lit 53), .int .u8 (.lit 39), .int .u8 (.lit 33), .int .u8 (.lit 30), .int .u8 (.lit 24), .int .u8 (.lit 18), .int .u8 (.lit 12), .int .u8 (.lit 5), .int .u8 (.lit 63), .int .u8 (.lit 55), .int .u8 (.lit 48), .int .u8 (.lit 27), .int .u8 (.lit 60), .int .u8 (.lit 41), .int .u8 (.lit 37), .int .u8 (.lit 16), .int .u8 (.lit 46), .int .u8 (.lit 35), .int .u8 (.lit 44), .int .u8 (.lit 21), .int .u8 (.lit 52), .int .u8 (.lit 32), .int .u8 (.lit 23), .int .u8 (.lit 11), .int .u8 (.lit 54), .int .u8 (.lit 26), .int .u8 (.lit 40), .int .u8 (.lit 15), .int .u8 (.lit 34), .int .u8 (.lit 20), .int .u8 (.lit 31), .int .u8 (.lit 10), .int .u8 (.lit 25), .int .u8 (.lit 14), .int .u8 (.lit 19), .int .u8 (.lit 9), .int .u8 (.lit 13), .int .u8 (.lit 8), .int .u8 (.lit 7), .int .u8 (.lit 6)]), (6, [.int .u64 (.lit 1), .int .u64 (.lit 10), .int .u64 (.lit 100), .int .u64 (.lit 1000), .int .u64 (.lit 10000), .int .u64 (.lit 100000), .int .u64 (.lit 1000000), .int .u64 (.lit 10000000), .int .u64 (.lit 100000000), .int .u64 (.lit 1000000000), .int .u64 (.lit 10000000000), .int .u64 (.lit 100000000000), .int .u64 (.lit 1000000000000), .int .u64 (.lit 10000000000000), .int .u64 (.lit 100000000000000), .int .u64 (.lit 1000000000000000), .int .u64 (.lit 10000000000000000), .int .u64 (.lit 100000000000000000), .int .u64 (.lit 1000000000000000000), .int .u64 (.lit 10000000000000000000)]), (0, [.int .i64 (.lit 3600), .int .i64 (.lit 60), .int .i64 (.lit 1)]), (5, [.int .i64 (.sym mx)])]
def gl (mx : Int) : Nat → Option (List AV) := Ax.look (glList mx)
noncomputable def E0 : List (Nat × Ax.Fn) := []
omit [IsProg P] in theorem E0_ok : EOk P (gl mx) (Ax.look E0) := eok_nil
def F_internal_stringslite_HasPrefix_T : List (Nat × List (Nat × Nat × Ax.Tm)) := []
theorem F_internal_stringslite_HasPrefix_eq : (fun ds => (fnO tau (gl mx) (xd F_internal_stringslite_HasPrefix_T) (Ax.look E0) 100 71 [.str, .str] (.bool) ds).run) = F_internal_stringslite_HasPrefix := by kernel_rfl
theorem F_internal_stringslite_HasPrefix_ok : FnOk P (gl mx) 71 ⟨[.str, .str], (.bool), F_internal_stringslite_HasPrefix⟩ := F_internal_stringslite_HasPrefix_eq ▸ fnO_ok tau_ok mix (xd_ok _) (E0_ok)
noncomputable def E1 : List (Nat × Ax.Fn) := (71, ⟨[.str, .str], (.bool), F_internal_stringslite_HasPrefix⟩) :: E0
theorem E1_ok : EOk P (gl mx) (Ax.look E1) := eok_cons F_internal_stringslite_HasPrefix_ok E0_ok
def F_internal_stringslite_CutPrefix_T : List (Nat × List (Nat × Nat × Ax.Tm)) := []
theorem F_internal_stringslite_CutPrefix_eq : (fun ds => (fnO tau (gl mx) (xd F_internal_stringslite_CutPrefix_T) (Ax.look E1) 100 59 [.str, .str] (.tuple [.str, .bool]) ds).run) = F_internal_stringslite_CutPrefix := by kernel_rfl
theorem F_internal_stringslite_CutPrefix_ok : FnOk P (gl mx) 59 ⟨[.str, .str], (.tuple [.str, .bool]), F_internal_stringslite_CutPrefix⟩ := F_internal_stringslite_CutPrefix_eq ▸ fnO_ok tau_ok mix (xd_ok _) (E1_ok)
noncomputable def E2 : List (Nat × Ax.Fn) := (59, ⟨[.str, .str], (.tuple [.str, .bool]), F_internal_stringslite_CutPrefix⟩) :: E1
theorem E2_ok : EOk P (gl mx) (Ax.look E2) := eok_cons F_internal_stringslite_CutPrefix_ok E1_ok
def F_strings_CutPrefix_T : List (Nat × List (Nat × Nat × Ax.Tm)) := []
theorem F_strings_CutPrefix_eq : (fun ds => (fnO tau (gl mx) (xd F_strings_CutPrefix_T) (Ax.look E2) 100 41 [.str, .str] (.tuple [.str, .bool]) ds).run) = F_strings_CutPrefix := by kernel_rfl
theorem F_strings_CutPrefix_ok : FnOk P (gl mx) 41 ⟨[.str, .str], (.tuple [.str, .bool]), F_strings_CutPrefix⟩ := F_strings_CutPrefix_eq ▸ fnO_ok tau_ok mix (xd_ok _) (E2_ok)
noncomputable def E3 : List (Nat × Ax.Fn) := (41, ⟨[.str, .str], (.tuple [.str, .bool]), F_strings_CutPrefix⟩) :: E2
theorem E3_ok : EOk P (gl mx) (Ax.look E3) := eok_cons F_strings_CutPrefix_ok E2_ok
def F_offset_split_T : List (Nat × List (Nat × Nat × Ax.Tm)) := [(60, [(2, 3, (⟨[(0, .ptr 2 0), (1, .ptr 0 0), (3, .int .i64)], [(2, .each [.int .i64]), (0, .each [.str]), (1, .whole)], 3⟩ : Go.Ax.Tm))]), (42, [(7, 3, (⟨[(1, .ptr 0 0), (2, .ptr 1 0), (4, .ptr 2 0), (5, .func 60 [] [.ptr 2 0, .ptr 0 0]), (6, .int .i64)], [(0, .each [.str]), (1, .whole), (2, .each [.int .i64])], 3⟩ : Go.Ax.Tm))])]
theorem F_offset_split_eq : (fun ds => (fnO tau (gl mx) (xd F_offset_split_T) (Ax.look E3) 100 42 [.str] (.tuple [.agg [.int .i64, .int .i64, .int .i64], .bool]) ds).run) = F_offset_split := by kernel_rfl
theorem F_offset_split_ok : FnOk P (gl mx) 42 ⟨[.str], (.tuple [.agg [.int .i64, .int .i64, .int .i64], .bool]), F_offset_split⟩ := F_offset_split_eq ▸ fnO_ok tau_ok mix (xd_ok _) (E3_ok)
noncomputable def E4 : List (Nat × Ax.Fn) := (42, ⟨[.str], (.tuple [.agg [.int .i64, .int .i64, .int .i64], .bool]), F_offset_split⟩) :: E3
theorem E4_ok : EOk P (gl mx) (Ax.look E4) := eok_cons F_offset_split_ok E3_ok
def F_offset_Parse_T : List (Nat × List (Nat × Nat × Ax.Tm)) := []
theorem F_offset_Parse_eq : (fun ds => (fnO tau (gl mx) (xd F_offset_Parse_T) (Ax.look E4) 100 18 [.str] (.tuple [.int .i64, .int .i64]) ds).run) = F_offset_Parse := by kernel_rfl
theorem F_offset_Parse_ok : FnOk P (gl mx) 18 ⟨[.str], (.tuple [.int .i64, .int .i64]), F_offset_Parse⟩ := F_offset_Parse_eq ▸ fnO_ok tau_ok mix (xd_ok _) (E4_ok)
noncomputable def E5 : List (Nat × Ax.Fn) := (18, ⟨[.str], (.tuple [.int .i64, .int .i64]), F_offset_Parse⟩) :: E4
theorem E5_ok : EOk P (gl mx) (Ax.look E5) := eok_cons F_offset_Parse_ok E4_ok
theorem shelf44 : FnOk P (gl mx) 44 ⟨[.int .i64, .ilit .i64 10], .str, formatInt⟩ := by
  have h := IsProg.eq (P := P)
  subst h
  exact formatInt_ok Tryd.func44 (c := code44) (by kernel_rfl) (by kernel_rfl) (fun n h0 h1 w h => Tryd.strconv_FormatInt_10 n h0 h1 w h) (g := 6) (by kernel_rfl) (by kernel_rfl)
noncomputable def E6 : List (Nat × Ax.Fn) := (44, ⟨[.int .i64, .ilit .i64 10], .str, formatInt⟩) :: E5
theorem E6_ok : EOk P (gl mx) (Ax.look E6) := eok_cons shelf44 E5_ok
def F_offset_two_T : List (Nat × List (Nat × Nat × Ax.Tm)) := []
theorem F_offset_two_eq : (fun ds => (fnO tau (gl mx) (xd F_offset_two_T) (Ax.look E6) 100 45 [.int .i64] (.str) ds).run) = F_offset_two := by kernel_rfl
theorem F_offset_two_ok : FnOk P (gl mx) 45 ⟨[.int .i64], (.str), F_offset_two⟩ := F_offset_two_eq ▸ fnO_ok tau_ok mix (xd_ok _) (E6_ok)
noncomputable def E7 : List (Nat × Ax.Fn) := (45, ⟨[.int .i64], (.str), F_offset_two⟩) :: E6
theorem E7_ok : EOk P (gl mx) (Ax.look E7) := eok_cons F_offset_two_ok E6_ok
def F_offset_Print_T : List (Nat × List (Nat × Nat × Ax.Tm)) := []
theorem F_offset_Print_eq : (fun ds => (fnO tau (gl mx) (xd F_offset_Print_T) (Ax.look E7) 100 20 [.int .i64] (.tuple [.str, .int .i64]) ds).run) = F_offset_Print := by kernel_rfl
theorem F_offset_Print_ok : FnOk P (gl mx) 20 ⟨[.int .i64], (.tuple [.str, .int .i64]), F_offset_Print⟩ := F_offset_Print_eq ▸ fnO_ok tau_ok mix (xd_ok _) (E7_ok)
noncomputable def E8 : List (Nat × Ax.Fn) := (20, ⟨[.int .i64], (.tuple [.str, .int .i64]), F_offset_Print⟩) :: E7
theorem E8_ok : EOk P (gl mx) (Ax.look E8) := eok_cons F_offset_Print_ok E7_ok
def F_law04_works_T : List (Nat × List (Nat × Nat × Ax.Tm)) := []
theorem F_law04_works_eq : (fun ds => (fnO tau (gl mx) (xd F_law04_works_T) (Ax.look E8) 100 17 [] (.bool) ds).run) = F_law04_works := by kernel_rfl
theorem F_law04_works_ok : FnOk P (gl mx) 17 ⟨[], (.bool), F_law04_works⟩ := F_law04_works_eq ▸ fnO_ok tau_ok mix (xd_ok _) (E8_ok)
noncomputable def E9 : List (Nat × Ax.Fn) := (17, ⟨[], (.bool), F_law04_works⟩) :: E8
theorem E9_ok : EOk P (gl mx) (Ax.look E9) := eok_cons F_law04_works_ok E8_ok
def F_ref04_digit_T : List (Nat × List (Nat × Nat × Ax.Tm)) := []
theorem F_ref04_digit_eq : (fun ds => (fnO tau (gl mx) (xd F_ref04_digit_T) (Ax.look E9) 100 61 [.int .u8] (.int .i64) ds).run) = F_ref04_digit := by kernel_rfl
theorem F_ref04_digit_ok : FnOk P (gl mx) 61 ⟨[.int .u8], (.int .i64), F_ref04_digit⟩ := F_ref04_digit_eq ▸ fnO_ok tau_ok mix (xd_ok _) (E9_ok)
noncomputable def E10 : List (Nat × Ax.Fn) := (61, ⟨[.int .u8], (.int .i64), F_ref04_digit⟩) :: E9
theorem E10_ok : EOk P (gl mx) (Ax.look E10) := eok_cons F_ref04_digit_ok E9_ok
def F_ref04_pair_T : List (Nat × List (Nat × Nat × Ax.Tm)) := []
theorem F_ref04_pair_eq : (fun ds => (fnO tau (gl mx) (xd F_ref04_pair_T) (Ax.look E10) 100 62 [.str, .int .i64] (.int .i64) ds).run) = F_ref04_pair := by kernel_rfl
theorem F_ref04_pair_ok : FnOk P (gl mx) 62 ⟨[.str, .int .i64], (.int .i64), F_ref04_pair⟩ := F_ref04_pair_eq ▸ fnO_ok tau_ok mix (xd_ok _) (E10_ok)
noncomputable def E11 : List (Nat × Ax.Fn) := (62, ⟨[.str, .int .i64], (.int .i64), F_ref04_pair⟩) :: E10
theorem E11_ok : EOk P (gl mx) (Ax.look E11) := eok_cons F_ref04_pair_ok E10_ok
def F_ref04_form_T : List (Nat × List (Nat × Nat × Ax.Tm)) := [(43, [(3, 0, (⟨[(0, .str), (4, .int .i64), (5, .int .i64)], [], 0⟩ : Go.Ax.Tm))])]
theorem F_ref04_form_eq : (fun ds => (fnO tau (gl mx) (xd F_ref04_form_T) (Ax.look E11) 100 43 [.str] (.tuple [.int .i64, .bool]) ds).run) = F_ref04_form := by kernel_rfl
theorem F_ref04_form_ok : FnOk P (gl mx) 43 ⟨[.str], (.tuple [.int .i64, .bool]), F_ref04_form⟩ := F_ref04_form_eq ▸ fnO_ok tau_ok mix (xd_ok _) (E11_ok)
noncomputable def E12 : List (Nat × Ax.Fn) := (43, ⟨[.str], (.tuple [.int .i64, .bool]), F_ref04_form⟩) :: E11
theorem E12_ok : EOk P (gl mx) (Ax.look E12) := eok_cons F_ref04_form_ok E11_ok
def F_ref04_Parse_T : List (Nat × List (Nat × Nat × Ax.Tm)) := []
theorem F_ref04_Parse_eq : (fun ds => (fnO tau (gl mx) (xd F_ref04_Parse_T) (Ax.look E12) 100 19 [.str] (.tuple [.int .i64, .int .i64]) ds).run) = F_ref04_Parse := by kernel_rfl
theorem F_ref04_Parse_ok : FnOk P (gl mx) 19 ⟨[.str], (.tuple [.int .i64, .int .i64]), F_ref04_Parse⟩ := F_ref04_Parse_eq ▸ fnO_ok tau_ok mix (xd_ok _) (E12_ok)
noncomputable def E13 : List (Nat × Ax.Fn) := (19, ⟨[.str], (.tuple [.int .i64, .int .i64]), F_ref04_Parse⟩) :: E12
theorem E13_ok : EOk P (gl mx) (Ax.look E13) := eok_cons F_ref04_Parse_ok E12_ok
def F_law04_OffsetParses_T : List (Nat × List (Nat × Nat × Ax.Tm)) := []
theorem F_law04_OffsetParses_eq : (fun ds => (fnO tau (gl mx) (xd F_law04_OffsetParses_T) (Ax.look E13) 100 3 [.str] (.bool) ds).run) = F_law04_OffsetParses := by kernel_rfl
theorem F_law04_OffsetParses_ok : FnOk P (gl mx) 3 ⟨[.str], (.bool), F_law04_OffsetParses⟩ := F_law04_OffsetParses_eq ▸ fnO_ok tau_ok mix (xd_ok _) (E13_ok)
noncomputable def E14 : List (Nat × Ax.Fn) := (3, ⟨[.str], (.bool), F_law04_OffsetParses⟩) :: E13
theorem E14_ok : EOk P (gl mx) (Ax.look E14) := eok_cons F_law04_OffsetParses_ok E13_ok
def F_ref04_Decimal_T : List (Nat × List (Nat × Nat × Ax.Tm)) := []
theorem F_ref04_Decimal_eq (self : List Dat → Option (List Dat)) : (fun ds => (fnO tau (gl mx) (xd F_ref04_Decimal_T) (Ax.look ((46, ⟨[.int .i64], (.str), self⟩) :: E14)) 100 46 [.int .i64] (.str) ds).run) = F_ref04_Decimal_body self := by kernel_rfl
theorem F_ref04_Decimal_step (self : List Dat → Option (List Dat)) (h : FnOk P (gl mx) 46 ⟨[.int .i64], (.str), self⟩) : FnOk P (gl mx) 46 ⟨[.int .i64], (.str), F_ref04_Decimal_body self⟩ := F_ref04_Decimal_eq self ▸ fnO_ok tau_ok mix (xd_ok _) (eok_cons h E14_ok)
theorem F_ref04_Decimal_ok : FnOk P (gl mx) 46 ⟨[.int .i64], (.str), F_ref04_Decimal⟩ := fixN_ok F_ref04_Decimal_step _
noncomputable def E15 : List (Nat × Ax.Fn) := (46, ⟨[.int .i64], (.str), F_ref04_Decimal⟩) :: E14
theorem E15_ok : EOk P (gl mx) (Ax.look E15) := eok_cons F_ref04_Decimal_ok E14_ok
def F_ref04_Two_T : List (Nat × List (Nat × Nat × Ax.Tm)) := []
theorem F_ref04_Two_eq : (fun ds => (fnO tau (gl mx) (xd F_ref04_Two_T) (Ax.look E15) 100 47 [.int .i64] (.str) ds).run) = F_ref04_Two := by kernel_rfl
theorem F_ref04_Two_ok : FnOk P (gl mx) 47 ⟨[.int .i64], (.str), F_ref04_Two⟩ := F_ref04_Two_eq ▸ fnO_ok tau_ok mix (xd_ok _) (E15_ok)
noncomputable def E16 : List (Nat × Ax.Fn) := (47, ⟨[.int .i64], (.str), F_ref04_Two⟩) :: E15
theorem E16_ok : EOk P (gl mx) (Ax.look E16) := eok_cons F_ref04_Two_ok E15_ok
def F_ref04_Print_T : List (Nat × List (Nat × Nat × Ax.Tm)) := []
theorem F_ref04_Print_eq (self : List Dat → Option (List Dat)) : (fun ds => (fnO tau (gl mx) (xd F_ref04_Print_T) (Ax.look ((21, ⟨[.int .i64], (.tuple [.str, .int .i64]), self⟩) :: E16)) 100 21 [.int .i64] (.tuple [.str, .int .i64]) ds).run) = F_ref04_Print_body self := by kernel_rfl
theorem F_ref04_Print_step (self : List Dat → Option (List Dat)) (h : FnOk P (gl mx) 21 ⟨[.int .i64], (.tuple [.str, .int .i64]), self⟩) : FnOk P (gl mx) 21 ⟨[.int .i64], (.tuple [.str, .int .i64]), F_ref04_Print_body self⟩ := F_ref04_Print_eq self ▸ fnO_ok tau_ok mix (xd_ok _) (eok_cons h E16_ok)
theorem F_ref04_Print_ok : FnOk P (gl mx) 21 ⟨[.int .i64], (.tuple [.str, .int .i64]), F_ref04_Print⟩ := fixN_ok F_ref04_Print_step _
noncomputable def E17 : List (Nat × Ax.Fn) := (21, ⟨[.int .i64], (.tuple [.str, .int .i64]), F_ref04_Print⟩) :: E16
theorem E17_ok : EOk P (gl mx) (Ax.look E17) := eok_cons F_ref04_Print_ok E16_ok
def F_law04_OffsetPrints_T : List (Nat × List (Nat × Nat × Ax.Tm)) := []
theorem F_law04_OffsetPrints_eq : (fun ds => (fnO tau (gl mx) (xd F_law04_OffsetPrints_T) (Ax.look E17) 100 4 [.int .i64] (.bool) ds).run) = F_law04_OffsetPrints := by kernel_rfl
theorem F_law04_OffsetPrints_ok : FnOk P (gl mx) 4 ⟨[.int .i64], (.bool), F_law04_OffsetPrints⟩ := F_law04_OffsetPrints_eq ▸ fnO_ok tau_ok mix (xd_ok _) (E17_ok)
noncomputable def E18 : List (Nat × Ax.Fn) := (4, ⟨[.int .i64], (.bool), F_law04_OffsetPrints⟩) :: E17
theorem E18_ok : EOk P (gl mx) (Ax.look E18) := eok_cons F_law04_OffsetPrints_ok E17_ok
def F_law04_OffsetBack_T : List (Nat × List (Nat × Nat × Ax.Tm)) := []
theorem F_law04_OffsetBack_eq : (fun ds => (fnO tau (gl mx) (xd F_law04_OffsetBack_T) (Ax.look E18) 100 5 [.int .u32] (.bool) ds).run) = F_law04_OffsetBack := by kernel_rfl
theorem F_law04_OffsetBack_ok : FnOk P (gl mx) 5 ⟨[.int .u32], (.bool), F_law04_OffsetBack⟩ := F_law04_OffsetBack_eq ▸ fnO_ok tau_ok mix (xd_ok _) (E18_ok)
noncomputable def E19 : List (Nat × Ax.Fn) := (5, ⟨[.int .u32], (.bool), F_law04_OffsetBack⟩) :: E18
theorem E19_ok : EOk P (gl mx) (Ax.look E19) := eok_cons F_law04_OffsetBack_ok E18_ok
theorem shelf49 : FnOk P (gl mx) 49 ⟨[.str, .str], (.int .i64), strIndex⟩ := by
  have h := IsProg.eq (P := P)
  subst h
  exact strIndex_ok Tryd.func49 (c := code49) (by kernel_rfl) (by kernel_rfl) (m := mx) (g := 5) (by kernel_rfl) (fun s t w hs hm => Tryd.stringslite_Index s t mx w hs hm)
noncomputable def E20 : List (Nat × Ax.Fn) := (49, ⟨[.str, .str], (.int .i64), strIndex⟩) :: E19
theorem E20_ok : EOk P (gl mx) (Ax.look E20) := eok_cons shelf49 E19_ok
def F_internal_stringslite_Cut_T : List (Nat × List (Nat × Nat × Ax.Tm)) := []
theorem F_internal_stringslite_Cut_eq : (fun ds => (fnO tau (gl mx) (xd F_internal_stringslite_Cut_T) (Ax.look E20) 100 48 [.str, .str] (.tuple [.str, .str, .bool]) ds).run) = F_internal_stringslite_Cut := by kernel_rfl
theorem F_internal_stringslite_Cut_ok : FnOk P (gl mx) 48 ⟨[.str, .str], (.tuple [.str, .str, .bool]), F_internal_stringslite_Cut⟩ := F_internal_stringslite_Cut_eq ▸ fnO_ok tau_ok mix (xd_ok _) (E20_ok)
noncomputable def E21 : List (Nat × Ax.Fn) := (48, ⟨[.str, .str], (.tuple [.str, .str, .bool]), F_internal_stringslite_Cut⟩) :: E20
theorem E21_ok : EOk P (gl mx) (Ax.look E21) := eok_cons F_internal_stringslite_Cut_ok E20_ok
def F_strings_Cut_T : List (Nat × List (Nat × Nat × Ax.Tm)) := []
theorem F_strings_Cut_eq : (fun ds => (fnO tau (gl mx) (xd F_strings_Cut_T) (Ax.look E21) 100 23 [.str, .str] (.tuple [.str, .str, .bool]) ds).run) = F_strings_Cut := by kernel_rfl
theorem F_strings_Cut_ok : FnOk P (gl mx) 23 ⟨[.str, .str], (.tuple [.str, .str, .bool]), F_strings_Cut⟩ := F_strings_Cut_eq ▸ fnO_ok tau_ok mix (xd_ok _) (E21_ok)
noncomputable def E22 : List (Nat × Ax.Fn) := (23, ⟨[.str, .str], (.tuple [.str, .str, .bool]), F_strings_Cut⟩) :: E21
theorem E22_ok : EOk P (gl mx) (Ax.look E22) := eok_cons F_strings_Cut_ok E21_ok
def F_law04_OffsetFields_T : List (Nat × List (Nat × Nat × Ax.Tm)) := []
theorem F_law04_OffsetFields_eq : (fun ds => (fnO tau (gl mx) (xd F_law04_OffsetFields_T) (Ax.look E22) 100 6 [.int .u8, .int .u8, .int .u8, .bool] (.bool) ds).run) = F_law04_OffsetFields := by kernel_rfl
theorem F_law04_OffsetFields_ok : FnOk P (gl mx) 6 ⟨[.int .u8, .int .u8, .int .u8, .bool], (.bool), F_law04_OffsetFields⟩ := F_law04_OffsetFields_eq ▸ fnO_ok tau_ok mix (xd_ok _) (E22_ok)
noncomputable def E23 : List (Nat × Ax.Fn) := (6, ⟨[.int .u8, .int .u8, .int .u8, .bool], (.bool), F_law04_OffsetFields⟩) :: E22
theorem E23_ok : EOk P (gl mx) (Ax.look E23) := eok_cons F_law04_OffsetFields_ok E22_ok
theorem shelf24 : FnOk P (gl mx) 24 ⟨[.str, .str], (.int .i64), strIndex⟩ := by
  have h := IsProg.eq (P := P)
  subst h
  exact strIndex_ok Tryd.func24 (c := code24) (by kernel_rfl) (by kernel_rfl) (m := mx) (g := 5) (by kernel_rfl) (fun s t w hs hm => Tryd.strings_Index s t mx w hs hm)
noncomputable def E24 : List (Nat × Ax.Fn) := (24, ⟨[.str, .str], (.int .i64), strIndex⟩) :: E23
theorem E24_ok : EOk P (gl mx) (Ax.look E24) := eok_cons shelf24 E23_ok
def F_law04_OffsetOrder_T : List (Nat × List (Nat × Nat × Ax.Tm)) := []
theorem F_law04_OffsetOrder_eq : (fun ds => (fnO tau (gl mx) (xd F_law04_OffsetOrder_T) (Ax.look E24) 100 7 [.int .u32, .int .u32] (.bool) ds).run) = F_law04_OffsetOrder := by kernel_rfl
theorem F_law04_OffsetOrder_ok : FnOk P (gl mx) 7 ⟨[.int .u32, .int .u32], (.bool), F_law04_OffsetOrder⟩ := F_law04_OffsetOrder_eq ▸ fnO_ok tau_ok mix (xd_ok _) (E24_ok)
noncomputable def E25 : List (Nat × Ax.Fn) := (7, ⟨[.int .u32, .int .u32], (.bool), F_law04_OffsetOrder⟩) :: E24
theorem E25_ok : EOk P (gl mx) (Ax.look E25) := eok_cons F_law04_OffsetOrder_ok E24_ok
def F_law04_OffsetSpoilt_T : List (Nat × List (Nat × Nat × Ax.Tm)) := []
theorem F_law04_OffsetSpoilt_eq : (fun ds => (fnO tau (gl mx) (xd F_law04_OffsetSpoilt_T) (Ax.look E25) 100 8 [.int .u32, .int .u8, .int .u8, .int .u8] (.bool) ds).run) = F_law04_OffsetSpoilt := by kernel_rfl
theorem F_law04_OffsetSpoilt_ok : FnOk P (gl mx) 8 ⟨[.int .u32, .int .u8, .int .u8, .int .u8], (.bool), F_law04_OffsetSpoilt⟩ := F_law04_OffsetSpoilt_eq ▸ fnO_ok tau_ok mix (xd_ok _) (E25_ok)
noncomputable def E26 : List (Nat × Ax.Fn) := (8, ⟨[.int .u32, .int .u8, .int .u8, .int .u8], (.bool), F_law04_OffsetSpoilt⟩) :: E25
theorem E26_ok : EOk P (gl mx) (Ax.look E26) := eok_cons F_law04_OffsetSpoilt_ok E25_ok
def F_law04_OffsetRefuses_T : List (Nat × List (Nat × Nat × Ax.Tm)) := []
theorem F_law04_OffsetRefuses_eq : (fun ds => (fnO tau (gl mx) (xd F_law04_OffsetRefuses_T) (Ax.look E26) 100 9 [.int .u32, .int .u32, .int .u8] (.bool) ds).run) = F_law04_OffsetRefuses := by kernel_rfl
theorem F_law04_OffsetRefuses_ok : FnOk P (gl mx) 9 ⟨[.int .u32, .int .u32, .int .u8], (.bool), F_law04_OffsetRefuses⟩ := F_law04_OffsetRefuses_eq ▸ fnO_ok tau_ok mix (xd_ok _) (E26_ok)
noncomputable def E27 : List (Nat × Ax.Fn) := (9, ⟨[.int .u32, .int .u32, .int .u8], (.bool), F_law04_OffsetRefuses⟩) :: E26
theorem E27_ok : EOk P (gl mx) (Ax.look E27) := eok_cons F_law04_OffsetRefuses_ok E26_ok
end Go.Proofs.YtdpjkapaphelhaaDoor
