/-
  The functions of plain data are what the program's code says.
-/
import Derived.Test.YtkjlobjnboljbaaAxT
import Derived.Test.YtkjlobjnboljbaaShelf
import Derived.Test.YtkjlobjnboljbaaFchk
import Derived.Test.YtkjlobjnboljbaaHCheckedSum
namespace Go.Proofs.Ytkjlobjnboljbaa
open Go.Ax
set_option linter.all false
set_option maxRecDepth 100000
set_option maxHeartbeats 4000000
variable {P : Program} [IsProg P]
variable {mx : Int}
def glList (mx : Int) : List (Nat × List AV) := []
def gl (mx : Int) : Nat → Option (List AV) := Ax.look (glList mx)
noncomputable def E0 : List (Nat × Ax.Fn) := []
omit [IsProg P] in theorem E0_ok : EOk P (gl mx) (Ax.look E0) := eok_nil
def F_checked_Add_T : List (Nat × List (Nat × Nat × Ax.Tm)) := []
theorem F_checked_Add_eq : (fun ds => (fnO tau (gl mx) (xd F_checked_Add_T) (Ax.look E0) 100 15 [.int .i64, .int .i64] (.tuple [.int .i64, .bool]) ds).run) = F_checked_Add := by kernel_rfl
theorem F_checked_Add_ok : FnOk P (gl mx) 15 ⟨[.int .i64, .int .i64], (.tuple [.int .i64, .bool]), F_checked_Add⟩ := F_checked_Add_eq ▸ fnO_ok tau_ok mix (xd_ok _) (E0_ok)
noncomputable def E1 : List (Nat × Ax.Fn) := (15, ⟨[.int .i64, .int .i64], (.tuple [.int .i64, .bool]), F_checked_Add⟩) :: E0
theorem E1_ok : EOk P (gl mx) (Ax.look E1) := eok_cons F_checked_Add_ok E0_ok
def F_ref03_Add_T : List (Nat × List (Nat × Nat × Ax.Tm)) := []
theorem F_ref03_Add_eq : (fun ds => (fnO tau (gl mx) (xd F_ref03_Add_T) (Ax.look E1) 100 16 [.int .i64, .int .i64] (.tuple [.int .i64, .bool]) ds).run) = F_ref03_Add := by kernel_rfl
theorem F_ref03_Add_ok : FnOk P (gl mx) 16 ⟨[.int .i64, .int .i64], (.tuple [.int .i64, .bool]), F_ref03_Add⟩ := F_ref03_Add_eq ▸ fnO_ok tau_ok mix (xd_ok _) (E1_ok)
noncomputable def E2 : List (Nat × Ax.Fn) := (16, ⟨[.int .i64, .int .i64], (.tuple [.int .i64, .bool]), F_ref03_Add⟩) :: E1
theorem E2_ok : EOk P (gl mx) (Ax.look E2) := eok_cons F_ref03_Add_ok E1_ok
def F_checked_Sub_T : List (Nat × List (Nat × Nat × Ax.Tm)) := []
theorem F_checked_Sub_eq : (fun ds => (fnO tau (gl mx) (xd F_checked_Sub_T) (Ax.look E2) 100 17 [.int .i64, .int .i64] (.tuple [.int .i64, .bool]) ds).run) = F_checked_Sub := by kernel_rfl
theorem F_checked_Sub_ok : FnOk P (gl mx) 17 ⟨[.int .i64, .int .i64], (.tuple [.int .i64, .bool]), F_checked_Sub⟩ := F_checked_Sub_eq ▸ fnO_ok tau_ok mix (xd_ok _) (E2_ok)
noncomputable def E3 : List (Nat × Ax.Fn) := (17, ⟨[.int .i64, .int .i64], (.tuple [.int .i64, .bool]), F_checked_Sub⟩) :: E2
theorem E3_ok : EOk P (gl mx) (Ax.look E3) := eok_cons F_checked_Sub_ok E2_ok
def F_ref03_Sub_T : List (Nat × List (Nat × Nat × Ax.Tm)) := []
theorem F_ref03_Sub_eq : (fun ds => (fnO tau (gl mx) (xd F_ref03_Sub_T) (Ax.look E3) 100 18 [.int .i64, .int .i64] (.tuple [.int .i64, .bool]) ds).run) = F_ref03_Sub := by kernel_rfl
theorem F_ref03_Sub_ok : FnOk P (gl mx) 18 ⟨[.int .i64, .int .i64], (.tuple [.int .i64, .bool]), F_ref03_Sub⟩ := F_ref03_Sub_eq ▸ fnO_ok tau_ok mix (xd_ok _) (E3_ok)
noncomputable def E4 : List (Nat × Ax.Fn) := (18, ⟨[.int .i64, .int .i64], (.tuple [.int .i64, .bool]), F_ref03_Sub⟩) :: E3
theorem E4_ok : EOk P (gl mx) (Ax.look E4) := eok_cons F_ref03_Sub_ok E3_ok
def F_checked_Mul_T : List (Nat × List (Nat × Nat × Ax.Tm)) := []
theorem F_checked_Mul_eq : (fun ds => (fnO tau (gl mx) (xd F_checked_Mul_T) (Ax.look E4) 100 19 [.int .i64, .int .i64] (.tuple [.int .i64, .bool]) ds).run) = F_checked_Mul := by kernel_rfl
theorem F_checked_Mul_ok : FnOk P (gl mx) 19 ⟨[.int .i64, .int .i64], (.tuple [.int .i64, .bool]), F_checked_Mul⟩ := F_checked_Mul_eq ▸ fnO_ok tau_ok mix (xd_ok _) (E4_ok)
noncomputable def E5 : List (Nat × Ax.Fn) := (19, ⟨[.int .i64, .int .i64], (.tuple [.int .i64, .bool]), F_checked_Mul⟩) :: E4
theorem E5_ok : EOk P (gl mx) (Ax.look E5) := eok_cons F_checked_Mul_ok E4_ok
def F_ref03_size_T : List (Nat × List (Nat × Nat × Ax.Tm)) := []
theorem F_ref03_size_eq : (fun ds => (fnO tau (gl mx) (xd F_ref03_size_T) (Ax.look E5) 100 45 [.int .i64] (.int .u64) ds).run) = F_ref03_size := by kernel_rfl
theorem F_ref03_size_ok : FnOk P (gl mx) 45 ⟨[.int .i64], (.int .u64), F_ref03_size⟩ := F_ref03_size_eq ▸ fnO_ok tau_ok mix (xd_ok _) (E5_ok)
noncomputable def E6 : List (Nat × Ax.Fn) := (45, ⟨[.int .i64], (.int .u64), F_ref03_size⟩) :: E5
theorem E6_ok : EOk P (gl mx) (Ax.look E6) := eok_cons F_ref03_size_ok E5_ok
def F_math_bits_Mul64_T : List (Nat × List (Nat × Nat × Ax.Tm)) := []
theorem F_math_bits_Mul64_eq : (fun ds => (fnO tau (gl mx) (xd F_math_bits_Mul64_T) (Ax.look E6) 100 44 [.int .u64, .int .u64] (.tuple [.int .u64, .int .u64]) ds).run) = F_math_bits_Mul64 := by kernel_rfl
theorem F_math_bits_Mul64_ok : FnOk P (gl mx) 44 ⟨[.int .u64, .int .u64], (.tuple [.int .u64, .int .u64]), F_math_bits_Mul64⟩ := F_math_bits_Mul64_eq ▸ fnO_ok tau_ok mix (xd_ok _) (E6_ok)
noncomputable def E7 : List (Nat × Ax.Fn) := (44, ⟨[.int .u64, .int .u64], (.tuple [.int .u64, .int .u64]), F_math_bits_Mul64⟩) :: E6
theorem E7_ok : EOk P (gl mx) (Ax.look E7) := eok_cons F_math_bits_Mul64_ok E6_ok
def F_ref03_Mul_T : List (Nat × List (Nat × Nat × Ax.Tm)) := []
theorem F_ref03_Mul_eq : (fun ds => (fnO tau (gl mx) (xd F_ref03_Mul_T) (Ax.look E7) 100 20 [.int .i64, .int .i64] (.tuple [.int .i64, .bool]) ds).run) = F_ref03_Mul := by kernel_rfl
theorem F_ref03_Mul_ok : FnOk P (gl mx) 20 ⟨[.int .i64, .int .i64], (.tuple [.int .i64, .bool]), F_ref03_Mul⟩ := F_ref03_Mul_eq ▸ fnO_ok tau_ok mix (xd_ok _) (E7_ok)
noncomputable def E8 : List (Nat × Ax.Fn) := (20, ⟨[.int .i64, .int .i64], (.tuple [.int .i64, .bool]), F_ref03_Mul⟩) :: E7
theorem E8_ok : EOk P (gl mx) (Ax.look E8) := eok_cons F_ref03_Mul_ok E7_ok
def F_checked_Div_T : List (Nat × List (Nat × Nat × Ax.Tm)) := []
theorem F_checked_Div_eq : (fun ds => (fnO tau (gl mx) (xd F_checked_Div_T) (Ax.look E8) 100 21 [.int .i64, .int .i64] (.tuple [.int .i64, .bool]) ds).run) = F_checked_Div := by kernel_rfl
theorem F_checked_Div_ok : FnOk P (gl mx) 21 ⟨[.int .i64, .int .i64], (.tuple [.int .i64, .bool]), F_checked_Div⟩ := F_checked_Div_eq ▸ fnO_ok tau_ok mix (xd_ok _) (E8_ok)
noncomputable def E9 : List (Nat × Ax.Fn) := (21, ⟨[.int .i64, .int .i64], (.tuple [.int .i64, .bool]), F_checked_Div⟩) :: E8
theorem E9_ok : EOk P (gl mx) (Ax.look E9) := eok_cons F_checked_Div_ok E8_ok
def F_ref03_parts_T : List (Nat × List (Nat × Nat × Ax.Tm)) := []
theorem F_ref03_parts_eq : (fun ds => (fnO tau (gl mx) (xd F_ref03_parts_T) (Ax.look E9) 100 46 [.int .i64, .int .i64] (.tuple [.int .u64, .int .u64]) ds).run) = F_ref03_parts := by kernel_rfl
theorem F_ref03_parts_ok : FnOk P (gl mx) 46 ⟨[.int .i64, .int .i64], (.tuple [.int .u64, .int .u64]), F_ref03_parts⟩ := F_ref03_parts_eq ▸ fnO_ok tau_ok mix (xd_ok _) (E9_ok)
noncomputable def E10 : List (Nat × Ax.Fn) := (46, ⟨[.int .i64, .int .i64], (.tuple [.int .u64, .int .u64]), F_ref03_parts⟩) :: E9
theorem E10_ok : EOk P (gl mx) (Ax.look E10) := eok_cons F_ref03_parts_ok E9_ok
def F_ref03_Div_T : List (Nat × List (Nat × Nat × Ax.Tm)) := []
theorem F_ref03_Div_eq : (fun ds => (fnO tau (gl mx) (xd F_ref03_Div_T) (Ax.look E10) 100 22 [.int .i64, .int .i64] (.tuple [.int .i64, .bool]) ds).run) = F_ref03_Div := by kernel_rfl
theorem F_ref03_Div_ok : FnOk P (gl mx) 22 ⟨[.int .i64, .int .i64], (.tuple [.int .i64, .bool]), F_ref03_Div⟩ := F_ref03_Div_eq ▸ fnO_ok tau_ok mix (xd_ok _) (E10_ok)
noncomputable def E11 : List (Nat × Ax.Fn) := (22, ⟨[.int .i64, .int .i64], (.tuple [.int .i64, .bool]), F_ref03_Div⟩) :: E10
theorem E11_ok : EOk P (gl mx) (Ax.look E11) := eok_cons F_ref03_Div_ok E10_ok
def F_checked_Mod_T : List (Nat × List (Nat × Nat × Ax.Tm)) := []
theorem F_checked_Mod_eq : (fun ds => (fnO tau (gl mx) (xd F_checked_Mod_T) (Ax.look E11) 100 23 [.int .i64, .int .i64] (.tuple [.int .i64, .bool]) ds).run) = F_checked_Mod := by kernel_rfl
theorem F_checked_Mod_ok : FnOk P (gl mx) 23 ⟨[.int .i64, .int .i64], (.tuple [.int .i64, .bool]), F_checked_Mod⟩ := F_checked_Mod_eq ▸ fnO_ok tau_ok mix (xd_ok _) (E11_ok)
noncomputable def E12 : List (Nat × Ax.Fn) := (23, ⟨[.int .i64, .int .i64], (.tuple [.int .i64, .bool]), F_checked_Mod⟩) :: E11
theorem E12_ok : EOk P (gl mx) (Ax.look E12) := eok_cons F_checked_Mod_ok E11_ok
def F_ref03_Mod_T : List (Nat × List (Nat × Nat × Ax.Tm)) := []
theorem F_ref03_Mod_eq : (fun ds => (fnO tau (gl mx) (xd F_ref03_Mod_T) (Ax.look E12) 100 24 [.int .i64, .int .i64] (.tuple [.int .i64, .bool]) ds).run) = F_ref03_Mod := by kernel_rfl
theorem F_ref03_Mod_ok : FnOk P (gl mx) 24 ⟨[.int .i64, .int .i64], (.tuple [.int .i64, .bool]), F_ref03_Mod⟩ := F_ref03_Mod_eq ▸ fnO_ok tau_ok mix (xd_ok _) (E12_ok)
noncomputable def E13 : List (Nat × Ax.Fn) := (24, ⟨[.int .i64, .int .i64], (.tuple [.int .i64, .bool]), F_ref03_Mod⟩) :: E12
theorem E13_ok : EOk P (gl mx) (Ax.look E13) := eok_cons F_ref03_Mod_ok E12_ok
def F_law03_is_T : List (Nat × List (Nat × Nat × Ax.Tm)) := []
theorem F_law03_is_eq : (fun ds => (fnO tau (gl mx) (xd F_law03_is_T) (Ax.look E13) 100 25 [.int .i64, .bool, .int .i64, .bool] (.bool) ds).run) = F_law03_is := by kernel_rfl
theorem F_law03_is_ok : FnOk P (gl mx) 25 ⟨[.int .i64, .bool, .int .i64, .bool], (.bool), F_law03_is⟩ := F_law03_is_eq ▸ fnO_ok tau_ok mix (xd_ok _) (E13_ok)
noncomputable def E14 : List (Nat × Ax.Fn) := (25, ⟨[.int .i64, .bool, .int .i64, .bool], (.bool), F_law03_is⟩) :: E13
theorem E14_ok : EOk P (gl mx) (Ax.look E14) := eok_cons F_law03_is_ok E13_ok
theorem shelf28 : FnOk P (gl mx) 28 ⟨[.seq], (.tuple [.int .i64, .bool]), checkedSum⟩ := by
  have h := IsProg.eq (P := P)
  subst h
  exact checkedSum_ok
noncomputable def E15 : List (Nat × Ax.Fn) := (28, ⟨[.seq], (.tuple [.int .i64, .bool]), checkedSum⟩) :: E14
theorem E15_ok : EOk P (gl mx) (Ax.look E15) := eok_cons shelf28 E14_ok
theorem F_law03_works_eq : (fun ds => (fnO tau (gl mx) (xd []) (Ax.look E15) 3000 26 [] (.bool) ds).run) = F_law03_works := by kernel_rfl
theorem F_law03_works_ok : FnOk P (gl mx) 26 ⟨[], (.bool), F_law03_works⟩ := F_law03_works_eq ▸ fnO_ok tau_ok mix (xd_ok _) (E15_ok)
noncomputable def E16 : List (Nat × Ax.Fn) := (26, ⟨[], (.bool), F_law03_works⟩) :: E15
theorem E16_ok : EOk P (gl mx) (Ax.look E16) := eok_cons F_law03_works_ok E15_ok
def F_law03_CheckedTwo_T : List (Nat × List (Nat × Nat × Ax.Tm)) := []
theorem F_law03_CheckedTwo_eq : (fun ds => (fnO tau (gl mx) (xd F_law03_CheckedTwo_T) (Ax.look E16) 100 3 [.int .i64, .int .i64] (.bool) ds).run) = F_law03_CheckedTwo := by kernel_rfl
theorem F_law03_CheckedTwo_ok : FnOk P (gl mx) 3 ⟨[.int .i64, .int .i64], (.bool), F_law03_CheckedTwo⟩ := F_law03_CheckedTwo_eq ▸ fnO_ok tau_ok mix (xd_ok _) (E16_ok)
noncomputable def E17 : List (Nat × Ax.Fn) := (3, ⟨[.int .i64, .int .i64], (.bool), F_law03_CheckedTwo⟩) :: E16
theorem E17_ok : EOk P (gl mx) (Ax.look E17) := eok_cons F_law03_CheckedTwo_ok E16_ok
def F_slices_Cloneint64_int64__nil_T : List (Nat × List (Nat × Nat × Ax.Tm)) := []
theorem F_slices_Cloneint64_int64__nil_eq : (fun ds => (fnO tau (gl mx) (xd F_slices_Cloneint64_int64__nil_T) (Ax.look E17) 100 27 [.nil] (.seq) ds).run) = F_slices_Cloneint64_int64__nil := by kernel_rfl
theorem F_slices_Cloneint64_int64__nil_ok : FnOk P (gl mx) 27 ⟨[.nil], (.seq), F_slices_Cloneint64_int64__nil⟩ := F_slices_Cloneint64_int64__nil_eq ▸ fnO_ok tau_ok mix (xd_ok _) (E17_ok)
noncomputable def E18 : List (Nat × Ax.Fn) := (27, ⟨[.nil], (.seq), F_slices_Cloneint64_int64__nil⟩) :: E17
theorem E18_ok : EOk P (gl mx) (Ax.look E18) := eok_cons F_slices_Cloneint64_int64__nil_ok E17_ok
def F_slices_Cloneint64_int64__empty_T : List (Nat × List (Nat × Nat × Ax.Tm)) := []
theorem F_slices_Cloneint64_int64__empty_eq : (fun ds => (fnO tau (gl mx) (xd F_slices_Cloneint64_int64__empty_T) (Ax.look E18) 100 27 [.empty] (.seq) ds).run) = F_slices_Cloneint64_int64__empty := by kernel_rfl
theorem F_slices_Cloneint64_int64__empty_ok : FnOk P (gl mx) 27 ⟨[.empty], (.seq), F_slices_Cloneint64_int64__empty⟩ := F_slices_Cloneint64_int64__empty_eq ▸ fnO_ok tau_ok mix (xd_ok _) (E18_ok)
noncomputable def E19 : List (Nat × Ax.Fn) := (27, ⟨[.empty], (.seq), F_slices_Cloneint64_int64__empty⟩) :: E18
theorem E19_ok : EOk P (gl mx) (Ax.look E19) := eok_cons F_slices_Cloneint64_int64__empty_ok E18_ok
def F_slices_Cloneint64_int64__list_T : List (Nat × List (Nat × Nat × Ax.Tm)) := []
theorem F_slices_Cloneint64_int64__list_eq : (fun ds => (fnO tau (gl mx) (xd F_slices_Cloneint64_int64__list_T) (Ax.look E19) 100 27 [.list] (.seq) ds).run) = F_slices_Cloneint64_int64__list := by kernel_rfl
theorem F_slices_Cloneint64_int64__list_ok : FnOk P (gl mx) 27 ⟨[.list], (.seq), F_slices_Cloneint64_int64__list⟩ := F_slices_Cloneint64_int64__list_eq ▸ fnO_ok tau_ok mix (xd_ok _) (E19_ok)
noncomputable def E20 : List (Nat × Ax.Fn) := (27, ⟨[.list], (.seq), F_slices_Cloneint64_int64__list⟩) :: E19
theorem E20_ok : EOk P (gl mx) (Ax.look E20) := eok_cons F_slices_Cloneint64_int64__list_ok E19_ok
theorem F_slices_Cloneint64_int64__ok : FnOk P (gl mx) 27 ⟨[.seq], (.seq), F_slices_Cloneint64_int64_⟩ := FnOk.seq3 (rest := []) F_slices_Cloneint64_int64__nil_ok F_slices_Cloneint64_int64__empty_ok F_slices_Cloneint64_int64__list_ok (fun ds => by rfl) (fun ds => by rfl)
noncomputable def E21 : List (Nat × Ax.Fn) := (27, ⟨[.seq], (.seq), F_slices_Cloneint64_int64_⟩) :: E20
theorem E21_ok : EOk P (gl mx) (Ax.look E21) := eok_cons F_slices_Cloneint64_int64__ok E20_ok
def F_ref03_Sum_T : List (Nat × List (Nat × Nat × Ax.Tm)) := [(29, [(3, 0, (⟨[(0, .seq), (4, .int .i64), (5, .int .i64)], [], 0⟩ : Go.Ax.Tm))])]
theorem F_ref03_Sum_eq : (fun ds => (fnO tau (gl mx) (xd F_ref03_Sum_T) (Ax.look E21) 100 29 [.seq] (.tuple [.int .i64, .bool]) ds).run) = F_ref03_Sum := by kernel_rfl
theorem F_ref03_Sum_ok : FnOk P (gl mx) 29 ⟨[.seq], (.tuple [.int .i64, .bool]), F_ref03_Sum⟩ := F_ref03_Sum_eq ▸ fnO_ok tau_ok mix (xd_ok _) (E21_ok)
noncomputable def E22 : List (Nat × Ax.Fn) := (29, ⟨[.seq], (.tuple [.int .i64, .bool]), F_ref03_Sum⟩) :: E21
theorem E22_ok : EOk P (gl mx) (Ax.look E22) := eok_cons F_ref03_Sum_ok E21_ok
def F_slices_Equalint64_int64__T : List (Nat × List (Nat × Nat × Ax.Tm)) := [(30, [(4, 0, (⟨[(0, .seq), (1, .seq), (12, .int .i64), (13, .int .i64)], [], 0⟩ : Go.Ax.Tm))])]
theorem F_slices_Equalint64_int64__eq : (fun ds => (fnO tau (gl mx) (xd F_slices_Equalint64_int64__T) (Ax.look E22) 100 30 [.seq, .seq] (.bool) ds).run) = F_slices_Equalint64_int64_ := by kernel_rfl
theorem F_slices_Equalint64_int64__ok : FnOk P (gl mx) 30 ⟨[.seq, .seq], (.bool), F_slices_Equalint64_int64_⟩ := F_slices_Equalint64_int64__eq ▸ fnO_ok tau_ok mix (xd_ok _) (E22_ok)
noncomputable def E23 : List (Nat × Ax.Fn) := (30, ⟨[.seq, .seq], (.bool), F_slices_Equalint64_int64_⟩) :: E22
theorem E23_ok : EOk P (gl mx) (Ax.look E23) := eok_cons F_slices_Equalint64_int64__ok E22_ok
def F_law03_CheckedSums_T : List (Nat × List (Nat × Nat × Ax.Tm)) := []
theorem F_law03_CheckedSums_eq : (fun ds => (fnO tau (gl mx) (xd F_law03_CheckedSums_T) (Ax.look E23) 100 4 [.seq] (.bool) ds).run) = F_law03_CheckedSums := by kernel_rfl
theorem F_law03_CheckedSums_ok : FnOk P (gl mx) 4 ⟨[.seq], (.bool), F_law03_CheckedSums⟩ := F_law03_CheckedSums_eq ▸ fnO_ok tau_ok mix (xd_ok _) (E23_ok)
noncomputable def E24 : List (Nat × Ax.Fn) := (4, ⟨[.seq], (.bool), F_law03_CheckedSums⟩) :: E23
theorem E24_ok : EOk P (gl mx) (Ax.look E24) := eok_cons F_law03_CheckedSums_ok E23_ok
def F_law03_CheckedBack_T : List (Nat × List (Nat × Nat × Ax.Tm)) := []
theorem F_law03_CheckedBack_eq : (fun ds => (fnO tau (gl mx) (xd F_law03_CheckedBack_T) (Ax.look E24) 100 5 [.int .i64, .int .i64] (.bool) ds).run) = F_law03_CheckedBack := by kernel_rfl
theorem F_law03_CheckedBack_ok : FnOk P (gl mx) 5 ⟨[.int .i64, .int .i64], (.bool), F_law03_CheckedBack⟩ := F_law03_CheckedBack_eq ▸ fnO_ok tau_ok mix (xd_ok _) (E24_ok)
noncomputable def E25 : List (Nat × Ax.Fn) := (5, ⟨[.int .i64, .int .i64], (.bool), F_law03_CheckedBack⟩) :: E24
theorem E25_ok : EOk P (gl mx) (Ax.look E25) := eok_cons F_law03_CheckedBack_ok E24_ok
def F_law03_CheckedJust_T : List (Nat × List (Nat × Nat × Ax.Tm)) := []
theorem F_law03_CheckedJust_eq : (fun ds => (fnO tau (gl mx) (xd F_law03_CheckedJust_T) (Ax.look E25) 100 6 [.int .i64, .int .i64] (.bool) ds).run) = F_law03_CheckedJust := by kernel_rfl
theorem F_law03_CheckedJust_ok : FnOk P (gl mx) 6 ⟨[.int .i64, .int .i64], (.bool), F_law03_CheckedJust⟩ := F_law03_CheckedJust_eq ▸ fnO_ok tau_ok mix (xd_ok _) (E25_ok)
noncomputable def E26 : List (Nat × Ax.Fn) := (6, ⟨[.int .i64, .int .i64], (.bool), F_law03_CheckedJust⟩) :: E25
theorem E26_ok : EOk P (gl mx) (Ax.look E26) := eok_cons F_law03_CheckedJust_ok E25_ok
def F_law03_CheckedSteps_T : List (Nat × List (Nat × Nat × Ax.Tm)) := []
theorem F_law03_CheckedSteps_eq : (fun ds => (fnO tau (gl mx) (xd F_law03_CheckedSteps_T) (Ax.look E26) 100 7 [.int .i64, .int .i64, .int .u32] (.bool) ds).run) = F_law03_CheckedSteps := by kernel_rfl
theorem F_law03_CheckedSteps_ok : FnOk P (gl mx) 7 ⟨[.int .i64, .int .i64, .int .u32], (.bool), F_law03_CheckedSteps⟩ := F_law03_CheckedSteps_eq ▸ fnO_ok tau_ok mix (xd_ok _) (E26_ok)
noncomputable def E27 : List (Nat × Ax.Fn) := (7, ⟨[.int .i64, .int .i64, .int .u32], (.bool), F_law03_CheckedSteps⟩) :: E26
theorem E27_ok : EOk P (gl mx) (Ax.look E27) := eok_cons F_law03_CheckedSteps_ok E26_ok
def F_law03_CheckedParts_T : List (Nat × List (Nat × Nat × Ax.Tm)) := [(8, [(5, 0, (⟨[(0, .seq), (3, .int .i64), (4, .bool), (15, .seq), (16, .int .i64), (17, .int .i64)], [], 0⟩ : Go.Ax.Tm))])]
theorem F_law03_CheckedParts_eq : (fun ds => (fnO tau (gl mx) (xd F_law03_CheckedParts_T) (Ax.look E27) 100 8 [.seq] (.bool) ds).run) = F_law03_CheckedParts := by kernel_rfl
theorem F_law03_CheckedParts_ok : FnOk P (gl mx) 8 ⟨[.seq], (.bool), F_law03_CheckedParts⟩ := F_law03_CheckedParts_eq ▸ fnO_ok tau_ok mix (xd_ok _) (E27_ok)
noncomputable def E28 : List (Nat × Ax.Fn) := (8, ⟨[.seq], (.bool), F_law03_CheckedParts⟩) :: E27
theorem E28_ok : EOk P (gl mx) (Ax.look E28) := eok_cons F_law03_CheckedParts_ok E27_ok
end Go.Proofs.Ytkjlobjnboljbaa
