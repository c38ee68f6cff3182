/-
  The functions of plain data are what the program's code says.
-/
import Derived.Test.YtljbgkfoljjgbaaAxT
import Derived.Test.YtljbgkfoljjgbaaShelf
import Derived.Test.YtljbgkfoljjgbaaFbig
namespace Go.Proofs.Ytljbgkfoljjgbaa
open Go.Ax
set_option linter.all false
set_option maxRecDepth 100000
set_option maxHeartbeats 4000000
variable {P : Program} [IsProg P]
variable {mx : Int}
def glList (mx : Int) : List (Nat × List AV) := [(0, [.int .i64 (.sym mx)])]
def gl (mx : Int) : Nat → Option (List AV) := Ax.look (glList mx)
noncomputable def E0 : List (Nat × Ax.Fn) := []
omit [IsProg P] in theorem E0_ok : EOk P (gl mx) (Ax.look E0) := eok_nil
def F_bigend_isSize_T : List (Nat × List (Nat × Nat × Ax.Tm)) := []
theorem F_bigend_isSize_eq : (fun ds => (fnO tau (gl mx) (xd F_bigend_isSize_T) (Ax.look E0) 100 19 [.int .i64] (.bool) ds).run) = F_bigend_isSize := by kernel_rfl
theorem F_bigend_isSize_ok : FnOk P (gl mx) 19 ⟨[.int .i64], (.bool), F_bigend_isSize⟩ := F_bigend_isSize_eq ▸ fnO_ok tau_ok mix (xd_ok _) (E0_ok)
noncomputable def E1 : List (Nat × Ax.Fn) := (19, ⟨[.int .i64], (.bool), F_bigend_isSize⟩) :: E0
theorem E1_ok : EOk P (gl mx) (Ax.look E1) := eok_cons F_bigend_isSize_ok E0_ok
def F_bigend_Put_T : List (Nat × List (Nat × Nat × Ax.Tm)) := [(10, [(9, 1, (⟨[(1, .int .i64), (2, .int .i64), (9, .ownS 0 0 1), (33, .int .i64), (34, .int .i64)], [(0, .whole)], 1⟩ : Go.Ax.Tm)), (9, 2, (⟨[(1, .int .i64), (2, .int .i64), (9, .acc 0 1), (33, .int .i64), (34, .int .i64)], [(0, .whole)], 1⟩ : Go.Ax.Tm))])]
theorem F_bigend_Put_eq : (fun ds => (fnO tau (gl mx) (xd F_bigend_Put_T) (Ax.look E1) 100 10 [.seq, .int .i64, .int .i64] (.tuple [.seq, .int .i64]) ds).run) = F_bigend_Put := by kernel_rfl
theorem F_bigend_Put_ok : FnOk P (gl mx) 10 ⟨[.seq, .int .i64, .int .i64], (.tuple [.seq, .int .i64]), F_bigend_Put⟩ := F_bigend_Put_eq ▸ fnO_ok tau_ok mix (xd_ok _) (E1_ok)
noncomputable def E2 : List (Nat × Ax.Fn) := (10, ⟨[.seq, .int .i64, .int .i64], (.tuple [.seq, .int .i64]), F_bigend_Put⟩) :: E1
theorem E2_ok : EOk P (gl mx) (Ax.look E2) := eok_cons F_bigend_Put_ok E1_ok
def F_bytes_Equal_T : List (Nat × List (Nat × Nat × Ax.Tm)) := []
theorem F_bytes_Equal_eq : (fun ds => (fnO tau (gl mx) (xd F_bytes_Equal_T) (Ax.look E2) 100 16 [.seq, .seq] (.bool) ds).run) = F_bytes_Equal := by kernel_rfl
theorem F_bytes_Equal_ok : FnOk P (gl mx) 16 ⟨[.seq, .seq], (.bool), F_bytes_Equal⟩ := F_bytes_Equal_eq ▸ fnO_ok tau_ok mix (xd_ok _) (E2_ok)
noncomputable def E3 : List (Nat × Ax.Fn) := (16, ⟨[.seq, .seq], (.bool), F_bytes_Equal⟩) :: E2
theorem E3_ok : EOk P (gl mx) (Ax.look E3) := eok_cons F_bytes_Equal_ok E2_ok
def F_bigend_inside_T : List (Nat × List (Nat × Nat × Ax.Tm)) := []
theorem F_bigend_inside_eq : (fun ds => (fnO tau (gl mx) (xd F_bigend_inside_T) (Ax.look E3) 100 21 [.seq, .int .i64, .int .i64] (.bool) ds).run) = F_bigend_inside := by kernel_rfl
theorem F_bigend_inside_ok : FnOk P (gl mx) 21 ⟨[.seq, .int .i64, .int .i64], (.bool), F_bigend_inside⟩ := F_bigend_inside_eq ▸ fnO_ok tau_ok mix (xd_ok _) (E3_ok)
noncomputable def E4 : List (Nat × Ax.Fn) := (21, ⟨[.seq, .int .i64, .int .i64], (.bool), F_bigend_inside⟩) :: E3
theorem E4_ok : EOk P (gl mx) (Ax.look E4) := eok_cons F_bigend_inside_ok E3_ok
def F_bigend_Get_T : List (Nat × List (Nat × Nat × Ax.Tm)) := [(12, [(7, 0, (⟨[(0, .seq), (1, .int .i64), (2, .int .i64), (8, .int .i64), (9, .int .i64)], [], 0⟩ : Go.Ax.Tm))])]
theorem F_bigend_Get_eq : (fun ds => (fnO tau (gl mx) (xd F_bigend_Get_T) (Ax.look E4) 100 12 [.seq, .int .i64, .int .i64] (.tuple [.int .i64, .int .i64]) ds).run) = F_bigend_Get := by kernel_rfl
theorem F_bigend_Get_ok : FnOk P (gl mx) 12 ⟨[.seq, .int .i64, .int .i64], (.tuple [.int .i64, .int .i64]), F_bigend_Get⟩ := F_bigend_Get_eq ▸ fnO_ok tau_ok mix (xd_ok _) (E4_ok)
noncomputable def E5 : List (Nat × Ax.Fn) := (12, ⟨[.seq, .int .i64, .int .i64], (.tuple [.int .i64, .int .i64]), F_bigend_Get⟩) :: E4
theorem E5_ok : EOk P (gl mx) (Ax.look E5) := eok_cons F_bigend_Get_ok E4_ok
def F_slices_Clonebyte_byte__nil_T : List (Nat × List (Nat × Nat × Ax.Tm)) := []
theorem F_slices_Clonebyte_byte__nil_eq : (fun ds => (fnO tau (gl mx) (xd F_slices_Clonebyte_byte__nil_T) (Ax.look E5) 100 22 [.nil] (.seq) ds).run) = F_slices_Clonebyte_byte__nil := by kernel_rfl
theorem F_slices_Clonebyte_byte__nil_ok : FnOk P (gl mx) 22 ⟨[.nil], (.seq), F_slices_Clonebyte_byte__nil⟩ := F_slices_Clonebyte_byte__nil_eq ▸ fnO_ok tau_ok mix (xd_ok _) (E5_ok)
noncomputable def E6 : List (Nat × Ax.Fn) := (22, ⟨[.nil], (.seq), F_slices_Clonebyte_byte__nil⟩) :: E5
theorem E6_ok : EOk P (gl mx) (Ax.look E6) := eok_cons F_slices_Clonebyte_byte__nil_ok E5_ok
def F_slices_Clonebyte_byte__empty_T : List (Nat × List (Nat × Nat × Ax.Tm)) := []
theorem F_slices_Clonebyte_byte__empty_eq : (fun ds => (fnO tau (gl mx) (xd F_slices_Clonebyte_byte__empty_T) (Ax.look E6) 100 22 [.empty] (.seq) ds).run) = F_slices_Clonebyte_byte__empty := by kernel_rfl
theorem F_slices_Clonebyte_byte__empty_ok : FnOk P (gl mx) 22 ⟨[.empty], (.seq), F_slices_Clonebyte_byte__empty⟩ := F_slices_Clonebyte_byte__empty_eq ▸ fnO_ok tau_ok mix (xd_ok _) (E6_ok)
noncomputable def E7 : List (Nat × Ax.Fn) := (22, ⟨[.empty], (.seq), F_slices_Clonebyte_byte__empty⟩) :: E6
theorem E7_ok : EOk P (gl mx) (Ax.look E7) := eok_cons F_slices_Clonebyte_byte__empty_ok E6_ok
def F_slices_Clonebyte_byte__list_T : List (Nat × List (Nat × Nat × Ax.Tm)) := []
theorem F_slices_Clonebyte_byte__list_eq : (fun ds => (fnO tau (gl mx) (xd F_slices_Clonebyte_byte__list_T) (Ax.look E7) 100 22 [.list] (.seq) ds).run) = F_slices_Clonebyte_byte__list := by kernel_rfl
theorem F_slices_Clonebyte_byte__list_ok : FnOk P (gl mx) 22 ⟨[.list], (.seq), F_slices_Clonebyte_byte__list⟩ := F_slices_Clonebyte_byte__list_eq ▸ fnO_ok tau_ok mix (xd_ok _) (E7_ok)
noncomputable def E8 : List (Nat × Ax.Fn) := (22, ⟨[.list], (.seq), F_slices_Clonebyte_byte__list⟩) :: E7
theorem E8_ok : EOk P (gl mx) (Ax.look E8) := eok_cons F_slices_Clonebyte_byte__list_ok E7_ok
theorem F_slices_Clonebyte_byte__ok : FnOk P (gl mx) 22 ⟨[.seq], (.seq), F_slices_Clonebyte_byte_⟩ := FnOk.seq3 (rest := []) F_slices_Clonebyte_byte__nil_ok F_slices_Clonebyte_byte__empty_ok F_slices_Clonebyte_byte__list_ok (fun ds => by rfl) (fun ds => by rfl)
noncomputable def E9 : List (Nat × Ax.Fn) := (22, ⟨[.seq], (.seq), F_slices_Clonebyte_byte_⟩) :: E8
theorem E9_ok : EOk P (gl mx) (Ax.look E9) := eok_cons F_slices_Clonebyte_byte__ok E8_ok
def F_bigend_Bytes_T : List (Nat × List (Nat × Nat × Ax.Tm)) := []
theorem F_bigend_Bytes_eq : (fun ds => (fnO tau (gl mx) (xd F_bigend_Bytes_T) (Ax.look E9) 100 14 [.seq, .int .i64, .int .i64] (.tuple [.seq, .int .i64]) ds).run) = F_bigend_Bytes := by kernel_rfl
theorem F_bigend_Bytes_ok : FnOk P (gl mx) 14 ⟨[.seq, .int .i64, .int .i64], (.tuple [.seq, .int .i64]), F_bigend_Bytes⟩ := F_bigend_Bytes_eq ▸ fnO_ok tau_ok mix (xd_ok _) (E9_ok)
noncomputable def E10 : List (Nat × Ax.Fn) := (14, ⟨[.seq, .int .i64, .int .i64], (.tuple [.seq, .int .i64]), F_bigend_Bytes⟩) :: E9
theorem E10_ok : EOk P (gl mx) (Ax.look E10) := eok_cons F_bigend_Bytes_ok E9_ok
theorem F_law41_works_eq : (fun ds => (fnO tau (gl mx) (xd []) (Ax.look E10) 3000 8 [] (.bool) ds).run) = F_law41_works := by kernel_rfl
theorem F_law41_works_ok : FnOk P (gl mx) 8 ⟨[], (.bool), F_law41_works⟩ := F_law41_works_eq ▸ fnO_ok tau_ok mix (xd_ok _) (E10_ok)
noncomputable def E11 : List (Nat × Ax.Fn) := (8, ⟨[], (.bool), F_law41_works⟩) :: E10
theorem E11_ok : EOk P (gl mx) (Ax.look E11) := eok_cons F_law41_works_ok E10_ok
def F_bytes_Clone_nil_T : List (Nat × List (Nat × Nat × Ax.Tm)) := []
theorem F_bytes_Clone_nil_eq : (fun ds => (fnO tau (gl mx) (xd F_bytes_Clone_nil_T) (Ax.look E11) 100 9 [.nil] (.seq) ds).run) = F_bytes_Clone_nil := by kernel_rfl
theorem F_bytes_Clone_nil_ok : FnOk P (gl mx) 9 ⟨[.nil], (.seq), F_bytes_Clone_nil⟩ := F_bytes_Clone_nil_eq ▸ fnO_ok tau_ok mix (xd_ok _) (E11_ok)
noncomputable def E12 : List (Nat × Ax.Fn) := (9, ⟨[.nil], (.seq), F_bytes_Clone_nil⟩) :: E11
theorem E12_ok : EOk P (gl mx) (Ax.look E12) := eok_cons F_bytes_Clone_nil_ok E11_ok
def F_bytes_Clone_empty_T : List (Nat × List (Nat × Nat × Ax.Tm)) := []
theorem F_bytes_Clone_empty_eq : (fun ds => (fnO tau (gl mx) (xd F_bytes_Clone_empty_T) (Ax.look E12) 100 9 [.empty] (.seq) ds).run) = F_bytes_Clone_empty := by kernel_rfl
theorem F_bytes_Clone_empty_ok : FnOk P (gl mx) 9 ⟨[.empty], (.seq), F_bytes_Clone_empty⟩ := F_bytes_Clone_empty_eq ▸ fnO_ok tau_ok mix (xd_ok _) (E12_ok)
noncomputable def E13 : List (Nat × Ax.Fn) := (9, ⟨[.empty], (.seq), F_bytes_Clone_empty⟩) :: E12
theorem E13_ok : EOk P (gl mx) (Ax.look E13) := eok_cons F_bytes_Clone_empty_ok E12_ok
def F_bytes_Clone_list_T : List (Nat × List (Nat × Nat × Ax.Tm)) := []
theorem F_bytes_Clone_list_eq : (fun ds => (fnO tau (gl mx) (xd F_bytes_Clone_list_T) (Ax.look E13) 100 9 [.list] (.seq) ds).run) = F_bytes_Clone_list := by kernel_rfl
theorem F_bytes_Clone_list_ok : FnOk P (gl mx) 9 ⟨[.list], (.seq), F_bytes_Clone_list⟩ := F_bytes_Clone_list_eq ▸ fnO_ok tau_ok mix (xd_ok _) (E13_ok)
noncomputable def E14 : List (Nat × Ax.Fn) := (9, ⟨[.list], (.seq), F_bytes_Clone_list⟩) :: E13
theorem E14_ok : EOk P (gl mx) (Ax.look E14) := eok_cons F_bytes_Clone_list_ok E13_ok
theorem F_bytes_Clone_ok : FnOk P (gl mx) 9 ⟨[.seq], (.seq), F_bytes_Clone⟩ := FnOk.seq3 (rest := []) F_bytes_Clone_nil_ok F_bytes_Clone_empty_ok F_bytes_Clone_list_ok (fun ds => by rfl) (fun ds => by rfl)
noncomputable def E15 : List (Nat × Ax.Fn) := (9, ⟨[.seq], (.seq), F_bytes_Clone⟩) :: E14
theorem E15_ok : EOk P (gl mx) (Ax.look E15) := eok_cons F_bytes_Clone_ok E14_ok
def F_ref41_size_T : List (Nat × List (Nat × Nat × Ax.Tm)) := []
theorem F_ref41_size_eq : (fun ds => (fnO tau (gl mx) (xd F_ref41_size_T) (Ax.look E15) 100 20 [.int .i64] (.bool) ds).run) = F_ref41_size := by kernel_rfl
theorem F_ref41_size_ok : FnOk P (gl mx) 20 ⟨[.int .i64], (.bool), F_ref41_size⟩ := F_ref41_size_eq ▸ fnO_ok tau_ok mix (xd_ok _) (E15_ok)
noncomputable def E16 : List (Nat × Ax.Fn) := (20, ⟨[.int .i64], (.bool), F_ref41_size⟩) :: E15
theorem E16_ok : EOk P (gl mx) (Ax.look E16) := eok_cons F_ref41_size_ok E15_ok
def F_ref41_Put_T : List (Nat × List (Nat × Nat × Ax.Tm)) := [(11, [(6, 1, (⟨[(0, .seq), (1, .int .i64), (8, .int .i64), (9, .ownS 0 0 1), (10, .int .i64)], [(0, .whole)], 1⟩ : Go.Ax.Tm))])]
theorem F_ref41_Put_eq : (fun ds => (fnO tau (gl mx) (xd F_ref41_Put_T) (Ax.look E16) 100 11 [.seq, .int .i64, .int .i64] (.tuple [.seq, .int .i64]) ds).run) = F_ref41_Put := by kernel_rfl
theorem F_ref41_Put_ok : FnOk P (gl mx) 11 ⟨[.seq, .int .i64, .int .i64], (.tuple [.seq, .int .i64]), F_ref41_Put⟩ := F_ref41_Put_eq ▸ fnO_ok tau_ok mix (xd_ok _) (E16_ok)
noncomputable def E17 : List (Nat × Ax.Fn) := (11, ⟨[.seq, .int .i64, .int .i64], (.tuple [.seq, .int .i64]), F_ref41_Put⟩) :: E16
theorem E17_ok : EOk P (gl mx) (Ax.look E17) := eok_cons F_ref41_Put_ok E16_ok
def F_ref41_Bytes_T : List (Nat × List (Nat × Nat × Ax.Tm)) := []
theorem F_ref41_Bytes_eq : (fun ds => (fnO tau (gl mx) (xd F_ref41_Bytes_T) (Ax.look E17) 100 15 [.seq, .int .i64, .int .i64] (.tuple [.seq, .int .i64]) ds).run) = F_ref41_Bytes := by kernel_rfl
theorem F_ref41_Bytes_ok : FnOk P (gl mx) 15 ⟨[.seq, .int .i64, .int .i64], (.tuple [.seq, .int .i64]), F_ref41_Bytes⟩ := F_ref41_Bytes_eq ▸ fnO_ok tau_ok mix (xd_ok _) (E17_ok)
noncomputable def E18 : List (Nat × Ax.Fn) := (15, ⟨[.seq, .int .i64, .int .i64], (.tuple [.seq, .int .i64]), F_ref41_Bytes⟩) :: E17
theorem E18_ok : EOk P (gl mx) (Ax.look E18) := eok_cons F_ref41_Bytes_ok E17_ok
def F_ref41_Get_T : List (Nat × List (Nat × Nat × Ax.Tm)) := [(13, [(10, 0, (⟨[(2, .int .i64), (8, .seq), (10, .int .i64), (11, .int .i64)], [], 0⟩ : Go.Ax.Tm))])]
theorem F_ref41_Get_eq : (fun ds => (fnO tau (gl mx) (xd F_ref41_Get_T) (Ax.look E18) 100 13 [.seq, .int .i64, .int .i64] (.tuple [.int .i64, .int .i64]) ds).run) = F_ref41_Get := by kernel_rfl
theorem F_ref41_Get_ok : FnOk P (gl mx) 13 ⟨[.seq, .int .i64, .int .i64], (.tuple [.int .i64, .int .i64]), F_ref41_Get⟩ := F_ref41_Get_eq ▸ fnO_ok tau_ok mix (xd_ok _) (E18_ok)
noncomputable def E19 : List (Nat × Ax.Fn) := (13, ⟨[.seq, .int .i64, .int .i64], (.tuple [.int .i64, .int .i64]), F_ref41_Get⟩) :: E18
theorem E19_ok : EOk P (gl mx) (Ax.look E19) := eok_cons F_ref41_Get_ok E18_ok
def F_law41_BigendNumbers_T : List (Nat × List (Nat × Nat × Ax.Tm)) := []
theorem F_law41_BigendNumbers_eq : (fun ds => (fnO tau (gl mx) (xd F_law41_BigendNumbers_T) (Ax.look E19) 100 3 [.seq, .int .i64, .int .i64, .int .i64] (.bool) ds).run) = F_law41_BigendNumbers := by kernel_rfl
theorem F_law41_BigendNumbers_ok : FnOk P (gl mx) 3 ⟨[.seq, .int .i64, .int .i64, .int .i64], (.bool), F_law41_BigendNumbers⟩ := F_law41_BigendNumbers_eq ▸ fnO_ok tau_ok mix (xd_ok _) (E19_ok)
noncomputable def E20 : List (Nat × Ax.Fn) := (3, ⟨[.seq, .int .i64, .int .i64, .int .i64], (.bool), F_law41_BigendNumbers⟩) :: E19
theorem E20_ok : EOk P (gl mx) (Ax.look E20) := eok_cons F_law41_BigendNumbers_ok E19_ok
def F_law41_sizes_T : List (Nat × List (Nat × Nat × Ax.Tm)) := []
theorem F_law41_sizes_eq : (fun ds => (fnO tau (gl mx) (xd F_law41_sizes_T) (Ax.look E20) 100 17 [] (.seq) ds).run) = F_law41_sizes := by kernel_rfl
theorem F_law41_sizes_ok : FnOk P (gl mx) 17 ⟨[], (.seq), F_law41_sizes⟩ := F_law41_sizes_eq ▸ fnO_ok tau_ok mix (xd_ok _) (E20_ok)
noncomputable def E21 : List (Nat × Ax.Fn) := (17, ⟨[], (.seq), F_law41_sizes⟩) :: E20
theorem E21_ok : EOk P (gl mx) (Ax.look E21) := eok_cons F_law41_sizes_ok E20_ok
def F_law41_BigendBack_T : List (Nat × List (Nat × Nat × Ax.Tm)) := []
theorem F_law41_BigendBack_eq : (fun ds => (fnO tau (gl mx) (xd F_law41_BigendBack_T) (Ax.look E21) 100 4 [.seq, .int .i64, .int .u8] (.bool) ds).run) = F_law41_BigendBack := by kernel_rfl
theorem F_law41_BigendBack_ok : FnOk P (gl mx) 4 ⟨[.seq, .int .i64, .int .u8], (.bool), F_law41_BigendBack⟩ := F_law41_BigendBack_eq ▸ fnO_ok tau_ok mix (xd_ok _) (E21_ok)
noncomputable def E22 : List (Nat × Ax.Fn) := (4, ⟨[.seq, .int .i64, .int .u8], (.bool), F_law41_BigendBack⟩) :: E21
theorem E22_ok : EOk P (gl mx) (Ax.look E22) := eok_cons F_law41_BigendBack_ok E21_ok
def F_law41_BigendRefuses_T : List (Nat × List (Nat × Nat × Ax.Tm)) := [(7, [(27, 2, (⟨[(0, .seq), (20, .seq), (200, .int .i64), (201, .int .i64)], [], 0⟩ : Go.Ax.Tm))])]
theorem F_law41_BigendRefuses_eq : (fun ds => (fnO tau (gl mx) (xd F_law41_BigendRefuses_T) (Ax.look E22) 100 7 [.seq, .int .u32, .int .i64] (.bool) ds).run) = F_law41_BigendRefuses := by kernel_rfl
theorem F_law41_BigendRefuses_ok : FnOk P (gl mx) 7 ⟨[.seq, .int .u32, .int .i64], (.bool), F_law41_BigendRefuses⟩ := F_law41_BigendRefuses_eq ▸ fnO_ok tau_ok mix (xd_ok _) (E22_ok)
noncomputable def E23 : List (Nat × Ax.Fn) := (7, ⟨[.seq, .int .u32, .int .i64], (.bool), F_law41_BigendRefuses⟩) :: E22
theorem E23_ok : EOk P (gl mx) (Ax.look E23) := eok_cons F_law41_BigendRefuses_ok E22_ok
end Go.Proofs.Ytljbgkfoljjgbaa
