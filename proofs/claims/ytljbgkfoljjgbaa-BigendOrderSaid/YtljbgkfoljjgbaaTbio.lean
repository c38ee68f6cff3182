/-
  The functions of plain data are what the program's code says.
-/
import Derived.Test.YtljbgkfoljjgbaaAxT
import Derived.Test.YtljbgkfoljjgbaaShelf
import Derived.Test.YtljbgkfoljjgbaaFbio
namespace Go.Proofs.Ytljbgkfoljjgbaa
open Go.Ax
set_option linter.all false
set_option maxRecDepth 100000
set_option maxHeartbeats 4000000
variable {P : Program} [IsProg P]
variable {mx : Int}
def glList (mx : Int) : List (Nat × List AV) := [(0, [.int .i64 (.sym mx)])]
def gl (mx : Int) : Nat → Option (List AV) := Ax.look (glList mx)
noncomputable def E0 : List (Nat × Ax.Fn) := []
omit [IsProg P] in theorem E0_ok : EOk P (gl mx) (Ax.look E0) := eok_nil
def F_bigend_isSize_T : List (Nat × List (Nat × Nat × Ax.Tm)) := []
theorem F_bigend_isSize_eq : (fun ds => (fnO tau (gl mx) (xd F_bigend_isSize_T) (Ax.look E0) 100 19 [.int .i64] (.bool) ds).run) = F_bigend_isSize := by kernel_rfl
theorem F_bigend_isSize_ok : FnOk P (gl mx) 19 ⟨[.int .i64], (.bool), F_bigend_isSize⟩ := F_bigend_isSize_eq ▸ fnO_ok tau_ok mix (xd_ok _) (E0_ok)
noncomputable def E1 : List (Nat × Ax.Fn) := (19, ⟨[.int .i64], (.bool), F_bigend_isSize⟩) :: E0
theorem E1_ok : EOk P (gl mx) (Ax.look E1) := eok_cons F_bigend_isSize_ok E0_ok
def F_bigend_Put_T : List (Nat × List (Nat × Nat × Ax.Tm)) := [(10, [(9, 1, (⟨[(1, .int .i64), (2, .int .i64), (9, .ownS 0 0 1), (33, .int .i64), (34, .int .i64)], [(0, .whole)], 1⟩ : Go.Ax.Tm)), (9, 2, (⟨[(1, .int .i64), (2, .int .i64), (9, .acc 0 1), (33, .int .i64), (34, .int .i64)], [(0, .whole)], 1⟩ : Go.Ax.Tm))])]
theorem F_bigend_Put_eq : (fun ds => (fnO tau (gl mx) (xd F_bigend_Put_T) (Ax.look E1) 100 10 [.seq, .int .i64, .int .i64] (.tuple [.seq, .int .i64]) ds).run) = F_bigend_Put := by kernel_rfl
theorem F_bigend_Put_ok : FnOk P (gl mx) 10 ⟨[.seq, .int .i64, .int .i64], (.tuple [.seq, .int .i64]), F_bigend_Put⟩ := F_bigend_Put_eq ▸ fnO_ok tau_ok mix (xd_ok _) (E1_ok)
noncomputable def E2 : List (Nat × Ax.Fn) := (10, ⟨[.seq, .int .i64, .int .i64], (.tuple [.seq, .int .i64]), F_bigend_Put⟩) :: E1
theorem E2_ok : EOk P (gl mx) (Ax.look E2) := eok_cons F_bigend_Put_ok E1_ok
theorem shelf23 : FnOk P (gl mx) 23 ⟨[.seq, .seq], (.int .i64), bytesCompare⟩ := by
  have h := IsProg.eq (P := P)
  subst h
  exact bytesCompare_ok Try.func23 (by kernel_rfl) (by kernel_rfl) (by kernel_rfl) (by kernel_rfl)
noncomputable def E3 : List (Nat × Ax.Fn) := (23, ⟨[.seq, .seq], (.int .i64), bytesCompare⟩) :: E2
theorem E3_ok : EOk P (gl mx) (Ax.look E3) := eok_cons shelf23 E2_ok
def F_bytes_Compare_T : List (Nat × List (Nat × Nat × Ax.Tm)) := []
theorem F_bytes_Compare_eq : (fun ds => (fnO tau (gl mx) (xd F_bytes_Compare_T) (Ax.look E3) 100 18 [.seq, .seq] (.int .i64) ds).run) = F_bytes_Compare := by kernel_rfl
theorem F_bytes_Compare_ok : FnOk P (gl mx) 18 ⟨[.seq, .seq], (.int .i64), F_bytes_Compare⟩ := F_bytes_Compare_eq ▸ fnO_ok tau_ok mix (xd_ok _) (E3_ok)
noncomputable def E4 : List (Nat × Ax.Fn) := (18, ⟨[.seq, .seq], (.int .i64), F_bytes_Compare⟩) :: E3
theorem E4_ok : EOk P (gl mx) (Ax.look E4) := eok_cons F_bytes_Compare_ok E3_ok
def F_bytes_Equal_T : List (Nat × List (Nat × Nat × Ax.Tm)) := []
theorem F_bytes_Equal_eq : (fun ds => (fnO tau (gl mx) (xd F_bytes_Equal_T) (Ax.look E4) 100 16 [.seq, .seq] (.bool) ds).run) = F_bytes_Equal := by kernel_rfl
theorem F_bytes_Equal_ok : FnOk P (gl mx) 16 ⟨[.seq, .seq], (.bool), F_bytes_Equal⟩ := F_bytes_Equal_eq ▸ fnO_ok tau_ok mix (xd_ok _) (E4_ok)
noncomputable def E5 : List (Nat × Ax.Fn) := (16, ⟨[.seq, .seq], (.bool), F_bytes_Equal⟩) :: E4
theorem E5_ok : EOk P (gl mx) (Ax.look E5) := eok_cons F_bytes_Equal_ok E4_ok
def F_bigend_inside_T : List (Nat × List (Nat × Nat × Ax.Tm)) := []
theorem F_bigend_inside_eq : (fun ds => (fnO tau (gl mx) (xd F_bigend_inside_T) (Ax.look E5) 100 21 [.seq, .int .i64, .int .i64] (.bool) ds).run) = F_bigend_inside := by kernel_rfl
theorem F_bigend_inside_ok : FnOk P (gl mx) 21 ⟨[.seq, .int .i64, .int .i64], (.bool), F_bigend_inside⟩ := F_bigend_inside_eq ▸ fnO_ok tau_ok mix (xd_ok _) (E5_ok)
noncomputable def E6 : List (Nat × Ax.Fn) := (21, ⟨[.seq, .int .i64, .int .i64], (.bool), F_bigend_inside⟩) :: E5
theorem E6_ok : EOk P (gl mx) (Ax.look E6) := eok_cons F_bigend_inside_ok E5_ok
def F_bigend_Get_T : List (Nat × List (Nat × Nat × Ax.Tm)) := [(12, [(7, 0, (⟨[(0, .seq), (1, .int .i64), (2, .int .i64), (8, .int .i64), (9, .int .i64)], [], 0⟩ : Go.Ax.Tm))])]
theorem F_bigend_Get_eq : (fun ds => (fnO tau (gl mx) (xd F_bigend_Get_T) (Ax.look E6) 100 12 [.seq, .int .i64, .int .i64] (.tuple [.int .i64, .int .i64]) ds).run) = F_bigend_Get := by kernel_rfl
theorem F_bigend_Get_ok : FnOk P (gl mx) 12 ⟨[.seq, .int .i64, .int .i64], (.tuple [.int .i64, .int .i64]), F_bigend_Get⟩ := F_bigend_Get_eq ▸ fnO_ok tau_ok mix (xd_ok _) (E6_ok)
noncomputable def E7 : List (Nat × Ax.Fn) := (12, ⟨[.seq, .int .i64, .int .i64], (.tuple [.int .i64, .int .i64]), F_bigend_Get⟩) :: E6
theorem E7_ok : EOk P (gl mx) (Ax.look E7) := eok_cons F_bigend_Get_ok E6_ok
def F_slices_Clonebyte_byte__nil_T : List (Nat × List (Nat × Nat × Ax.Tm)) := []
theorem F_slices_Clonebyte_byte__nil_eq : (fun ds => (fnO tau (gl mx) (xd F_slices_Clonebyte_byte__nil_T) (Ax.look E7) 100 22 [.nil] (.seq) ds).run) = F_slices_Clonebyte_byte__nil := by kernel_rfl
theorem F_slices_Clonebyte_byte__nil_ok : FnOk P (gl mx) 22 ⟨[.nil], (.seq), F_slices_Clonebyte_byte__nil⟩ := F_slices_Clonebyte_byte__nil_eq ▸ fnO_ok tau_ok mix (xd_ok _) (E7_ok)
noncomputable def E8 : List (Nat × Ax.Fn) := (22, ⟨[.nil], (.seq), F_slices_Clonebyte_byte__nil⟩) :: E7
theorem E8_ok : EOk P (gl mx) (Ax.look E8) := eok_cons F_slices_Clonebyte_byte__nil_ok E7_ok
def F_slices_Clonebyte_byte__empty_T : List (Nat × List (Nat × Nat × Ax.Tm)) := []
theorem F_slices_Clonebyte_byte__empty_eq : (fun ds => (fnO tau (gl mx) (xd F_slices_Clonebyte_byte__empty_T) (Ax.look E8) 100 22 [.empty] (.seq) ds).run) = F_slices_Clonebyte_byte__empty := by kernel_rfl
theorem F_slices_Clonebyte_byte__empty_ok : FnOk P (gl mx) 22 ⟨[.empty], (.seq), F_slices_Clonebyte_byte__empty⟩ := F_slices_Clonebyte_byte__empty_eq ▸ fnO_ok tau_ok mix (xd_ok _) (E8_ok)
noncomputable def E9 : List (Nat × Ax.Fn) := (22, ⟨[.empty], (.seq), F_slices_Clonebyte_byte__empty⟩) :: E8
theorem E9_ok : EOk P (gl mx) (Ax.look E9) := eok_cons F_slices_Clonebyte_byte__empty_ok E8_ok
def F_slices_Clonebyte_byte__list_T : List (Nat × List (Nat × Nat × Ax.Tm)) := []
theorem F_slices_Clonebyte_byte__list_eq : (fun ds => (fnO tau (gl mx) (xd F_slices_Clonebyte_byte__list_T) (Ax.look E9) 100 22 [.list] (.seq) ds).run) = F_slices_Clonebyte_byte__list := by kernel_rfl
theorem F_slices_Clonebyte_byte__list_ok : FnOk P (gl mx) 22 ⟨[.list], (.seq), F_slices_Clonebyte_byte__list⟩ := F_slices_Clonebyte_byte__list_eq ▸ fnO_ok tau_ok mix (xd_ok _) (E9_ok)
noncomputable def E10 : List (Nat × Ax.Fn) := (22, ⟨[.list], (.seq), F_slices_Clonebyte_byte__list⟩) :: E9
theorem E10_ok : EOk P (gl mx) (Ax.look E10) := eok_cons F_slices_Clonebyte_byte__list_ok E9_ok
theorem F_slices_Clonebyte_byte__ok : FnOk P (gl mx) 22 ⟨[.seq], (.seq), F_slices_Clonebyte_byte_⟩ := FnOk.seq3 (rest := []) F_slices_Clonebyte_byte__nil_ok F_slices_Clonebyte_byte__empty_ok F_slices_Clonebyte_byte__list_ok (fun ds => by rfl) (fun ds => by rfl)
noncomputable def E11 : List (Nat × Ax.Fn) := (22, ⟨[.seq], (.seq), F_slices_Clonebyte_byte_⟩) :: E10
theorem E11_ok : EOk P (gl mx) (Ax.look E11) := eok_cons F_slices_Clonebyte_byte__ok E10_ok
def F_bigend_Bytes_T : List (Nat × List (Nat × Nat × Ax.Tm)) := []
theorem F_bigend_Bytes_eq : (fun ds => (fnO tau (gl mx) (xd F_bigend_Bytes_T) (Ax.look E11) 100 14 [.seq, .int .i64, .int .i64] (.tuple [.seq, .int .i64]) ds).run) = F_bigend_Bytes := by kernel_rfl
theorem F_bigend_Bytes_ok : FnOk P (gl mx) 14 ⟨[.seq, .int .i64, .int .i64], (.tuple [.seq, .int .i64]), F_bigend_Bytes⟩ := F_bigend_Bytes_eq ▸ fnO_ok tau_ok mix (xd_ok _) (E11_ok)
noncomputable def E12 : List (Nat × Ax.Fn) := (14, ⟨[.seq, .int .i64, .int .i64], (.tuple [.seq, .int .i64]), F_bigend_Bytes⟩) :: E11
theorem E12_ok : EOk P (gl mx) (Ax.look E12) := eok_cons F_bigend_Bytes_ok E11_ok
theorem F_law41_works_eq : (fun ds => (fnO tau (gl mx) (xd []) (Ax.look E12) 3000 8 [] (.bool) ds).run) = F_law41_works := by kernel_rfl
theorem F_law41_works_ok : FnOk P (gl mx) 8 ⟨[], (.bool), F_law41_works⟩ := F_law41_works_eq ▸ fnO_ok tau_ok mix (xd_ok _) (E12_ok)
noncomputable def E13 : List (Nat × Ax.Fn) := (8, ⟨[], (.bool), F_law41_works⟩) :: E12
theorem E13_ok : EOk P (gl mx) (Ax.look E13) := eok_cons F_law41_works_ok E12_ok
def F_law41_BigendOrder_T : List (Nat × List (Nat × Nat × Ax.Tm)) := []
theorem F_law41_BigendOrder_eq : (fun ds => (fnO tau (gl mx) (xd F_law41_BigendOrder_T) (Ax.look E13) 100 6 [.int .i64, .int .i64] (.bool) ds).run) = F_law41_BigendOrder := by kernel_rfl
theorem F_law41_BigendOrder_ok : FnOk P (gl mx) 6 ⟨[.int .i64, .int .i64], (.bool), F_law41_BigendOrder⟩ := F_law41_BigendOrder_eq ▸ fnO_ok tau_ok mix (xd_ok _) (E13_ok)
noncomputable def E14 : List (Nat × Ax.Fn) := (6, ⟨[.int .i64, .int .i64], (.bool), F_law41_BigendOrder⟩) :: E13
theorem E14_ok : EOk P (gl mx) (Ax.look E14) := eok_cons F_law41_BigendOrder_ok E13_ok
end Go.Proofs.Ytljbgkfoljjgbaa
