/-
  strings.Builder: what its functions do, in the machine's own words.
-/
import Derived.Test.YtcohbcdhcmajiaaDoorAxT
import Derived.Test.YtcohbcdhcmajiaaDoorAx38
import Derived.Lib.Builder
import Derived.Lib.UnsafeStr
import Derived.WalkKit
import Derived.WalkSpells
import Derived.WalkLawsBesides
import Derived.Outline
import Derived.OpenShut
import Derived.IntWalk
import Derived.Laws.Externs
import Derived.Shelf.RegionOpenPlain
namespace Go.Proofs.YtcohbcdhcmajiaaDoor
set_option linter.unusedVariables false
set_option linter.unusedSimpArgs false
open Go.RowKit

theorem builder_info : ∃ j, Tryd.prog.info? 99 = some j ∧ j.size = 2 := Option.map_eq_some_iff.1 (show (Tryd.prog.info? 99).map (·.size) = some 2 from by kernel_rfl)
set_option maxRecDepth 100000 in
set_option maxHeartbeats 2000000 in
theorem copy_used (b : Nat) (w : World) (h0 : w.cell? ⟨b, 0, none⟩ = some (.pointer (some ⟨b, 0, none⟩))) :
    Calls Tryd.prog 101 #[.pointer (some ⟨b, 0, none⟩)] w fun e w' => e = .returned (.tuple #[]) ∧ w' = w := by
  obtain ⟨j, hj, _⟩ := builder_info
  have hne := Lib.run_neq_ptr_same w ⟨b, 0, none⟩ Tryd.underlying97 hj
  go_enter Tryd.func101, Tryd.ntmps101
  go_wp2
  go_end0
  exact ⟨rfl, rfl⟩
set_option maxRecDepth 100000 in
set_option maxHeartbeats 2000000 in
theorem copy_fresh (b : Nat) (w : World) (h0 : w.cell? ⟨b, 0, none⟩ = some (.pointer none)) (hsh : w.shape? b = some (99, 2)) (hfz : w.frozen? ⟨b, 0, none⟩ = false) :
    Calls Tryd.prog 101 #[.pointer (some ⟨b, 0, none⟩)] w fun e w' => e = .returned (.tuple #[]) ∧ w' = w.setCell ⟨b, 0, none⟩ (.pointer (some ⟨b, 0, none⟩)) := by
  obtain ⟨j, hj, hjs⟩ := builder_info
  have h1 := Lib.run_to_unsafe (P := Tryd.prog) w ⟨b, 0, none⟩ Tryd.underlying97 Tryd.underlying152 hj (by rw [hjs]; decide) hsh (Nat.zero_lt_succ 1)
  have h2 := Lib.run_from_unsafe (P := Tryd.prog) w ⟨b, 0, none⟩ Tryd.underlying152 Tryd.underlying97 hj hsh (by kernel_rfl)
  go_enter Tryd.func101, Tryd.ntmps101
  go_wp2
  rw [run_callFunc_extern Tryd.func129 (by kernel_rfl) (by kernel_rfl) (by kernel_rfl) (e := Extern.AbiNoEscape.same) (by kernel_rfl)]
  rw [Lib.run_noEscape]
  simp only [Result.andThen]
  rw [Oper.upon_value]
  go_wp2
  go_end0
  exact ⟨rfl, rfl⟩
theorem copyCheck_rule {P : Program} [IsProg P] {G : Nat → Option (List Ax.AV)} : ∀ args H n Q, Ax.T.prop P G n (Ax.resQ Q) (Ax.ruleCopy 99 args H n) → Ax.CallA P G 101 args H n Q := by
  have h := IsProg.eq (P := P)
  subst h
  exact Ax.copyRule_ok (enters_of Tryd.func101 (by kernel_rfl) rfl) copy_used copy_fresh

set_option maxRecDepth 100000 in
set_option maxHeartbeats 2000000 in
theorem string_nil (b : Nat) (w : World) (h : w.cell? ⟨b, 1, none⟩ = some (.slice none 0 0)) :
    Calls Tryd.prog 68 #[.pointer (some ⟨b, 0, none⟩)] w fun r w' => r = .returned (.string ⟨#[]⟩) ∧ w' = w.drew := by
  have mixed := mix0
  have hUS : ∀ W q, (Builtin.unsafeString_ #[135, 3] 9 #[.pointer q, .int .i64 0]).run Tryd.prog W = .ok (.string .empty) W := fun W q => Lib.run_unsafeString_none W _ _ _ q
  have c1 : w.drew.cell? ⟨b, 1, none⟩ = some (.slice none 0 0) := h
  have hSD : (Builtin.unsafeSliceData_ #[49] 135 #[.slice none 0 0]).run Tryd.prog w.drew = .ok (.pointer none) w.drew := rfl
  go_enter Tryd.func68, Tryd.ntmps68
  go_wp2
  go_region_o
  all_goals (go_wp2; go_ret; exact ⟨rfl, rfl⟩)
set_option maxRecDepth 100000 in
set_option maxHeartbeats 2000000 in
theorem string_room (b g c : Nat) (w : World) (hc : c ≠ 0) (h : w.cell? ⟨b, 1, none⟩ = some (.slice (some ⟨g, 0, none⟩) 0 c)) :
    Calls Tryd.prog 68 #[.pointer (some ⟨b, 0, none⟩)] w fun r w' => r = .returned (.string ⟨#[]⟩) ∧ w' = w.drew := by
  have mixed := mix0
  have hUS : ∀ W q, (Builtin.unsafeString_ #[135, 3] 9 #[.pointer q, .int .i64 0]).run Tryd.prog W = .ok (.string .empty) W := fun W q => Lib.run_unsafeString_none W _ _ _ q
  have c1 : w.drew.cell? ⟨b, 1, none⟩ = some (.slice (some ⟨g, 0, none⟩) 0 c) := h
  have hSD : (Builtin.unsafeSliceData_ #[49] 135 #[.slice (some ⟨g, 0, none⟩) 0 c]).run Tryd.prog w.drew = .ok (.pointer (some ⟨g, 0, none⟩)) w.drew := Lib.run_unsafeSliceData_row _ _ _ _ _ _ hc
  clear hc
  go_enter Tryd.func68, Tryd.ntmps68
  go_wp2
  go_region_o
  all_goals (go_wp2; go_ret; exact ⟨rfl, rfl⟩)
set_option maxRecDepth 100000 in
set_option maxHeartbeats 2000000 in
theorem string_none (b g z : Nat) (w : World) (hb : b < w.heap.size) (hsh : w.shape? g = some (5, z)) (h : w.cell? ⟨b, 1, none⟩ = some (.slice (some ⟨g, 0, none⟩) 0 0)) :
    Calls Tryd.prog 68 #[.pointer (some ⟨b, 0, none⟩)] w fun r w' => r = .returned (.string ⟨#[]⟩) ∧ ∃ o, w' = w.drew.alloc o := by
  have mixed := mix0
  have hUS : ∀ W q, (Builtin.unsafeString_ #[135, 3] 9 #[.pointer q, .int .i64 0]).run Tryd.prog W = .ok (.string .empty) W := fun W q => Lib.run_unsafeString_none W _ _ _ q
  have c1 : w.drew.cell? ⟨b, 1, none⟩ = some (.slice (some ⟨g, 0, none⟩) 0 0) := h
  have hSD : (Builtin.unsafeSliceData_ #[49] 135 #[.slice (some ⟨g, 0, none⟩) 0 0]).run Tryd.prog w.drew = .ok (.pointer (some ⟨w.drew.heap.size, 0, none⟩)) (w.drew.alloc (.view ⟨g, 0, none⟩ 5)) :=
    Lib.run_unsafeSliceData_zero w.drew _ _ 5 Tryd.underlying135 ⟨g, 0, none⟩ 0 (5, z) hsh
  have c2 : (w.drew.alloc (.view ⟨g, 0, none⟩ 5)).cell? ⟨b, 1, none⟩ = some (.slice (some ⟨g, 0, none⟩) 0 0) := by
    rw [← h]
    exact Ax.cell_of_heap ((Ax.Grew.alloc w.drew _).old b hb)
  have c3 : (w.alloc (.view ⟨g, 0, none⟩ 5)).drew.cell? ⟨b, 1, none⟩ = some (.slice (some ⟨g, 0, none⟩) 0 0) := c2
  go_enter Tryd.func68, Tryd.ntmps68
  go_wp2
  go_region_o
  all_goals (go_wp2; go_ret; exact ⟨rfl, _, rfl⟩)
set_option maxRecDepth 100000 in
set_option maxHeartbeats 2000000 in
theorem string_full (b g z c : Nat) (l : List Int) (w : World) (h0 : l ≠ []) (hc : c ≠ 0) (h63 : l.length ≤ 9223372036854775807) (hz : l.length ≤ z) (hsh : w.shape? g = some (5, z)) (h : w.cell? ⟨b, 1, none⟩ = some (.slice (some ⟨g, 0, none⟩) l.length c))
    (hb : ∀ (j : Nat) (x : Int), l[j]? = some x → w.cell? ⟨g, j, none⟩ = some (.int .u8 x)) :
    Calls Tryd.prog 68 #[.pointer (some ⟨b, 0, none⟩)] w fun r w' => r = .returned (.string ⟨(l.map fun n => UInt8.ofNat n.toNat).toArray⟩) ∧ w' = w.drew.freeze ⟨g, 0, none⟩ l.length := by
  have mixed := mix0
  have hUS : (Builtin.unsafeString_ #[135, 3] 9 #[.pointer (some ⟨g, 0, none⟩), .int .i64 l.length]).run Tryd.prog w.drew = .ok (.string ⟨(l.map fun n => UInt8.ofNat n.toNat).toArray⟩) (w.drew.freeze ⟨g, 0, none⟩ l.length) :=
    Ax.run_unsafeInts w.drew _ _ _ 5 Tryd.underlying135 (by kernel_rfl) g z hsh l h0 hz h63 hb
  have c1 : w.drew.cell? ⟨b, 1, none⟩ = some (.slice (some ⟨g, 0, none⟩) l.length c) := h
  have hSD : (Builtin.unsafeSliceData_ #[49] 135 #[.slice (some ⟨g, 0, none⟩) l.length c]).run Tryd.prog w.drew = .ok (.pointer (some ⟨g, 0, none⟩)) w.drew := Lib.run_unsafeSliceData_row _ _ _ _ _ _ hc
  clear hb hsh hz h63 h0 hc h
  generalize hln : (l.map fun n => UInt8.ofNat n.toNat).toArray = arr at hUS ⊢
  go_enter Tryd.func68, Tryd.ntmps68
  go_wp2
  go_region_o
  all_goals (go_wp2; go_ret; exact ⟨rfl, rfl⟩)
theorem builderString_rule {P : Program} [IsProg P] {G : Nat → Option (List Ax.AV)} : ∀ args H n Q, Ax.T.prop P G n (Ax.resQ Q) (Ax.ruleString 99 5 args H n) → Ax.CallA P G 68 args H n Q := by
  have h := IsProg.eq (P := P)
  subst h
  exact Ax.stringRule_ok (enters_of Tryd.func68 (by kernel_rfl) rfl) string_nil string_room string_none string_full
end Go.Proofs.YtcohbcdhcmajiaaDoor
