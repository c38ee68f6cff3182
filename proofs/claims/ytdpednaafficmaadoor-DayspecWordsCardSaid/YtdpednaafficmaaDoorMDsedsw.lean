/-
  Days as text: weekdays of any length, in letters of any size.
-/
import Derived.Test.YtdpednaafficmaaDoorMDswdsw
import Derived.Test.YtdpednaafficmaaDoorTdsw
namespace Go.Proofs.YtdpednaafficmaaDoor
open Go.Ax Go.Lib
set_option linter.all false
set_option maxHeartbeats 4000000
set_option maxRecDepth 100000
attribute [local congr] cond_cong bind_cong onI_cong onB_cong onS_cong onN_cong onL_cong

def wk : List (List UInt8) := [[115, 117, 110, 100, 97, 121], [109, 111, 110, 100, 97, 121], [116, 117, 101, 115, 100, 97, 121], [119, 101, 100, 110, 101, 115, 100, 97, 121], [116, 104, 117, 114, 115, 100, 97, 121], [102, 114, 105, 100, 97, 121], [115, 97, 116, 117, 114, 100, 97, 121]]
def lst : List Int := [2, 1, 2, 1, 2, 1, 2]
theorem wk_at {j : Nat} (hj : j < 7) : asS ([(AV.str (.lit ([115, 117, 110, 100, 97, 121] : List UInt8))), (AV.str (.lit ([109, 111, 110, 100, 97, 121] : List UInt8))), (AV.str (.lit ([116, 117, 101, 115, 100, 97, 121] : List UInt8))), (AV.str (.lit ([119, 101, 100, 110, 101, 115, 100, 97, 121] : List UInt8))), (AV.str (.lit ([116, 104, 117, 114, 115, 100, 97, 121] : List UInt8))), (AV.str (.lit ([102, 114, 105, 100, 97, 121] : List UInt8))), (AV.str (.lit ([115, 97, 116, 117, 114, 100, 97, 121] : List UInt8)))])[j]? = some (wk.getD j []) := by
  have hj' : j = 0 ∨ j = 1 ∨ j = 2 ∨ j = 3 ∨ j = 4 ∨ j = 5 ∨ j = 6 := by omega
  rcases hj' with rfl | rfl | rfl | rfl | rfl | rfl | rfl <;> rfl
theorem lst_at {j : Nat} (hj : j < 7) : asI .i64 ([(AV.int .i64 (.lit 2)), (AV.int .i64 (.lit 1)), (AV.int .i64 (.lit 2)), (AV.int .i64 (.lit 1)), (AV.int .i64 (.lit 2)), (AV.int .i64 (.lit 1)), (AV.int .i64 (.lit 2))])[j]? = some (lst.getD j 0) := by
  have hj' : j = 0 ∨ j = 1 ∨ j = 2 ∨ j = 3 ∨ j = 4 ∨ j = 5 ∨ j = 6 := by omega
  rcases hj' with rfl | rfl | rfl | rfl | rfl | rfl | rfl <;> rfl

/-- A beginning of a weekday means it. -/
noncomputable def begB (j n : Nat) : Bool := decide ((n : Int) < lst.getD j 0) || (decide ((wk.getD j []).length < n) || (match F_word_Week [.s ((wk.getD j []).take n)] with
  | some [.i x, .i e] => decide (x = (j : Int)) && decide (e = 0)
  | _ => false))
theorem begs : ((List.range 7).all fun j => (List.range 10).all fun n => begB j n) = true := by kernel_rfl
theorem beg_at {j n : Nat} (hj : j < 7) (h1 : lst.getD j 0 ≤ (n : Int)) (h2 : n ≤ (wk.getD j []).length) (h3 : n < 10) : F_word_Week [.s ((wk.getD j []).take n)] = some [.i (j : Int), .i 0] := by
  have h := List.all_eq_true.1 (List.all_eq_true.1 begs j (List.mem_range.2 hj)) n (List.mem_range.2 h3)
  unfold begB at h
  rw [decide_eq_false (by omega), decide_eq_false (by omega), Bool.false_or, Bool.false_or] at h
  split at h
  · rename_i x e hh
    rw [Bool.and_eq_true] at h
    rw [hh, of_decide_eq_true h.1, of_decide_eq_true h.2]
  · cases h
/-- Weekdays' words. -/
def okB (b : UInt8) : Bool := (u7 b && u7 (upperB b)) && (!([60, 62] : List UInt8).contains b && !([60, 62] : List UInt8).contains (upperB b))
theorem wk_facts {j : Nat} (hj : j < 7) : 6 ≤ (wk.getD j []).length ∧ (wk.getD j []).length ≤ 9 ∧ (wk.getD j []).all okB = true ∧ 1 ≤ lst.getD j 0 ∧ lst.getD j 0 ≤ 2 := by
  have hj' : j = 0 ∨ j = 1 ∨ j = 2 ∨ j = 3 ∨ j = 4 ∨ j = 5 ∨ j = 6 := by omega
  rcases hj' with rfl | rfl | rfl | rfl | rfl | rfl | rfl <;> decide +kernel
/-- One letter is too few where two days begin with it. -/
noncomputable def fewB (j : Nat) : Bool := decide (lst.getD j 0 ≠ 2) || (match F_dayspec_Parse [.s (([108, 97, 115, 116] : List UInt8) ++ (wk.getD j []).take 1)] with
  | some [.i a, .i b, .i c, .i e] => decide (a = 0) && (decide (b = 0) && (decide (c = 0) && decide (e = 8)))
  | _ => false)
theorem fews : ((List.range 7).all fewB) = true := by kernel_rfl
theorem few_at {j : Nat} (hj : j < 7) (h2 : lst.getD j 0 = 2) : F_dayspec_Parse [.s (([108, 97, 115, 116] : List UInt8) ++ (wk.getD j []).take 1)] = some [.i 0, .i 0, .i 0, .i 8] := by
  have h := List.all_eq_true.1 fews j (List.mem_range.2 hj)
  unfold fewB at h
  rw [decide_eq_false (by simpa using h2), Bool.false_or] at h
  split at h
  · rename_i a b c e hh
    rw [Bool.and_eq_true, Bool.and_eq_true, Bool.and_eq_true] at h
    obtain ⟨h1, h2, h3, h4⟩ := h
    rw [hh, of_decide_eq_true h1, of_decide_eq_true h2, of_decide_eq_true h3, of_decide_eq_true h4]
  · cases h
/-- The number of a day. -/
noncomputable def numB (y : Nat) : Bool :=
  match Ax.bytesOf [(Ax.AV.int .u8 (Ax.I.sym (u8 (i64 (48 + (i64 (Int.tdiv (y : Int) 10))))))), (Ax.AV.int .u8 (Ax.I.sym (u8 (i64 (48 + (Int.tmod (y : Int) 10))))))] with
  | some s1 => decide (s1.length = 2) && (match F_strings_TrimPrefix [.s (([48] : List UInt8) ++ s1), .s [48]] with
    | some [.s s2] => (match F_strings_TrimPrefix [.s s2, .s [48]] with
      | some [.s s3] => decide (s3.length ≤ 3) && (s3.all (fun b => okB b && upperB b == b) && (decide (y = 0) || (match F_dayspec_dayNumber [.s s3] with
        | some [.i d, .i e] => decide (d = (y : Int)) && decide (e = 0)
        | _ => false)))
      | _ => false)
    | _ => false)
  | none => false
theorem nums : ((List.range 32).all numB) = true := by kernel_rfl
theorem num_at {y : Nat} (hy : y < 32) : ∃ s1 s2 s3 : List UInt8, Ax.bytesOf [(Ax.AV.int .u8 (Ax.I.sym (u8 (i64 (48 + (i64 (Int.tdiv (y : Int) 10))))))), (Ax.AV.int .u8 (Ax.I.sym (u8 (i64 (48 + (Int.tmod (y : Int) 10))))))] = some s1 ∧ s1.length = 2 ∧
    F_strings_TrimPrefix [.s (([48] : List UInt8) ++ s1), .s [48]] = some [.s s2] ∧ F_strings_TrimPrefix [.s s2, .s [48]] = some [.s s3] ∧ s3.length ≤ 3 ∧ s3.all (fun b => okB b && upperB b == b) = true ∧ (y ≠ 0 → F_dayspec_dayNumber [.s s3] = some [.i (y : Int), .i 0]) := by
  have h := List.all_eq_true.1 nums y (List.mem_range.2 hy)
  unfold numB at h
  split at h
  · rename_i s1 h1
    rw [Bool.and_eq_true] at h
    obtain ⟨a1, h⟩ := h
    split at h
    · rename_i s2 h2
      split at h
      · rename_i s3 h3
        rw [Bool.and_eq_true, Bool.and_eq_true] at h
        obtain ⟨a2, a3, h⟩ := h
        refine ⟨s1, s2, s3, h1, of_decide_eq_true a1, h2, h3, of_decide_eq_true a2, a3, fun hy0 => ?_⟩
        rw [decide_eq_false hy0, Bool.false_or] at h
        split at h
        · rename_i d e hh
          rw [Bool.and_eq_true] at h
          rw [hh, of_decide_eq_true h.1, of_decide_eq_true h.2]
        · cases h
      · cases h
    · cases h
  · cases h
end Go.Proofs.YtdpednaafficmaaDoor
