/-
  Day forms: which day they mean.
-/
import Derived.Test.YtljbgkfoljjgbaaDoorMCivilday
namespace Go.Proofs.YtljbgkfoljjgbaaDoor
open Go.Ax Go.Lib
set_option linter.all false
set_option maxHeartbeats 4000000
attribute [local congr] cond_cong bind_cong onI_cong onB_cong onS_cong onN_cong onL_cong

theorem kinds_at : F_dayform_kinds [] = some [.b false, .b false, .b false, .b true, .b true, .b false, .b true, .b true, .b true, .b true] := by kernel_rfl
theorem dayOf_at {a b d x : Int} (hd : -4000000000 ≤ d ∧ d ≤ 4000000000) (hx : -2000000000000000000 ≤ x ∧ x ≤ 2000000000000000000) : F_dayform_dayOf [.i a, .i b, .i d, .i x] = some [.i (x + d - 1)] := by
  unfold F_dayform_dayOf
  simp (disch := omega) only [onI_c, onS_c, onB_c, onN_c, onL_c, Option.bind_some, Option.map_some, cond_true, cond_false, ↓onI_c, ↓onS_c, ↓onB_c, ↓onN_c, ↓onL_c, ↓Option.bind_some, ↓cond_true, ↓cond_false, decide_eq_true, decide_eq_false, Bool.not_true, Bool.not_false, Int.toNat_natCast, List.length_append, List.length_cons, List.length_nil, List.drop_zero, Nat.zero_add, Nat.add_zero, decT, decF, bneI_t, bneI_f, i64_in]
theorem back_at {w x : Int} (hw : 0 ≤ w ∧ w ≤ 6) (hx : -2000000000000000000 ≤ x ∧ x ≤ 2000000000000000000) : F_dayform_back [.i w, .i x] = some [.i ((x + 4 - w) % 7)] := by
  unfold F_dayform_back
  have := Int.emod_nonneg (x + 4) (b := 7) (by omega)
  have := Int.emod_lt_of_pos (x + 4) (b := 7) (by omega)
  simp (disch := omega) only [onI_c, onS_c, onB_c, onN_c, onL_c, Option.bind_some, Option.map_some, cond_true, cond_false, ↓onI_c, ↓onS_c, ↓onB_c, ↓onN_c, ↓onL_c, ↓Option.bind_some, ↓cond_true, ↓cond_false, decide_eq_true, decide_eq_false, Bool.not_true, Bool.not_false, Int.toNat_natCast, List.length_append, List.length_cons, List.length_nil, List.drop_zero, Nat.zero_add, Nat.add_zero, decT, decF, bneI_t, bneI_f, weekday_at, i64_in, tmod_nn]
  simp <;> omega
theorem on_fixed {y m d : Int} (hy : -2000000000 ≤ y ∧ y ≤ 2000000000) (hm : 1 ≤ m ∧ m ≤ 12) (hd : 1 ≤ d ∧ d ≤ 31) : F_dayform_On [.i y, .i m, .i 1, .i 0, .i d] = some (if ln y m < d then [.i 0, .i 4] else [.i (dn y m 1 + d - 1), .i 0]) := by
  have hl := ln_bound y m
  have hb := dn_bound (m := m) (d := 1) hy (by omega)
  unfold F_dayform_On
  by_cases h : ln y m < d
  · rw [if_pos h]
    simp (disch := omega) only [onI_c, onS_c, onB_c, onN_c, onL_c, Option.bind_some, Option.map_some, cond_true, cond_false, ↓onI_c, ↓onS_c, ↓onB_c, ↓onN_c, ↓onL_c, ↓Option.bind_some, ↓cond_true, ↓cond_false, decide_eq_true, decide_eq_false, Bool.not_true, Bool.not_false, Int.toNat_natCast, List.length_append, List.length_cons, List.length_nil, List.drop_zero, Nat.zero_add, Nat.add_zero, decT, decF, bneI_t, bneI_f, kinds_at, days_at, len_at, dayOf_at, back_at]
  · rw [if_neg h]
    simp (disch := omega) only [onI_c, onS_c, onB_c, onN_c, onL_c, Option.bind_some, Option.map_some, cond_true, cond_false, ↓onI_c, ↓onS_c, ↓onB_c, ↓onN_c, ↓onL_c, ↓Option.bind_some, ↓cond_true, ↓cond_false, decide_eq_true, decide_eq_false, Bool.not_true, Bool.not_false, Int.toNat_natCast, List.length_append, List.length_cons, List.length_nil, List.drop_zero, Nat.zero_add, Nat.add_zero, decT, decF, bneI_t, bneI_f, kinds_at, days_at, len_at, dayOf_at, back_at]
theorem on_last {y m w : Int} (hy : -2000000000 ≤ y ∧ y ≤ 2000000000) (hm : 1 ≤ m ∧ m ≤ 12) (hw : 0 ≤ w ∧ w ≤ 6) : F_dayform_On [.i y, .i m, .i 2, .i w, .i 0] = some [.i (dn y m 1 + ln y m - 1 - (dn y m 1 + ln y m - 1 + 4 - w) % 7), .i 0] := by
  have hl := ln_bound y m
  have hb := dn_bound (m := m) (d := 1) hy (by omega)
  unfold F_dayform_On
  simp (disch := omega) only [onI_c, onS_c, onB_c, onN_c, onL_c, Option.bind_some, Option.map_some, cond_true, cond_false, ↓onI_c, ↓onS_c, ↓onB_c, ↓onN_c, ↓onL_c, ↓Option.bind_some, ↓cond_true, ↓cond_false, decide_eq_true, decide_eq_false, Bool.not_true, Bool.not_false, Int.toNat_natCast, List.length_append, List.length_cons, List.length_nil, List.drop_zero, Nat.zero_add, Nat.add_zero, decT, decF, bneI_t, bneI_f, kinds_at, days_at, len_at, dayOf_at, back_at, i64_in]
theorem on_from {y m w d : Int} (hy : -2000000000 ≤ y ∧ y ≤ 2000000000) (hm : 1 ≤ m ∧ m ≤ 12) (hw : 0 ≤ w ∧ w ≤ 6) (hd : 1 ≤ d ∧ d ≤ 31) : F_dayform_On [.i y, .i m, .i 3, .i w, .i d] = some (if ln y m < d then [.i 0, .i 4] else [.i (dn y m 1 + d - 1 + 6 - (dn y m 1 + d - 1 + 6 + 4 - w) % 7), .i 0]) := by
  have hl := ln_bound y m
  have hb := dn_bound (m := m) (d := 1) hy (by omega)
  unfold F_dayform_On
  by_cases h : ln y m < d
  · rw [if_pos h]
    simp (disch := omega) only [onI_c, onS_c, onB_c, onN_c, onL_c, Option.bind_some, Option.map_some, cond_true, cond_false, ↓onI_c, ↓onS_c, ↓onB_c, ↓onN_c, ↓onL_c, ↓Option.bind_some, ↓cond_true, ↓cond_false, decide_eq_true, decide_eq_false, Bool.not_true, Bool.not_false, Int.toNat_natCast, List.length_append, List.length_cons, List.length_nil, List.drop_zero, Nat.zero_add, Nat.add_zero, decT, decF, bneI_t, bneI_f, kinds_at, days_at, len_at, dayOf_at, back_at, i64_in]
  · rw [if_neg h]
    simp (disch := omega) only [onI_c, onS_c, onB_c, onN_c, onL_c, Option.bind_some, Option.map_some, cond_true, cond_false, ↓onI_c, ↓onS_c, ↓onB_c, ↓onN_c, ↓onL_c, ↓Option.bind_some, ↓cond_true, ↓cond_false, decide_eq_true, decide_eq_false, Bool.not_true, Bool.not_false, Int.toNat_natCast, List.length_append, List.length_cons, List.length_nil, List.drop_zero, Nat.zero_add, Nat.add_zero, decT, decF, bneI_t, bneI_f, kinds_at, days_at, len_at, dayOf_at, back_at, i64_in]
theorem on_to {y m w d : Int} (hy : -2000000000 ≤ y ∧ y ≤ 2000000000) (hm : 1 ≤ m ∧ m ≤ 12) (hw : 0 ≤ w ∧ w ≤ 6) (hd : 1 ≤ d ∧ d ≤ 31) : F_dayform_On [.i y, .i m, .i 4, .i w, .i d] = some (if ln y m < d then [.i 0, .i 4] else [.i (dn y m 1 + d - 1 - (dn y m 1 + d - 1 + 4 - w) % 7), .i 0]) := by
  have hl := ln_bound y m
  have hb := dn_bound (m := m) (d := 1) hy (by omega)
  unfold F_dayform_On
  by_cases h : ln y m < d
  · rw [if_pos h]
    simp (disch := omega) only [onI_c, onS_c, onB_c, onN_c, onL_c, Option.bind_some, Option.map_some, cond_true, cond_false, ↓onI_c, ↓onS_c, ↓onB_c, ↓onN_c, ↓onL_c, ↓Option.bind_some, ↓cond_true, ↓cond_false, decide_eq_true, decide_eq_false, Bool.not_true, Bool.not_false, Int.toNat_natCast, List.length_append, List.length_cons, List.length_nil, List.drop_zero, Nat.zero_add, Nat.add_zero, decT, decF, bneI_t, bneI_f, kinds_at, days_at, len_at, dayOf_at, back_at, i64_in]
  · rw [if_neg h]
    simp (disch := omega) only [onI_c, onS_c, onB_c, onN_c, onL_c, Option.bind_some, Option.map_some, cond_true, cond_false, ↓onI_c, ↓onS_c, ↓onB_c, ↓onN_c, ↓onL_c, ↓Option.bind_some, ↓cond_true, ↓cond_false, decide_eq_true, decide_eq_false, Bool.not_true, Bool.not_false, Int.toNat_natCast, List.length_append, List.length_cons, List.length_nil, List.drop_zero, Nat.zero_add, Nat.add_zero, decT, decF, bneI_t, bneI_f, kinds_at, days_at, len_at, dayOf_at, back_at, i64_in]

/-- A form that isn't right. -/
def Bad (k w d : Int) : Prop := k < 1 ∨ 4 < k ∨ (k = 1 ∧ w ≠ 0) ∨ (k = 1 ∧ w = 0 ∧ d < 1) ∨ (k = 1 ∧ w = 0 ∧ 31 < d) ∨ (k = 2 ∧ w < 0) ∨ (k = 2 ∧ 6 < w) ∨ (k = 2 ∧ 0 ≤ w ∧ w ≤ 6 ∧ d ≠ 0) ∨
  (k = 3 ∧ w < 0) ∨ (k = 3 ∧ 6 < w) ∨ (k = 3 ∧ 0 ≤ w ∧ w ≤ 6 ∧ d < 1) ∨ (k = 3 ∧ 0 ≤ w ∧ w ≤ 6 ∧ 31 < d) ∨ (k = 4 ∧ w < 0) ∨ (k = 4 ∧ 6 < w) ∨ (k = 4 ∧ 0 ≤ w ∧ w ≤ 6 ∧ d < 1) ∨ (k = 4 ∧ 0 ≤ w ∧ w ≤ 6 ∧ 31 < d)
theorem check_bad {k w d : Int} (h : Bad k w d) : F_dayform_Check [.i k, .i w, .i d] = some [.i 2] := by
  unfold F_dayform_Check
  rcases h with h | h | ⟨rfl, h⟩ | ⟨rfl, rfl, h⟩ | ⟨rfl, rfl, h⟩ | ⟨rfl, h⟩ | ⟨rfl, h⟩ | ⟨rfl, h0, h6, h⟩ | ⟨rfl, h⟩ | ⟨rfl, h⟩ | ⟨rfl, h0, h6, h⟩ | ⟨rfl, h0, h6, h⟩ | ⟨rfl, h⟩ | ⟨rfl, h⟩ | ⟨rfl, h0, h6, h⟩ | ⟨rfl, h0, h6, h⟩
  · simp (disch := omega) only [onI_c, onS_c, onB_c, onN_c, onL_c, Option.bind_some, Option.map_some, cond_true, cond_false, ↓onI_c, ↓onS_c, ↓onB_c, ↓onN_c, ↓onL_c, ↓Option.bind_some, ↓cond_true, ↓cond_false, decide_eq_true, decide_eq_false, Bool.not_true, Bool.not_false, Int.toNat_natCast, List.length_append, List.length_cons, List.length_nil, List.drop_zero, Nat.zero_add, Nat.add_zero, decT, decF, bneI_t, bneI_f, kinds_at]
  · by_cases h1 : k < 1
    · omega
    · simp (disch := omega) only [onI_c, onS_c, onB_c, onN_c, onL_c, Option.bind_some, Option.map_some, cond_true, cond_false, ↓onI_c, ↓onS_c, ↓onB_c, ↓onN_c, ↓onL_c, ↓Option.bind_some, ↓cond_true, ↓cond_false, decide_eq_true, decide_eq_false, Bool.not_true, Bool.not_false, Int.toNat_natCast, List.length_append, List.length_cons, List.length_nil, List.drop_zero, Nat.zero_add, Nat.add_zero, decT, decF, bneI_t, bneI_f, kinds_at]
  all_goals simp (disch := omega) only [onI_c, onS_c, onB_c, onN_c, onL_c, Option.bind_some, Option.map_some, cond_true, cond_false, ↓onI_c, ↓onS_c, ↓onB_c, ↓onN_c, ↓onL_c, ↓Option.bind_some, ↓cond_true, ↓cond_false, decide_eq_true, decide_eq_false, Bool.not_true, Bool.not_false, Int.toNat_natCast, List.length_append, List.length_cons, List.length_nil, List.drop_zero, Nat.zero_add, Nat.add_zero, decT, decF, bneI_t, bneI_f, kinds_at]
theorem on_bad {y m k w d : Int} (hy : -2000000000 ≤ y ∧ y ≤ 2000000000) (hm : 1 ≤ m ∧ m ≤ 12) (h : Bad k w d) : F_dayform_On [.i y, .i m, .i k, .i w, .i d] = some [.i 0, .i 2] := by
  have hl := ln_bound y m
  have hd := days_at (d := 1) hy hm (by omega)
  have hb := dn_bound (m := m) (d := 1) hy (by omega)
  generalize dn y m 1 = D at *
  unfold F_dayform_On
  clear hl hb
  rcases h with h | h | ⟨rfl, h⟩ | ⟨rfl, rfl, h⟩ | ⟨rfl, rfl, h⟩ | ⟨rfl, h⟩ | ⟨rfl, h⟩ | ⟨rfl, h0, h6, h⟩ | ⟨rfl, h⟩ | ⟨rfl, h⟩ | ⟨rfl, h0, h6, h⟩ | ⟨rfl, h0, h6, h⟩ | ⟨rfl, h⟩ | ⟨rfl, h⟩ | ⟨rfl, h0, h6, h⟩ | ⟨rfl, h0, h6, h⟩
  · simp (disch := omega) only [onI_c, onS_c, onB_c, onN_c, onL_c, Option.bind_some, Option.map_some, cond_true, cond_false, ↓onI_c, ↓onS_c, ↓onB_c, ↓onN_c, ↓onL_c, ↓Option.bind_some, ↓cond_true, ↓cond_false, decide_eq_true, decide_eq_false, Bool.not_true, Bool.not_false, Int.toNat_natCast, List.length_append, List.length_cons, List.length_nil, List.drop_zero, Nat.zero_add, Nat.add_zero, decT, decF, bneI_t, bneI_f, kinds_at, hd]
  · by_cases h1 : k < 1
    · omega
    · simp (disch := omega) only [onI_c, onS_c, onB_c, onN_c, onL_c, Option.bind_some, Option.map_some, cond_true, cond_false, ↓onI_c, ↓onS_c, ↓onB_c, ↓onN_c, ↓onL_c, ↓Option.bind_some, ↓cond_true, ↓cond_false, decide_eq_true, decide_eq_false, Bool.not_true, Bool.not_false, Int.toNat_natCast, List.length_append, List.length_cons, List.length_nil, List.drop_zero, Nat.zero_add, Nat.add_zero, decT, decF, bneI_t, bneI_f, kinds_at, hd]
  all_goals simp (disch := omega) only [onI_c, onS_c, onB_c, onN_c, onL_c, Option.bind_some, Option.map_some, cond_true, cond_false, ↓onI_c, ↓onS_c, ↓onB_c, ↓onN_c, ↓onL_c, ↓Option.bind_some, ↓cond_true, ↓cond_false, decide_eq_true, decide_eq_false, Bool.not_true, Bool.not_false, Int.toNat_natCast, List.length_append, List.length_cons, List.length_nil, List.drop_zero, Nat.zero_add, Nat.add_zero, decT, decF, bneI_t, bneI_f, kinds_at, hd]
theorem on_range {y m k w d : Int} (h : F_civil_Days [.i y, .i m, .i 1] = some [.i 0, .i 3]) : F_dayform_On [.i y, .i m, .i k, .i w, .i d] = some [.i 0, .i 3] := by
  unfold F_dayform_On
  simp (disch := omega) only [onI_c, onS_c, onB_c, onN_c, onL_c, Option.bind_some, Option.map_some, cond_true, cond_false, ↓onI_c, ↓onS_c, ↓onB_c, ↓onN_c, ↓onL_c, ↓Option.bind_some, ↓cond_true, ↓cond_false, decide_eq_true, decide_eq_false, Bool.not_true, Bool.not_false, Int.toNat_natCast, List.length_append, List.length_cons, List.length_nil, List.drop_zero, Nat.zero_add, Nat.add_zero, decT, decF, bneI_t, bneI_f, h]
theorem check_fixed {d : Int} (hd : 1 ≤ d ∧ d ≤ 31) : F_dayform_Check [.i 1, .i 0, .i d] = some [.i 0] := by
  unfold F_dayform_Check
  simp (disch := omega) only [onI_c, onS_c, onB_c, onN_c, onL_c, Option.bind_some, Option.map_some, cond_true, cond_false, ↓onI_c, ↓onS_c, ↓onB_c, ↓onN_c, ↓onL_c, ↓Option.bind_some, ↓cond_true, ↓cond_false, decide_eq_true, decide_eq_false, Bool.not_true, Bool.not_false, Int.toNat_natCast, List.length_append, List.length_cons, List.length_nil, List.drop_zero, Nat.zero_add, Nat.add_zero, decT, decF, bneI_t, bneI_f, kinds_at]
theorem check_last {w : Int} (hw : 0 ≤ w ∧ w ≤ 6) : F_dayform_Check [.i 2, .i w, .i 0] = some [.i 0] := by
  unfold F_dayform_Check
  simp (disch := omega) only [onI_c, onS_c, onB_c, onN_c, onL_c, Option.bind_some, Option.map_some, cond_true, cond_false, ↓onI_c, ↓onS_c, ↓onB_c, ↓onN_c, ↓onL_c, ↓Option.bind_some, ↓cond_true, ↓cond_false, decide_eq_true, decide_eq_false, Bool.not_true, Bool.not_false, Int.toNat_natCast, List.length_append, List.length_cons, List.length_nil, List.drop_zero, Nat.zero_add, Nat.add_zero, decT, decF, bneI_t, bneI_f, kinds_at]
theorem check_from {w d : Int} (hw : 0 ≤ w ∧ w ≤ 6) (hd : 1 ≤ d ∧ d ≤ 31) : F_dayform_Check [.i 3, .i w, .i d] = some [.i 0] := by
  unfold F_dayform_Check
  simp (disch := omega) only [onI_c, onS_c, onB_c, onN_c, onL_c, Option.bind_some, Option.map_some, cond_true, cond_false, ↓onI_c, ↓onS_c, ↓onB_c, ↓onN_c, ↓onL_c, ↓Option.bind_some, ↓cond_true, ↓cond_false, decide_eq_true, decide_eq_false, Bool.not_true, Bool.not_false, Int.toNat_natCast, List.length_append, List.length_cons, List.length_nil, List.drop_zero, Nat.zero_add, Nat.add_zero, decT, decF, bneI_t, bneI_f, kinds_at]
theorem check_to {w d : Int} (hw : 0 ≤ w ∧ w ≤ 6) (hd : 1 ≤ d ∧ d ≤ 31) : F_dayform_Check [.i 4, .i w, .i d] = some [.i 0] := by
  unfold F_dayform_Check
  simp (disch := omega) only [onI_c, onS_c, onB_c, onN_c, onL_c, Option.bind_some, Option.map_some, cond_true, cond_false, ↓onI_c, ↓onS_c, ↓onB_c, ↓onN_c, ↓onL_c, ↓Option.bind_some, ↓cond_true, ↓cond_false, decide_eq_true, decide_eq_false, Bool.not_true, Bool.not_false, Int.toNat_natCast, List.length_append, List.length_cons, List.length_nil, List.drop_zero, Nat.zero_add, Nat.add_zero, decT, decF, bneI_t, bneI_f, kinds_at]
theorem always_bad {a b m k w d : Int} (h : Bad k w d) : F_dayform_Always [.i a, .i b, .i m, .i k, .i w, .i d] = some [.b false] := by
  unfold F_dayform_Always
  by_cases h1 : m < 1
  · simp (disch := omega) only [onI_c, onS_c, onB_c, onN_c, onL_c, Option.bind_some, Option.map_some, cond_true, cond_false, ↓onI_c, ↓onS_c, ↓onB_c, ↓onN_c, ↓onL_c, ↓Option.bind_some, ↓cond_true, ↓cond_false, decide_eq_true, decide_eq_false, Bool.not_true, Bool.not_false, Int.toNat_natCast, List.length_append, List.length_cons, List.length_nil, List.drop_zero, Nat.zero_add, Nat.add_zero, decT, decF, bneI_t, bneI_f]
  · by_cases h2 : 12 < m
    · simp (disch := omega) only [onI_c, onS_c, onB_c, onN_c, onL_c, Option.bind_some, Option.map_some, cond_true, cond_false, ↓onI_c, ↓onS_c, ↓onB_c, ↓onN_c, ↓onL_c, ↓Option.bind_some, ↓cond_true, ↓cond_false, decide_eq_true, decide_eq_false, Bool.not_true, Bool.not_false, Int.toNat_natCast, List.length_append, List.length_cons, List.length_nil, List.drop_zero, Nat.zero_add, Nat.add_zero, decT, decF, bneI_t, bneI_f]
    · simp (disch := omega) only [onI_c, onS_c, onB_c, onN_c, onL_c, Option.bind_some, Option.map_some, cond_true, cond_false, ↓onI_c, ↓onS_c, ↓onB_c, ↓onN_c, ↓onL_c, ↓Option.bind_some, ↓cond_true, ↓cond_false, decide_eq_true, decide_eq_false, Bool.not_true, Bool.not_false, Int.toNat_natCast, List.length_append, List.length_cons, List.length_nil, List.drop_zero, Nat.zero_add, Nat.add_zero, decT, decF, bneI_t, bneI_f, check_bad h]
theorem always_month {a b m k w d : Int} (h : m < 1 ∨ 12 < m) : F_dayform_Always [.i a, .i b, .i m, .i k, .i w, .i d] = some [.b false] := by
  unfold F_dayform_Always
  by_cases h1 : m < 1
  · simp (disch := omega) only [onI_c, onS_c, onB_c, onN_c, onL_c, Option.bind_some, Option.map_some, cond_true, cond_false, ↓onI_c, ↓onS_c, ↓onB_c, ↓onN_c, ↓onL_c, ↓Option.bind_some, ↓cond_true, ↓cond_false, decide_eq_true, decide_eq_false, Bool.not_true, Bool.not_false, Int.toNat_natCast, List.length_append, List.length_cons, List.length_nil, List.drop_zero, Nat.zero_add, Nat.add_zero, decT, decF, bneI_t, bneI_f]
  · simp (disch := omega) only [onI_c, onS_c, onB_c, onN_c, onL_c, Option.bind_some, Option.map_some, cond_true, cond_false, ↓onI_c, ↓onS_c, ↓onB_c, ↓onN_c, ↓onL_c, ↓Option.bind_some, ↓cond_true, ↓cond_false, decide_eq_true, decide_eq_false, Bool.not_true, Bool.not_false, Int.toNat_natCast, List.length_append, List.length_cons, List.length_nil, List.drop_zero, Nat.zero_add, Nat.add_zero, decT, decF, bneI_t, bneI_f]
/-- A right form. -/
structure Good (k w d : Int) : Prop where
  out : (k = 1 ∧ w = 0 ∧ 1 ≤ d ∧ d ≤ 31) ∨ (k = 2 ∧ 0 ≤ w ∧ w ≤ 6 ∧ d = 0) ∨ (k = 3 ∧ 0 ≤ w ∧ w ≤ 6 ∧ 1 ≤ d ∧ d ≤ 31) ∨ (k = 4 ∧ 0 ≤ w ∧ w ≤ 6 ∧ 1 ≤ d ∧ d ≤ 31)
theorem made_at {a b c : Int} (ha : 0 ≤ a ∧ a ≤ 255) (hb : 0 ≤ b ∧ b ≤ 255) (hc : 0 ≤ c ∧ c ≤ 255) : ∃ k w d, F__law02_Draft__Made [.i a, .i b, .i c] = some [.i k, .i w, .i d] ∧ Good k w d := by
  unfold F__law02_Draft__Made F_law02_fixed F_law02_last F_law02_from F_law02_to
  have h4 : a % 4 = 0 ∨ a % 4 = 1 ∨ a % 4 = 2 ∨ a % 4 = 3 := by omega
  rcases h4 with h4 | h4 | h4 | h4
  · refine ⟨1, 0, 1 + c % 31, ?_, ⟨.inl (by omega)⟩⟩
    simp (disch := omega) only [onI_c, onS_c, onB_c, onN_c, onL_c, Option.bind_some, Option.map_some, cond_true, cond_false, ↓onI_c, ↓onS_c, ↓onB_c, ↓onN_c, ↓onL_c, ↓Option.bind_some, ↓cond_true, ↓cond_false, decide_eq_true, decide_eq_false, Bool.not_true, Bool.not_false, i64_in, u8_in, u32_in, i32_in, u16_in, u64_in, Int.toNat_natCast, List.length_append, List.length_cons, List.length_nil, tdiv_nn, tmod_nn, List.drop_zero, Nat.zero_add, Nat.add_zero, decT, decF, bneI_t, bneI_f, bytesOf_nil, bytesOf_cons, Isym_v, Ilit_v]
  · refine ⟨2, b % 7, 0, ?_, ⟨.inr (.inl (by omega))⟩⟩
    simp (disch := omega) only [onI_c, onS_c, onB_c, onN_c, onL_c, Option.bind_some, Option.map_some, cond_true, cond_false, ↓onI_c, ↓onS_c, ↓onB_c, ↓onN_c, ↓onL_c, ↓Option.bind_some, ↓cond_true, ↓cond_false, decide_eq_true, decide_eq_false, Bool.not_true, Bool.not_false, i64_in, u8_in, u32_in, i32_in, u16_in, u64_in, Int.toNat_natCast, List.length_append, List.length_cons, List.length_nil, tdiv_nn, tmod_nn, List.drop_zero, Nat.zero_add, Nat.add_zero, decT, decF, bneI_t, bneI_f, bytesOf_nil, bytesOf_cons, Isym_v, Ilit_v]
  · refine ⟨3, b % 7, 1 + c % 31, ?_, ⟨.inr (.inr (.inl (by omega)))⟩⟩
    simp (disch := omega) only [onI_c, onS_c, onB_c, onN_c, onL_c, Option.bind_some, Option.map_some, cond_true, cond_false, ↓onI_c, ↓onS_c, ↓onB_c, ↓onN_c, ↓onL_c, ↓Option.bind_some, ↓cond_true, ↓cond_false, decide_eq_true, decide_eq_false, Bool.not_true, Bool.not_false, i64_in, u8_in, u32_in, i32_in, u16_in, u64_in, Int.toNat_natCast, List.length_append, List.length_cons, List.length_nil, tdiv_nn, tmod_nn, List.drop_zero, Nat.zero_add, Nat.add_zero, decT, decF, bneI_t, bneI_f, bytesOf_nil, bytesOf_cons, Isym_v, Ilit_v]
  · refine ⟨4, b % 7, 1 + c % 31, ?_, ⟨.inr (.inr (.inr (by omega)))⟩⟩
    simp (disch := omega) only [onI_c, onS_c, onB_c, onN_c, onL_c, Option.bind_some, Option.map_some, cond_true, cond_false, ↓onI_c, ↓onS_c, ↓onB_c, ↓onN_c, ↓onL_c, ↓Option.bind_some, ↓cond_true, ↓cond_false, decide_eq_true, decide_eq_false, Bool.not_true, Bool.not_false, i64_in, u8_in, u32_in, i32_in, u16_in, u64_in, Int.toNat_natCast, List.length_append, List.length_cons, List.length_nil, tdiv_nn, tmod_nn, List.drop_zero, Nat.zero_add, Nat.add_zero, decT, decF, bneI_t, bneI_f, bytesOf_nil, bytesOf_cons, Isym_v, Ilit_v]
theorem year_at {y : Int} (hy : -2147483648 ≤ y ∧ y ≤ 2147483647) : ∃ z, F_law02_year [.i y] = some [.i z] ∧ -2000000000 ≤ z ∧ z ≤ 2000000000 := by
  unfold F_law02_year
  simp (disch := omega) only [onI_c, onS_c, onB_c, onN_c, onL_c, Option.bind_some, Option.map_some, cond_true, cond_false, ↓onI_c, ↓onS_c, ↓onB_c, ↓onN_c, ↓onL_c, ↓Option.bind_some, ↓cond_true, ↓cond_false, decide_eq_true, decide_eq_false, Bool.not_true, Bool.not_false, i64_in, u8_in, u32_in, i32_in, u16_in, u64_in, Int.toNat_natCast, List.length_append, List.length_cons, List.length_nil, tdiv_nn, tmod_nn, List.drop_zero, Nat.zero_add, Nat.add_zero, decT, decF, bneI_t, bneI_f, bytesOf_nil, bytesOf_cons, Isym_v, Ilit_v]
  refine ⟨_, rfl, ?_⟩
  repeat' split <;> omega
end Go.Proofs.YtljbgkfoljjgbaaDoor
