/-
  Days of dates, weekdays: the functions of plain data.
-/
import Derived.Test.YtljbgkfoljjgbaaDoorFdae
import Derived.Test.YtljbgkfoljjgbaaDoorAx32
import Derived.KernelRfl
namespace Go.Proofs.YtljbgkfoljjgbaaDoor
open Go.Ax Go.Lib
set_option linter.all false
set_option maxHeartbeats 4000000
attribute [local congr] cond_cong bind_cong onI_cong onB_cong onS_cong onN_cong onL_cong

theorem tmod_zero (a : Int) (b : Nat) : (Int.tmod a b = 0) ↔ a % b = 0 := by
  rw [← Int.dvd_iff_emod_eq_zero, ← Int.dvd_iff_tmod_eq_zero]
/-- A leap year. -/
def lp (y : Int) : Bool := decide (y % 4 = 0 ∧ (y % 100 ≠ 0 ∨ y % 400 = 0))
theorem leap_at (y : Int) : F_civil_Leap [.i y] = some [.b (lp y)] := by
  have h4 : (Int.tmod y 4 = 0) ↔ y % 4 = 0 := tmod_zero y 4
  have h100 : (Int.tmod y 100 = 0) ↔ y % 100 = 0 := tmod_zero y 100
  have h400 : (Int.tmod y 400 = 0) ↔ y % 400 = 0 := tmod_zero y 400
  unfold F_civil_Leap lp
  by_cases a : y % 4 = 0 <;> by_cases b : y % 100 = 0 <;> by_cases c : y % 400 = 0 <;> simp [onI, h4, h100, h400, a, b, c]
def ln (y m : Int) : Int := if m = 2 then (if lp y = true then 29 else 28) else if m = 4 ∨ m = 6 ∨ m = 9 ∨ m = 11 then 30 else 31
theorem ln_bound (y m : Int) : 28 ≤ ln y m ∧ ln y m ≤ 31 := by unfold ln; split <;> (try split) <;> omega
theorem len2 (y : Int) : F_civil_Len [.i y, .i 2] = Option.bind (F_civil_Leap [.i y]) fun r => onB r fun b _ => bif b then some [.i 29] else some [.i 28] := by kernel_rfl
theorem len_at {y m : Int} (h : 1 ≤ m ∧ m ≤ 12) : F_civil_Len [.i y, .i m] = some [.i (ln y m)] := by
  have hm : m = 1 ∨ m = 2 ∨ m = 3 ∨ m = 4 ∨ m = 5 ∨ m = 6 ∨ m = 7 ∨ m = 8 ∨ m = 9 ∨ m = 10 ∨ m = 11 ∨ m = 12 := by omega
  rcases hm with rfl | rfl | rfl | rfl | rfl | rfl | rfl | rfl | rfl | rfl | rfl | rfl
  · rfl
  · rw [len2, leap_at]; unfold ln; rw [if_pos rfl]; cases lp y <;> rfl
  all_goals rfl
theorem len_out {y m : Int} (h : m < 1 ∨ 12 < m) : F_civil_Len [.i y, .i m] = some [.i 0] := by
  unfold F_civil_Len
  rcases h with h | h
  · simp (disch := omega) only [onI_c, onS_c, onB_c, onN_c, onL_c, Option.bind_some, Option.map_some, cond_true, cond_false, ↓onI_c, ↓onS_c, ↓onB_c, ↓onN_c, ↓onL_c, ↓Option.bind_some, ↓cond_true, ↓cond_false, decide_eq_true, decide_eq_false, Bool.not_true, Bool.not_false, i64_in, u8_in, u32_in, i32_in, u16_in, u64_in, Int.toNat_natCast, List.length_append, List.length_cons, List.length_nil, tdiv_nn, tmod_nn, List.drop_zero, Nat.zero_add, Nat.add_zero, decT, decF, bneI_t, bneI_f, bytesOf_nil, bytesOf_cons, Isym_v, Ilit_v]
  · by_cases h1 : m < 1
    · omega
    · simp (disch := omega) only [onI_c, onS_c, onB_c, onN_c, onL_c, Option.bind_some, Option.map_some, cond_true, cond_false, ↓onI_c, ↓onS_c, ↓onB_c, ↓onN_c, ↓onL_c, ↓Option.bind_some, ↓cond_true, ↓cond_false, decide_eq_true, decide_eq_false, Bool.not_true, Bool.not_false, i64_in, u8_in, u32_in, i32_in, u16_in, u64_in, Int.toNat_natCast, List.length_append, List.length_cons, List.length_nil, tdiv_nn, tmod_nn, List.drop_zero, Nat.zero_add, Nat.add_zero, decT, decF, bneI_t, bneI_f, bytesOf_nil, bytesOf_cons, Isym_v, Ilit_v]
theorem floor4 {a : Int} (h : -4000000000 ≤ a ∧ a ≤ 4000000000) : F_civil_floor [.i a, .i 4] = some [.i (a / 4)] := by
  unfold F_civil_floor
  rcases Int.le_total 0 a with h0 | h0
  · simp (disch := omega) only [onI_c, onS_c, onB_c, onN_c, onL_c, Option.bind_some, Option.map_some, cond_true, cond_false, ↓onI_c, ↓onS_c, ↓onB_c, ↓onN_c, ↓onL_c, ↓Option.bind_some, ↓cond_true, ↓cond_false, decide_eq_true, decide_eq_false, Bool.not_true, Bool.not_false, i64_in, u8_in, u32_in, i32_in, u16_in, u64_in, Int.toNat_natCast, List.length_append, List.length_cons, List.length_nil, tdiv_nn, tmod_nn, List.drop_zero, Nat.zero_add, Nat.add_zero, decT, decF, bneI_t, bneI_f, bytesOf_nil, bytesOf_cons, Isym_v, Ilit_v]
  · obtain ⟨n, rfl⟩ : ∃ n : Nat, a = -(n : Int) := ⟨a.natAbs, by omega⟩
    have e1 : Int.tdiv (-(n : Int)) 4 = -((n : Int) / 4) := by rw [Int.neg_tdiv, tdiv_nn (by omega)]
    have e2 : Int.tmod (-(n : Int)) 4 = -((n : Int) % 4) := by rw [Int.neg_tmod, tmod_nn (by omega)]
    by_cases hz : (n : Int) % 4 = 0
    · simp (disch := omega) only [onI_c, onS_c, onB_c, onN_c, onL_c, Option.bind_some, Option.map_some, cond_true, cond_false, ↓onI_c, ↓onS_c, ↓onB_c, ↓onN_c, ↓onL_c, ↓Option.bind_some, ↓cond_true, ↓cond_false, decide_eq_true, decide_eq_false, Bool.not_true, Bool.not_false, Int.toNat_natCast, List.length_append, List.length_cons, List.length_nil, List.drop_zero, Nat.zero_add, Nat.add_zero, decT, decF, bneI_t, bneI_f, e1, e2, i64_in]
      simp; omega
    · simp (disch := omega) only [onI_c, onS_c, onB_c, onN_c, onL_c, Option.bind_some, Option.map_some, cond_true, cond_false, ↓onI_c, ↓onS_c, ↓onB_c, ↓onN_c, ↓onL_c, ↓Option.bind_some, ↓cond_true, ↓cond_false, decide_eq_true, decide_eq_false, Bool.not_true, Bool.not_false, Int.toNat_natCast, List.length_append, List.length_cons, List.length_nil, List.drop_zero, Nat.zero_add, Nat.add_zero, decT, decF, bneI_t, bneI_f, e1, e2, i64_in]
      simp; omega
theorem floor100 {a : Int} (h : -4000000000 ≤ a ∧ a ≤ 4000000000) : F_civil_floor [.i a, .i 100] = some [.i (a / 100)] := by
  unfold F_civil_floor
  rcases Int.le_total 0 a with h0 | h0
  · simp (disch := omega) only [onI_c, onS_c, onB_c, onN_c, onL_c, Option.bind_some, Option.map_some, cond_true, cond_false, ↓onI_c, ↓onS_c, ↓onB_c, ↓onN_c, ↓onL_c, ↓Option.bind_some, ↓cond_true, ↓cond_false, decide_eq_true, decide_eq_false, Bool.not_true, Bool.not_false, i64_in, u8_in, u32_in, i32_in, u16_in, u64_in, Int.toNat_natCast, List.length_append, List.length_cons, List.length_nil, tdiv_nn, tmod_nn, List.drop_zero, Nat.zero_add, Nat.add_zero, decT, decF, bneI_t, bneI_f, bytesOf_nil, bytesOf_cons, Isym_v, Ilit_v]
  · obtain ⟨n, rfl⟩ : ∃ n : Nat, a = -(n : Int) := ⟨a.natAbs, by omega⟩
    have e1 : Int.tdiv (-(n : Int)) 100 = -((n : Int) / 100) := by rw [Int.neg_tdiv, tdiv_nn (by omega)]
    have e2 : Int.tmod (-(n : Int)) 100 = -((n : Int) % 100) := by rw [Int.neg_tmod, tmod_nn (by omega)]
    by_cases hz : (n : Int) % 100 = 0
    · simp (disch := omega) only [onI_c, onS_c, onB_c, onN_c, onL_c, Option.bind_some, Option.map_some, cond_true, cond_false, ↓onI_c, ↓onS_c, ↓onB_c, ↓onN_c, ↓onL_c, ↓Option.bind_some, ↓cond_true, ↓cond_false, decide_eq_true, decide_eq_false, Bool.not_true, Bool.not_false, Int.toNat_natCast, List.length_append, List.length_cons, List.length_nil, List.drop_zero, Nat.zero_add, Nat.add_zero, decT, decF, bneI_t, bneI_f, e1, e2, i64_in]
      simp; omega
    · simp (disch := omega) only [onI_c, onS_c, onB_c, onN_c, onL_c, Option.bind_some, Option.map_some, cond_true, cond_false, ↓onI_c, ↓onS_c, ↓onB_c, ↓onN_c, ↓onL_c, ↓Option.bind_some, ↓cond_true, ↓cond_false, decide_eq_true, decide_eq_false, Bool.not_true, Bool.not_false, Int.toNat_natCast, List.length_append, List.length_cons, List.length_nil, List.drop_zero, Nat.zero_add, Nat.add_zero, decT, decF, bneI_t, bneI_f, e1, e2, i64_in]
      simp; omega
theorem floor400 {a : Int} (h : -4000000000 ≤ a ∧ a ≤ 4000000000) : F_civil_floor [.i a, .i 400] = some [.i (a / 400)] := by
  unfold F_civil_floor
  rcases Int.le_total 0 a with h0 | h0
  · simp (disch := omega) only [onI_c, onS_c, onB_c, onN_c, onL_c, Option.bind_some, Option.map_some, cond_true, cond_false, ↓onI_c, ↓onS_c, ↓onB_c, ↓onN_c, ↓onL_c, ↓Option.bind_some, ↓cond_true, ↓cond_false, decide_eq_true, decide_eq_false, Bool.not_true, Bool.not_false, i64_in, u8_in, u32_in, i32_in, u16_in, u64_in, Int.toNat_natCast, List.length_append, List.length_cons, List.length_nil, tdiv_nn, tmod_nn, List.drop_zero, Nat.zero_add, Nat.add_zero, decT, decF, bneI_t, bneI_f, bytesOf_nil, bytesOf_cons, Isym_v, Ilit_v]
  · obtain ⟨n, rfl⟩ : ∃ n : Nat, a = -(n : Int) := ⟨a.natAbs, by omega⟩
    have e1 : Int.tdiv (-(n : Int)) 400 = -((n : Int) / 400) := by rw [Int.neg_tdiv, tdiv_nn (by omega)]
    have e2 : Int.tmod (-(n : Int)) 400 = -((n : Int) % 400) := by rw [Int.neg_tmod, tmod_nn (by omega)]
    by_cases hz : (n : Int) % 400 = 0
    · simp (disch := omega) only [onI_c, onS_c, onB_c, onN_c, onL_c, Option.bind_some, Option.map_some, cond_true, cond_false, ↓onI_c, ↓onS_c, ↓onB_c, ↓onN_c, ↓onL_c, ↓Option.bind_some, ↓cond_true, ↓cond_false, decide_eq_true, decide_eq_false, Bool.not_true, Bool.not_false, Int.toNat_natCast, List.length_append, List.length_cons, List.length_nil, List.drop_zero, Nat.zero_add, Nat.add_zero, decT, decF, bneI_t, bneI_f, e1, e2, i64_in]
      simp; omega
    · simp (disch := omega) only [onI_c, onS_c, onB_c, onN_c, onL_c, Option.bind_some, Option.map_some, cond_true, cond_false, ↓onI_c, ↓onS_c, ↓onB_c, ↓onN_c, ↓onL_c, ↓Option.bind_some, ↓cond_true, ↓cond_false, decide_eq_true, decide_eq_false, Bool.not_true, Bool.not_false, Int.toNat_natCast, List.length_append, List.length_cons, List.length_nil, List.drop_zero, Nat.zero_add, Nat.add_zero, decT, decF, bneI_t, bneI_f, e1, e2, i64_in]
      simp; omega
def bef (m : Int) : Int := if m = 1 then 0 else if m = 2 then 31 else if m = 3 then 59 else if m = 4 then 90 else if m = 5 then 120 else if m = 6 then 151 else if m = 7 then 181 else if m = 8 then 212 else if m = 9 then 243 else if m = 10 then 273 else if m = 11 then 304 else 334
def tab : List AV := [(Ax.AV.int .i64 (Ax.I.lit 0)), (Ax.AV.int .i64 (Ax.I.lit 31)), (Ax.AV.int .i64 (Ax.I.lit 59)), (Ax.AV.int .i64 (Ax.I.lit 90)), (Ax.AV.int .i64 (Ax.I.lit 120)), (Ax.AV.int .i64 (Ax.I.lit 151)), (Ax.AV.int .i64 (Ax.I.lit 181)), (Ax.AV.int .i64 (Ax.I.lit 212)), (Ax.AV.int .i64 (Ax.I.lit 243)), (Ax.AV.int .i64 (Ax.I.lit 273)), (Ax.AV.int .i64 (Ax.I.lit 304)), (Ax.AV.int .i64 (Ax.I.lit 334)), (Ax.AV.int .i64 (Ax.I.lit 365))]
theorem tab_at {m : Int} (h : 1 ≤ m ∧ m ≤ 12) : asI .i64 (tab[(m - 1).toNat]?) = some (bef m) := by
  have hm : m = 1 ∨ m = 2 ∨ m = 3 ∨ m = 4 ∨ m = 5 ∨ m = 6 ∨ m = 7 ∨ m = 8 ∨ m = 9 ∨ m = 10 ∨ m = 11 ∨ m = 12 := by omega
  rcases hm with rfl | rfl | rfl | rfl | rfl | rfl | rfl | rfl | rfl | rfl | rfl | rfl <;> rfl
theorem bef_bound (m : Int) : 0 ≤ bef m ∧ bef m ≤ 334 := by unfold bef; repeat' split <;> omega
/-- The day of a date. -/
def dn (y m d : Int) : Int := 365 * y + (y - 1) / 4 - (y - 1) / 100 + (y - 1) / 400 + 1 + (bef m + d - 1) + (if 2 < m ∧ lp y = true then 1 else 0) - 719528
theorem dn_bound {y m d : Int} (hy : -2000000000 ≤ y ∧ y ≤ 2000000000) (hd : 1 ≤ d ∧ d ≤ 31) : -1000000000000 ≤ dn y m d ∧ dn y m d ≤ 1000000000000 := by
  have := bef_bound m
  unfold dn
  split <;> omega
theorem days_at {y m d : Int} (hy : -2000000000 ≤ y ∧ y ≤ 2000000000) (hm : 1 ≤ m ∧ m ≤ 12) (hd : 1 ≤ d ∧ d ≤ ln y m) : F_civil_Days [.i y, .i m, .i d] = some [.i (dn y m d), .i 0] := by
  have hl := ln_bound y m
  have hb := bef_bound m
  have e1 : i64 (y - 1) = y - 1 := i64_in _ (by omega)
  have e2 : i64 (m - 1) = m - 1 := i64_in _ (by omega)
  have f1 := floor4 (a := y - 1) (by omega)
  have f2 := floor100 (a := y - 1) (by omega)
  have f3 := floor400 (a := y - 1) (by omega)
  have ht := tab_at hm
  unfold tab at ht
  unfold F_civil_Days dn
  have q1 : -500000001 ≤ (y - 1) / 4 ∧ (y - 1) / 4 ≤ 500000001 := by omega
  have q2 : -20000001 ≤ (y - 1) / 100 ∧ (y - 1) / 100 ≤ 20000001 := by omega
  have q3 : -5000001 ≤ (y - 1) / 400 ∧ (y - 1) / 400 ≤ 5000001 := by omega
  generalize (y - 1) / 4 = a1 at *
  generalize (y - 1) / 100 = a2 at *
  generalize (y - 1) / 400 = a3 at *
  by_cases h2 : 2 < m
  · cases hl : lp y with
    | true =>
      rw [if_pos ⟨h2, rfl⟩]
      simp (disch := omega) only [onI_c, onS_c, onB_c, onN_c, onL_c, Option.bind_some, Option.map_some, cond_true, cond_false, ↓onI_c, ↓onS_c, ↓onB_c, ↓onN_c, ↓onL_c, ↓Option.bind_some, ↓cond_true, ↓cond_false, decide_eq_true, decide_eq_false, Bool.not_true, Bool.not_false, Int.toNat_natCast, List.length_append, List.length_cons, List.length_nil, List.drop_zero, Nat.zero_add, Nat.add_zero, decT, decF, bneI_t, bneI_f, len_at, e1, e2, f1, f2, f3, ht, leap_at, hl, i64_in]
      simp; omega
    | false =>
      rw [if_neg (by simp)]
      simp (disch := omega) only [onI_c, onS_c, onB_c, onN_c, onL_c, Option.bind_some, Option.map_some, cond_true, cond_false, ↓onI_c, ↓onS_c, ↓onB_c, ↓onN_c, ↓onL_c, ↓Option.bind_some, ↓cond_true, ↓cond_false, decide_eq_true, decide_eq_false, Bool.not_true, Bool.not_false, Int.toNat_natCast, List.length_append, List.length_cons, List.length_nil, List.drop_zero, Nat.zero_add, Nat.add_zero, decT, decF, bneI_t, bneI_f, len_at, e1, e2, f1, f2, f3, ht, leap_at, hl, i64_in]
      simp; omega
  · rw [if_neg (fun q => h2 q.1)]
    simp (disch := omega) only [onI_c, onS_c, onB_c, onN_c, onL_c, Option.bind_some, Option.map_some, cond_true, cond_false, ↓onI_c, ↓onS_c, ↓onB_c, ↓onN_c, ↓onL_c, ↓Option.bind_some, ↓cond_true, ↓cond_false, decide_eq_true, decide_eq_false, Bool.not_true, Bool.not_false, Int.toNat_natCast, List.length_append, List.length_cons, List.length_nil, List.drop_zero, Nat.zero_add, Nat.add_zero, decT, decF, bneI_t, bneI_f, len_at, e1, e2, f1, f2, f3, ht, i64_in]
    simp; omega
theorem days_year {y m d : Int} (hy : y < -2000000000 ∨ 2000000000 < y) : F_civil_Days [.i y, .i m, .i d] = some [.i 0, .i 3] := by
  unfold F_civil_Days
  by_cases h : y < -2000000000
  · simp (disch := omega) only [onI_c, onS_c, onB_c, onN_c, onL_c, Option.bind_some, Option.map_some, cond_true, cond_false, ↓onI_c, ↓onS_c, ↓onB_c, ↓onN_c, ↓onL_c, ↓Option.bind_some, ↓cond_true, ↓cond_false, decide_eq_true, decide_eq_false, Bool.not_true, Bool.not_false, Int.toNat_natCast, List.length_append, List.length_cons, List.length_nil, List.drop_zero, Nat.zero_add, Nat.add_zero, decT, decF, bneI_t, bneI_f]
  · simp (disch := omega) only [onI_c, onS_c, onB_c, onN_c, onL_c, Option.bind_some, Option.map_some, cond_true, cond_false, ↓onI_c, ↓onS_c, ↓onB_c, ↓onN_c, ↓onL_c, ↓Option.bind_some, ↓cond_true, ↓cond_false, decide_eq_true, decide_eq_false, Bool.not_true, Bool.not_false, Int.toNat_natCast, List.length_append, List.length_cons, List.length_nil, List.drop_zero, Nat.zero_add, Nat.add_zero, decT, decF, bneI_t, bneI_f]
theorem days_day {y m d : Int} (hy : -2000000000 ≤ y ∧ y ≤ 2000000000) (hm : 1 ≤ m ∧ m ≤ 12) (hd : d < 1 ∨ ln y m < d) : F_civil_Days [.i y, .i m, .i d] = some [.i 0, .i 3] := by
  unfold F_civil_Days
  by_cases h : d < 1
  · simp (disch := omega) only [onI_c, onS_c, onB_c, onN_c, onL_c, Option.bind_some, Option.map_some, cond_true, cond_false, ↓onI_c, ↓onS_c, ↓onB_c, ↓onN_c, ↓onL_c, ↓Option.bind_some, ↓cond_true, ↓cond_false, decide_eq_true, decide_eq_false, Bool.not_true, Bool.not_false, Int.toNat_natCast, List.length_append, List.length_cons, List.length_nil, List.drop_zero, Nat.zero_add, Nat.add_zero, decT, decF, bneI_t, bneI_f]
  · simp (disch := omega) only [onI_c, onS_c, onB_c, onN_c, onL_c, Option.bind_some, Option.map_some, cond_true, cond_false, ↓onI_c, ↓onS_c, ↓onB_c, ↓onN_c, ↓onL_c, ↓Option.bind_some, ↓cond_true, ↓cond_false, decide_eq_true, decide_eq_false, Bool.not_true, Bool.not_false, Int.toNat_natCast, List.length_append, List.length_cons, List.length_nil, List.drop_zero, Nat.zero_add, Nat.add_zero, decT, decF, bneI_t, bneI_f, len_at]
theorem days_month {y m d : Int} (hy : -2000000000 ≤ y ∧ y ≤ 2000000000) (hm : m < 1 ∨ 12 < m) : F_civil_Days [.i y, .i m, .i d] = some [.i 0, .i 3] := by
  unfold F_civil_Days
  by_cases h : d < 1
  · simp (disch := omega) only [onI_c, onS_c, onB_c, onN_c, onL_c, Option.bind_some, Option.map_some, cond_true, cond_false, ↓onI_c, ↓onS_c, ↓onB_c, ↓onN_c, ↓onL_c, ↓Option.bind_some, ↓cond_true, ↓cond_false, decide_eq_true, decide_eq_false, Bool.not_true, Bool.not_false, Int.toNat_natCast, List.length_append, List.length_cons, List.length_nil, List.drop_zero, Nat.zero_add, Nat.add_zero, decT, decF, bneI_t, bneI_f]
  · simp (disch := omega) only [onI_c, onS_c, onB_c, onN_c, onL_c, Option.bind_some, Option.map_some, cond_true, cond_false, ↓onI_c, ↓onS_c, ↓onB_c, ↓onN_c, ↓onL_c, ↓Option.bind_some, ↓cond_true, ↓cond_false, decide_eq_true, decide_eq_false, Bool.not_true, Bool.not_false, Int.toNat_natCast, List.length_append, List.length_cons, List.length_nil, List.drop_zero, Nat.zero_add, Nat.add_zero, decT, decF, bneI_t, bneI_f, len_out]
theorem weekday_at {x : Int} (h : -4000000000000000000 ≤ x ∧ x ≤ 4000000000000000000) : F_civil_Weekday [.i x] = some [.i ((x + 4) % 7)] := by
  unfold F_civil_Weekday
  rcases Int.le_total 0 x with h0 | h0
  · simp (disch := omega) only [onI_c, onS_c, onB_c, onN_c, onL_c, Option.bind_some, Option.map_some, cond_true, cond_false, ↓onI_c, ↓onS_c, ↓onB_c, ↓onN_c, ↓onL_c, ↓Option.bind_some, ↓cond_true, ↓cond_false, decide_eq_true, decide_eq_false, Bool.not_true, Bool.not_false, i64_in, u8_in, u32_in, i32_in, u16_in, u64_in, Int.toNat_natCast, List.length_append, List.length_cons, List.length_nil, tdiv_nn, tmod_nn, List.drop_zero, Nat.zero_add, Nat.add_zero, decT, decF, bneI_t, bneI_f, bytesOf_nil, bytesOf_cons, Isym_v, Ilit_v]
    simp; omega
  · obtain ⟨n, rfl⟩ : ∃ n : Nat, x = -(n : Int) := ⟨x.natAbs, by omega⟩
    have e2 : Int.tmod (-(n : Int)) 7 = -((n : Int) % 7) := by rw [Int.neg_tmod, tmod_nn (by omega)]
    simp (disch := omega) only [onI_c, onS_c, onB_c, onN_c, onL_c, Option.bind_some, Option.map_some, cond_true, cond_false, ↓onI_c, ↓onS_c, ↓onB_c, ↓onN_c, ↓onL_c, ↓Option.bind_some, ↓cond_true, ↓cond_false, decide_eq_true, decide_eq_false, Bool.not_true, Bool.not_false, Int.toNat_natCast, List.length_append, List.length_cons, List.length_nil, List.drop_zero, Nat.zero_add, Nat.add_zero, decT, decF, bneI_t, bneI_f, e2, i64_in, tmod_nn]
    simp; omega
end Go.Proofs.YtljbgkfoljjgbaaDoor
