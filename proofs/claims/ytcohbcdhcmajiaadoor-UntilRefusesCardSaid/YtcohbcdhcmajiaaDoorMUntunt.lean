/-
  Ends of eras that are not right are refused.
-/
import Derived.Test.YtcohbcdhcmajiaaDoorTunt
import Derived.Test.YtcohbcdhcmajiaaDoorAx32
import Derived.KernelRfl
namespace Go.Proofs.YtcohbcdhcmajiaaDoor
open Go.Ax Go.Lib
set_option linter.all false
set_option maxHeartbeats 4000000
set_option maxRecDepth 100000
attribute [local congr] cond_cong bind_cong onI_cong onB_cong onS_cong onN_cong onL_cong
theorem tmod_zero (a : Int) (b : Nat) : (Int.tmod a b = 0) ↔ a % b = 0 := by
  rw [← Int.dvd_iff_emod_eq_zero, ← Int.dvd_iff_tmod_eq_zero]
/-- A leap year. -/
def lp (y : Int) : Bool := decide (y % 4 = 0 ∧ (y % 100 ≠ 0 ∨ y % 400 = 0))
theorem leap_at (y : Int) : F_civil_Leap [.i y] = some [.b (lp y)] := by
  have h4 : (Int.tmod y 4 = 0) ↔ y % 4 = 0 := tmod_zero y 4
  have h100 : (Int.tmod y 100 = 0) ↔ y % 100 = 0 := tmod_zero y 100
  have h400 : (Int.tmod y 400 = 0) ↔ y % 400 = 0 := tmod_zero y 400
  unfold F_civil_Leap lp
  by_cases a : y % 4 = 0 <;> by_cases b : y % 100 = 0 <;> by_cases c : y % 400 = 0 <;> simp [onI, h4, h100, h400, a, b, c]
def ln (y m : Int) : Int := if m = 2 then (if lp y = true then 29 else 28) else if m = 4 ∨ m = 6 ∨ m = 9 ∨ m = 11 then 30 else 31
theorem ln_bound (y m : Int) : 28 ≤ ln y m ∧ ln y m ≤ 31 := by unfold ln; split <;> (try split) <;> omega
theorem len2 (y : Int) : F_civil_Len [.i y, .i 2] = Option.bind (F_civil_Leap [.i y]) fun r => onB r fun b _ => bif b then some [.i 29] else some [.i 28] := by kernel_rfl
theorem len_at {y m : Int} (h : 1 ≤ m ∧ m ≤ 12) : F_civil_Len [.i y, .i m] = some [.i (ln y m)] := by
  have hm : m = 1 ∨ m = 2 ∨ m = 3 ∨ m = 4 ∨ m = 5 ∨ m = 6 ∨ m = 7 ∨ m = 8 ∨ m = 9 ∨ m = 10 ∨ m = 11 ∨ m = 12 := by omega
  rcases hm with rfl | rfl | rfl | rfl | rfl | rfl | rfl | rfl | rfl | rfl | rfl | rfl
  · rfl
  · rw [len2, leap_at]; unfold ln; rw [if_pos rfl]; cases lp y <;> rfl
  all_goals rfl
theorem len_out {y m : Int} (h : m < 1 ∨ 12 < m) : F_civil_Len [.i y, .i m] = some [.i 0] := by
  unfold F_civil_Len
  rcases h with h | h
  · simp (disch := omega) only [onI_c, onS_c, onB_c, onN_c, onL_c, Option.bind_some, Option.map_some, cond_true, cond_false, ↓onI_c, ↓onS_c, ↓onB_c, ↓onN_c, ↓onL_c, ↓Option.bind_some, ↓cond_true, ↓cond_false, decide_eq_true, decide_eq_false, Bool.not_true, Bool.not_false, i64_in, u8_in, u32_in, i32_in, u16_in, u64_in, Int.toNat_natCast, List.length_append, List.length_cons, List.length_nil, tdiv_nn, tmod_nn, List.drop_zero, Nat.zero_add, Nat.add_zero, decT, decF, bneI_t, bneI_f, bytesOf_nil, bytesOf_cons, Isym_v, Ilit_v]
  · by_cases h1 : m < 1
    · omega
    · simp (disch := omega) only [onI_c, onS_c, onB_c, onN_c, onL_c, Option.bind_some, Option.map_some, cond_true, cond_false, ↓onI_c, ↓onS_c, ↓onB_c, ↓onN_c, ↓onL_c, ↓Option.bind_some, ↓cond_true, ↓cond_false, decide_eq_true, decide_eq_false, Bool.not_true, Bool.not_false, i64_in, u8_in, u32_in, i32_in, u16_in, u64_in, Int.toNat_natCast, List.length_append, List.length_cons, List.length_nil, tdiv_nn, tmod_nn, List.drop_zero, Nat.zero_add, Nat.add_zero, decT, decF, bneI_t, bneI_f, bytesOf_nil, bytesOf_cons, Isym_v, Ilit_v]
theorem floor4 {a : Int} (h : -4000000000 ≤ a ∧ a ≤ 4000000000) : F_civil_floor [.i a, .i 4] = some [.i (a / 4)] := by
  unfold F_civil_floor
  rcases Int.le_total 0 a with h0 | h0
  · simp (disch := omega) only [onI_c, onS_c, onB_c, onN_c, onL_c, Option.bind_some, Option.map_some, cond_true, cond_false, ↓onI_c, ↓onS_c, ↓onB_c, ↓onN_c, ↓onL_c, ↓Option.bind_some, ↓cond_true, ↓cond_false, decide_eq_true, decide_eq_false, Bool.not_true, Bool.not_false, i64_in, u8_in, u32_in, i32_in, u16_in, u64_in, Int.toNat_natCast, List.length_append, List.length_cons, List.length_nil, tdiv_nn, tmod_nn, List.drop_zero, Nat.zero_add, Nat.add_zero, decT, decF, bneI_t, bneI_f, bytesOf_nil, bytesOf_cons, Isym_v, Ilit_v]
  · obtain ⟨n, rfl⟩ : ∃ n : Nat, a = -(n : Int) := ⟨a.natAbs, by omega⟩
    have e1 : Int.tdiv (-(n : Int)) 4 = -((n : Int) / 4) := by rw [Int.neg_tdiv, tdiv_nn (by omega)]
    have e2 : Int.tmod (-(n : Int)) 4 = -((n : Int) % 4) := by rw [Int.neg_tmod, tmod_nn (by omega)]
    by_cases hz : (n : Int) % 4 = 0
    · simp (disch := omega) only [onI_c, onS_c, onB_c, onN_c, onL_c, Option.bind_some, Option.map_some, cond_true, cond_false, ↓onI_c, ↓onS_c, ↓onB_c, ↓onN_c, ↓onL_c, ↓Option.bind_some, ↓cond_true, ↓cond_false, decide_eq_true, decide_eq_false, Bool.not_true, Bool.not_false, Int.toNat_natCast, List.length_append, List.length_cons, List.length_nil, List.drop_zero, Nat.zero_add, Nat.add_zero, decT, decF, bneI_t, bneI_f, e1, e2, i64_in]
      simp; omega
    · simp (disch := omega) only [onI_c, onS_c, onB_c, onN_c, onL_c, Option.bind_some, Option.map_some, cond_true, cond_false, ↓onI_c, ↓onS_c, ↓onB_c, ↓onN_c, ↓onL_c, ↓Option.bind_some, ↓cond_true, ↓cond_false, decide_eq_true, decide_eq_false, Bool.not_true, Bool.not_false, Int.toNat_natCast, List.length_append, List.length_cons, List.length_nil, List.drop_zero, Nat.zero_add, Nat.add_zero, decT, decF, bneI_t, bneI_f, e1, e2, i64_in]
      simp; omega
theorem floor100 {a : Int} (h : -4000000000 ≤ a ∧ a ≤ 4000000000) : F_civil_floor [.i a, .i 100] = some [.i (a / 100)] := by
  unfold F_civil_floor
  rcases Int.le_total 0 a with h0 | h0
  · simp (disch := omega) only [onI_c, onS_c, onB_c, onN_c, onL_c, Option.bind_some, Option.map_some, cond_true, cond_false, ↓onI_c, ↓onS_c, ↓onB_c, ↓onN_c, ↓onL_c, ↓Option.bind_some, ↓cond_true, ↓cond_false, decide_eq_true, decide_eq_false, Bool.not_true, Bool.not_false, i64_in, u8_in, u32_in, i32_in, u16_in, u64_in, Int.toNat_natCast, List.length_append, List.length_cons, List.length_nil, tdiv_nn, tmod_nn, List.drop_zero, Nat.zero_add, Nat.add_zero, decT, decF, bneI_t, bneI_f, bytesOf_nil, bytesOf_cons, Isym_v, Ilit_v]
  · obtain ⟨n, rfl⟩ : ∃ n : Nat, a = -(n : Int) := ⟨a.natAbs, by omega⟩
    have e1 : Int.tdiv (-(n : Int)) 100 = -((n : Int) / 100) := by rw [Int.neg_tdiv, tdiv_nn (by omega)]
    have e2 : Int.tmod (-(n : Int)) 100 = -((n : Int) % 100) := by rw [Int.neg_tmod, tmod_nn (by omega)]
    by_cases hz : (n : Int) % 100 = 0
    · simp (disch := omega) only [onI_c, onS_c, onB_c, onN_c, onL_c, Option.bind_some, Option.map_some, cond_true, cond_false, ↓onI_c, ↓onS_c, ↓onB_c, ↓onN_c, ↓onL_c, ↓Option.bind_some, ↓cond_true, ↓cond_false, decide_eq_true, decide_eq_false, Bool.not_true, Bool.not_false, Int.toNat_natCast, List.length_append, List.length_cons, List.length_nil, List.drop_zero, Nat.zero_add, Nat.add_zero, decT, decF, bneI_t, bneI_f, e1, e2, i64_in]
      simp; omega
    · simp (disch := omega) only [onI_c, onS_c, onB_c, onN_c, onL_c, Option.bind_some, Option.map_some, cond_true, cond_false, ↓onI_c, ↓onS_c, ↓onB_c, ↓onN_c, ↓onL_c, ↓Option.bind_some, ↓cond_true, ↓cond_false, decide_eq_true, decide_eq_false, Bool.not_true, Bool.not_false, Int.toNat_natCast, List.length_append, List.length_cons, List.length_nil, List.drop_zero, Nat.zero_add, Nat.add_zero, decT, decF, bneI_t, bneI_f, e1, e2, i64_in]
      simp; omega
theorem floor400 {a : Int} (h : -4000000000 ≤ a ∧ a ≤ 4000000000) : F_civil_floor [.i a, .i 400] = some [.i (a / 400)] := by
  unfold F_civil_floor
  rcases Int.le_total 0 a with h0 | h0
  · simp (disch := omega) only [onI_c, onS_c, onB_c, onN_c, onL_c, Option.bind_some, Option.map_some, cond_true, cond_false, ↓onI_c, ↓onS_c, ↓onB_c, ↓onN_c, ↓onL_c, ↓Option.bind_some, ↓cond_true, ↓cond_false, decide_eq_true, decide_eq_false, Bool.not_true, Bool.not_false, i64_in, u8_in, u32_in, i32_in, u16_in, u64_in, Int.toNat_natCast, List.length_append, List.length_cons, List.length_nil, tdiv_nn, tmod_nn, List.drop_zero, Nat.zero_add, Nat.add_zero, decT, decF, bneI_t, bneI_f, bytesOf_nil, bytesOf_cons, Isym_v, Ilit_v]
  · obtain ⟨n, rfl⟩ : ∃ n : Nat, a = -(n : Int) := ⟨a.natAbs, by omega⟩
    have e1 : Int.tdiv (-(n : Int)) 400 = -((n : Int) / 400) := by rw [Int.neg_tdiv, tdiv_nn (by omega)]
    have e2 : Int.tmod (-(n : Int)) 400 = -((n : Int) % 400) := by rw [Int.neg_tmod, tmod_nn (by omega)]
    by_cases hz : (n : Int) % 400 = 0
    · simp (disch := omega) only [onI_c, onS_c, onB_c, onN_c, onL_c, Option.bind_some, Option.map_some, cond_true, cond_false, ↓onI_c, ↓onS_c, ↓onB_c, ↓onN_c, ↓onL_c, ↓Option.bind_some, ↓cond_true, ↓cond_false, decide_eq_true, decide_eq_false, Bool.not_true, Bool.not_false, Int.toNat_natCast, List.length_append, List.length_cons, List.length_nil, List.drop_zero, Nat.zero_add, Nat.add_zero, decT, decF, bneI_t, bneI_f, e1, e2, i64_in]
      simp; omega
    · simp (disch := omega) only [onI_c, onS_c, onB_c, onN_c, onL_c, Option.bind_some, Option.map_some, cond_true, cond_false, ↓onI_c, ↓onS_c, ↓onB_c, ↓onN_c, ↓onL_c, ↓Option.bind_some, ↓cond_true, ↓cond_false, decide_eq_true, decide_eq_false, Bool.not_true, Bool.not_false, Int.toNat_natCast, List.length_append, List.length_cons, List.length_nil, List.drop_zero, Nat.zero_add, Nat.add_zero, decT, decF, bneI_t, bneI_f, e1, e2, i64_in]
      simp; omega
def bef (m : Int) : Int := if m = 1 then 0 else if m = 2 then 31 else if m = 3 then 59 else if m = 4 then 90 else if m = 5 then 120 else if m = 6 then 151 else if m = 7 then 181 else if m = 8 then 212 else if m = 9 then 243 else if m = 10 then 273 else if m = 11 then 304 else 334
def tab : List AV := [(Ax.AV.int .i64 (Ax.I.lit 0)), (Ax.AV.int .i64 (Ax.I.lit 31)), (Ax.AV.int .i64 (Ax.I.lit 59)), (Ax.AV.int .i64 (Ax.I.lit 90)), (Ax.AV.int .i64 (Ax.I.lit 120)), (Ax.AV.int .i64 (Ax.I.lit 151)), (Ax.AV.int .i64 (Ax.I.lit 181)), (Ax.AV.int .i64 (Ax.I.lit 212)), (Ax.AV.int .i64 (Ax.I.lit 243)), (Ax.AV.int .i64 (Ax.I.lit 273)), (Ax.AV.int .i64 (Ax.I.lit 304)), (Ax.AV.int .i64 (Ax.I.lit 334)), (Ax.AV.int .i64 (Ax.I.lit 365))]
theorem tab_at {m : Int} (h : 1 ≤ m ∧ m ≤ 12) : asI .i64 (tab[(m - 1).toNat]?) = some (bef m) := by
  have hm : m = 1 ∨ m = 2 ∨ m = 3 ∨ m = 4 ∨ m = 5 ∨ m = 6 ∨ m = 7 ∨ m = 8 ∨ m = 9 ∨ m = 10 ∨ m = 11 ∨ m = 12 := by omega
  rcases hm with rfl | rfl | rfl | rfl | rfl | rfl | rfl | rfl | rfl | rfl | rfl | rfl <;> rfl
theorem bef_bound (m : Int) : 0 ≤ bef m ∧ bef m ≤ 334 := by unfold bef; repeat' split <;> omega
/-- The day of a date. -/
def dn (y m d : Int) : Int := 365 * y + (y - 1) / 4 - (y - 1) / 100 + (y - 1) / 400 + 1 + (bef m + d - 1) + (if 2 < m ∧ lp y = true then 1 else 0) - 719528
theorem dn_bound {y m d : Int} (hy : -2000000000 ≤ y ∧ y ≤ 2000000000) (hd : 1 ≤ d ∧ d ≤ 31) : -1000000000000 ≤ dn y m d ∧ dn y m d ≤ 1000000000000 := by
  have := bef_bound m
  unfold dn
  split <;> omega
theorem days_at {y m d : Int} (hy : -2000000000 ≤ y ∧ y ≤ 2000000000) (hm : 1 ≤ m ∧ m ≤ 12) (hd : 1 ≤ d ∧ d ≤ ln y m) : F_civil_Days [.i y, .i m, .i d] = some [.i (dn y m d), .i 0] := by
  have hl := ln_bound y m
  have hb := bef_bound m
  have e1 : i64 (y - 1) = y - 1 := i64_in _ (by omega)
  have e2 : i64 (m - 1) = m - 1 := i64_in _ (by omega)
  have f1 := floor4 (a := y - 1) (by omega)
  have f2 := floor100 (a := y - 1) (by omega)
  have f3 := floor400 (a := y - 1) (by omega)
  have ht := tab_at hm
  unfold tab at ht
  unfold F_civil_Days dn
  have q1 : -500000001 ≤ (y - 1) / 4 ∧ (y - 1) / 4 ≤ 500000001 := by omega
  have q2 : -20000001 ≤ (y - 1) / 100 ∧ (y - 1) / 100 ≤ 20000001 := by omega
  have q3 : -5000001 ≤ (y - 1) / 400 ∧ (y - 1) / 400 ≤ 5000001 := by omega
  generalize (y - 1) / 4 = a1 at *
  generalize (y - 1) / 100 = a2 at *
  generalize (y - 1) / 400 = a3 at *
  by_cases h2 : 2 < m
  · cases hl : lp y with
    | true =>
      rw [if_pos ⟨h2, rfl⟩]
      simp (disch := omega) only [onI_c, onS_c, onB_c, onN_c, onL_c, Option.bind_some, Option.map_some, cond_true, cond_false, ↓onI_c, ↓onS_c, ↓onB_c, ↓onN_c, ↓onL_c, ↓Option.bind_some, ↓cond_true, ↓cond_false, decide_eq_true, decide_eq_false, Bool.not_true, Bool.not_false, Int.toNat_natCast, List.length_append, List.length_cons, List.length_nil, List.drop_zero, Nat.zero_add, Nat.add_zero, decT, decF, bneI_t, bneI_f, len_at, e1, e2, f1, f2, f3, ht, leap_at, hl, i64_in]
      simp; omega
    | false =>
      rw [if_neg (by simp)]
      simp (disch := omega) only [onI_c, onS_c, onB_c, onN_c, onL_c, Option.bind_some, Option.map_some, cond_true, cond_false, ↓onI_c, ↓onS_c, ↓onB_c, ↓onN_c, ↓onL_c, ↓Option.bind_some, ↓cond_true, ↓cond_false, decide_eq_true, decide_eq_false, Bool.not_true, Bool.not_false, Int.toNat_natCast, List.length_append, List.length_cons, List.length_nil, List.drop_zero, Nat.zero_add, Nat.add_zero, decT, decF, bneI_t, bneI_f, len_at, e1, e2, f1, f2, f3, ht, leap_at, hl, i64_in]
      simp; omega
  · rw [if_neg (fun q => h2 q.1)]
    simp (disch := omega) only [onI_c, onS_c, onB_c, onN_c, onL_c, Option.bind_some, Option.map_some, cond_true, cond_false, ↓onI_c, ↓onS_c, ↓onB_c, ↓onN_c, ↓onL_c, ↓Option.bind_some, ↓cond_true, ↓cond_false, decide_eq_true, decide_eq_false, Bool.not_true, Bool.not_false, Int.toNat_natCast, List.length_append, List.length_cons, List.length_nil, List.drop_zero, Nat.zero_add, Nat.add_zero, decT, decF, bneI_t, bneI_f, len_at, e1, e2, f1, f2, f3, ht, i64_in]
    simp; omega
theorem days_year {y m d : Int} (hy : y < -2000000000 ∨ 2000000000 < y) : F_civil_Days [.i y, .i m, .i d] = some [.i 0, .i 3] := by
  unfold F_civil_Days
  by_cases h : y < -2000000000
  · simp (disch := omega) only [onI_c, onS_c, onB_c, onN_c, onL_c, Option.bind_some, Option.map_some, cond_true, cond_false, ↓onI_c, ↓onS_c, ↓onB_c, ↓onN_c, ↓onL_c, ↓Option.bind_some, ↓cond_true, ↓cond_false, decide_eq_true, decide_eq_false, Bool.not_true, Bool.not_false, Int.toNat_natCast, List.length_append, List.length_cons, List.length_nil, List.drop_zero, Nat.zero_add, Nat.add_zero, decT, decF, bneI_t, bneI_f]
  · simp (disch := omega) only [onI_c, onS_c, onB_c, onN_c, onL_c, Option.bind_some, Option.map_some, cond_true, cond_false, ↓onI_c, ↓onS_c, ↓onB_c, ↓onN_c, ↓onL_c, ↓Option.bind_some, ↓cond_true, ↓cond_false, decide_eq_true, decide_eq_false, Bool.not_true, Bool.not_false, Int.toNat_natCast, List.length_append, List.length_cons, List.length_nil, List.drop_zero, Nat.zero_add, Nat.add_zero, decT, decF, bneI_t, bneI_f]
theorem days_day {y m d : Int} (hy : -2000000000 ≤ y ∧ y ≤ 2000000000) (hm : 1 ≤ m ∧ m ≤ 12) (hd : d < 1 ∨ ln y m < d) : F_civil_Days [.i y, .i m, .i d] = some [.i 0, .i 3] := by
  unfold F_civil_Days
  by_cases h : d < 1
  · simp (disch := omega) only [onI_c, onS_c, onB_c, onN_c, onL_c, Option.bind_some, Option.map_some, cond_true, cond_false, ↓onI_c, ↓onS_c, ↓onB_c, ↓onN_c, ↓onL_c, ↓Option.bind_some, ↓cond_true, ↓cond_false, decide_eq_true, decide_eq_false, Bool.not_true, Bool.not_false, Int.toNat_natCast, List.length_append, List.length_cons, List.length_nil, List.drop_zero, Nat.zero_add, Nat.add_zero, decT, decF, bneI_t, bneI_f]
  · simp (disch := omega) only [onI_c, onS_c, onB_c, onN_c, onL_c, Option.bind_some, Option.map_some, cond_true, cond_false, ↓onI_c, ↓onS_c, ↓onB_c, ↓onN_c, ↓onL_c, ↓Option.bind_some, ↓cond_true, ↓cond_false, decide_eq_true, decide_eq_false, Bool.not_true, Bool.not_false, Int.toNat_natCast, List.length_append, List.length_cons, List.length_nil, List.drop_zero, Nat.zero_add, Nat.add_zero, decT, decF, bneI_t, bneI_f, len_at]
theorem days_month {y m d : Int} (hy : -2000000000 ≤ y ∧ y ≤ 2000000000) (hm : m < 1 ∨ 12 < m) : F_civil_Days [.i y, .i m, .i d] = some [.i 0, .i 3] := by
  unfold F_civil_Days
  by_cases h : d < 1
  · simp (disch := omega) only [onI_c, onS_c, onB_c, onN_c, onL_c, Option.bind_some, Option.map_some, cond_true, cond_false, ↓onI_c, ↓onS_c, ↓onB_c, ↓onN_c, ↓onL_c, ↓Option.bind_some, ↓cond_true, ↓cond_false, decide_eq_true, decide_eq_false, Bool.not_true, Bool.not_false, Int.toNat_natCast, List.length_append, List.length_cons, List.length_nil, List.drop_zero, Nat.zero_add, Nat.add_zero, decT, decF, bneI_t, bneI_f]
  · simp (disch := omega) only [onI_c, onS_c, onB_c, onN_c, onL_c, Option.bind_some, Option.map_some, cond_true, cond_false, ↓onI_c, ↓onS_c, ↓onB_c, ↓onN_c, ↓onL_c, ↓Option.bind_some, ↓cond_true, ↓cond_false, decide_eq_true, decide_eq_false, Bool.not_true, Bool.not_false, Int.toNat_natCast, List.length_append, List.length_cons, List.length_nil, List.drop_zero, Nat.zero_add, Nat.add_zero, decT, decF, bneI_t, bneI_f, len_out]
theorem weekday_at {x : Int} (h : -4000000000000000000 ≤ x ∧ x ≤ 4000000000000000000) : F_civil_Weekday [.i x] = some [.i ((x + 4) % 7)] := by
  unfold F_civil_Weekday
  rcases Int.le_total 0 x with h0 | h0
  · simp (disch := omega) only [onI_c, onS_c, onB_c, onN_c, onL_c, Option.bind_some, Option.map_some, cond_true, cond_false, ↓onI_c, ↓onS_c, ↓onB_c, ↓onN_c, ↓onL_c, ↓Option.bind_some, ↓cond_true, ↓cond_false, decide_eq_true, decide_eq_false, Bool.not_true, Bool.not_false, i64_in, u8_in, u32_in, i32_in, u16_in, u64_in, Int.toNat_natCast, List.length_append, List.length_cons, List.length_nil, tdiv_nn, tmod_nn, List.drop_zero, Nat.zero_add, Nat.add_zero, decT, decF, bneI_t, bneI_f, bytesOf_nil, bytesOf_cons, Isym_v, Ilit_v]
    simp; omega
  · obtain ⟨n, rfl⟩ : ∃ n : Nat, x = -(n : Int) := ⟨x.natAbs, by omega⟩
    have e2 : Int.tmod (-(n : Int)) 7 = -((n : Int) % 7) := by rw [Int.neg_tmod, tmod_nn (by omega)]
    simp (disch := omega) only [onI_c, onS_c, onB_c, onN_c, onL_c, Option.bind_some, Option.map_some, cond_true, cond_false, ↓onI_c, ↓onS_c, ↓onB_c, ↓onN_c, ↓onL_c, ↓Option.bind_some, ↓cond_true, ↓cond_false, decide_eq_true, decide_eq_false, Bool.not_true, Bool.not_false, Int.toNat_natCast, List.length_append, List.length_cons, List.length_nil, List.drop_zero, Nat.zero_add, Nat.add_zero, decT, decF, bneI_t, bneI_f, e2, i64_in, tmod_nn]
    simp; omega
theorem kinds_at : F_dayform_kinds [] = some [.b false, .b false, .b false, .b true, .b true, .b false, .b true, .b true, .b true, .b true] := by kernel_rfl
theorem dayOf_at {a b d x : Int} (hd : -4000000000 ≤ d ∧ d ≤ 4000000000) (hx : -2000000000000000000 ≤ x ∧ x ≤ 2000000000000000000) : F_dayform_dayOf [.i a, .i b, .i d, .i x] = some [.i (x + d - 1)] := by
  unfold F_dayform_dayOf
  simp (disch := omega) only [onI_c, onS_c, onB_c, onN_c, onL_c, Option.bind_some, Option.map_some, cond_true, cond_false, ↓onI_c, ↓onS_c, ↓onB_c, ↓onN_c, ↓onL_c, ↓Option.bind_some, ↓cond_true, ↓cond_false, decide_eq_true, decide_eq_false, Bool.not_true, Bool.not_false, Int.toNat_natCast, List.length_append, List.length_cons, List.length_nil, List.drop_zero, Nat.zero_add, Nat.add_zero, decT, decF, bneI_t, bneI_f, i64_in]
theorem back_at {w x : Int} (hw : 0 ≤ w ∧ w ≤ 6) (hx : -2000000000000000000 ≤ x ∧ x ≤ 2000000000000000000) : F_dayform_back [.i w, .i x] = some [.i ((x + 4 - w) % 7)] := by
  unfold F_dayform_back
  have := Int.emod_nonneg (x + 4) (b := 7) (by omega)
  have := Int.emod_lt_of_pos (x + 4) (b := 7) (by omega)
  simp (disch := omega) only [onI_c, onS_c, onB_c, onN_c, onL_c, Option.bind_some, Option.map_some, cond_true, cond_false, ↓onI_c, ↓onS_c, ↓onB_c, ↓onN_c, ↓onL_c, ↓Option.bind_some, ↓cond_true, ↓cond_false, decide_eq_true, decide_eq_false, Bool.not_true, Bool.not_false, Int.toNat_natCast, List.length_append, List.length_cons, List.length_nil, List.drop_zero, Nat.zero_add, Nat.add_zero, decT, decF, bneI_t, bneI_f, weekday_at, i64_in, tmod_nn]
  simp <;> omega
theorem on_fixed {y m d : Int} (hy : -2000000000 ≤ y ∧ y ≤ 2000000000) (hm : 1 ≤ m ∧ m ≤ 12) (hd : 1 ≤ d ∧ d ≤ 31) : F_dayform_On [.i y, .i m, .i 1, .i 0, .i d] = some (if ln y m < d then [.i 0, .i 4] else [.i (dn y m 1 + d - 1), .i 0]) := by
  have hl := ln_bound y m
  have hb := dn_bound (m := m) (d := 1) hy (by omega)
  unfold F_dayform_On
  by_cases h : ln y m < d
  · rw [if_pos h]
    simp (disch := omega) only [onI_c, onS_c, onB_c, onN_c, onL_c, Option.bind_some, Option.map_some, cond_true, cond_false, ↓onI_c, ↓onS_c, ↓onB_c, ↓onN_c, ↓onL_c, ↓Option.bind_some, ↓cond_true, ↓cond_false, decide_eq_true, decide_eq_false, Bool.not_true, Bool.not_false, Int.toNat_natCast, List.length_append, List.length_cons, List.length_nil, List.drop_zero, Nat.zero_add, Nat.add_zero, decT, decF, bneI_t, bneI_f, kinds_at, days_at, len_at, dayOf_at, back_at]
  · rw [if_neg h]
    simp (disch := omega) only [onI_c, onS_c, onB_c, onN_c, onL_c, Option.bind_some, Option.map_some, cond_true, cond_false, ↓onI_c, ↓onS_c, ↓onB_c, ↓onN_c, ↓onL_c, ↓Option.bind_some, ↓cond_true, ↓cond_false, decide_eq_true, decide_eq_false, Bool.not_true, Bool.not_false, Int.toNat_natCast, List.length_append, List.length_cons, List.length_nil, List.drop_zero, Nat.zero_add, Nat.add_zero, decT, decF, bneI_t, bneI_f, kinds_at, days_at, len_at, dayOf_at, back_at]
theorem on_last {y m w : Int} (hy : -2000000000 ≤ y ∧ y ≤ 2000000000) (hm : 1 ≤ m ∧ m ≤ 12) (hw : 0 ≤ w ∧ w ≤ 6) : F_dayform_On [.i y, .i m, .i 2, .i w, .i 0] = some [.i (dn y m 1 + ln y m - 1 - (dn y m 1 + ln y m - 1 + 4 - w) % 7), .i 0] := by
  have hl := ln_bound y m
  have hb := dn_bound (m := m) (d := 1) hy (by omega)
  unfold F_dayform_On
  simp (disch := omega) only [onI_c, onS_c, onB_c, onN_c, onL_c, Option.bind_some, Option.map_some, cond_true, cond_false, ↓onI_c, ↓onS_c, ↓onB_c, ↓onN_c, ↓onL_c, ↓Option.bind_some, ↓cond_true, ↓cond_false, decide_eq_true, decide_eq_false, Bool.not_true, Bool.not_false, Int.toNat_natCast, List.length_append, List.length_cons, List.length_nil, List.drop_zero, Nat.zero_add, Nat.add_zero, decT, decF, bneI_t, bneI_f, kinds_at, days_at, len_at, dayOf_at, back_at, i64_in]
theorem on_from {y m w d : Int} (hy : -2000000000 ≤ y ∧ y ≤ 2000000000) (hm : 1 ≤ m ∧ m ≤ 12) (hw : 0 ≤ w ∧ w ≤ 6) (hd : 1 ≤ d ∧ d ≤ 31) : F_dayform_On [.i y, .i m, .i 3, .i w, .i d] = some (if ln y m < d then [.i 0, .i 4] else [.i (dn y m 1 + d - 1 + 6 - (dn y m 1 + d - 1 + 6 + 4 - w) % 7), .i 0]) := by
  have hl := ln_bound y m
  have hb := dn_bound (m := m) (d := 1) hy (by omega)
  unfold F_dayform_On
  by_cases h : ln y m < d
  · rw [if_pos h]
    simp (disch := omega) only [onI_c, onS_c, onB_c, onN_c, onL_c, Option.bind_some, Option.map_some, cond_true, cond_false, ↓onI_c, ↓onS_c, ↓onB_c, ↓onN_c, ↓onL_c, ↓Option.bind_some, ↓cond_true, ↓cond_false, decide_eq_true, decide_eq_false, Bool.not_true, Bool.not_false, Int.toNat_natCast, List.length_append, List.length_cons, List.length_nil, List.drop_zero, Nat.zero_add, Nat.add_zero, decT, decF, bneI_t, bneI_f, kinds_at, days_at, len_at, dayOf_at, back_at, i64_in]
  · rw [if_neg h]
    simp (disch := omega) only [onI_c, onS_c, onB_c, onN_c, onL_c, Option.bind_some, Option.map_some, cond_true, cond_false, ↓onI_c, ↓onS_c, ↓onB_c, ↓onN_c, ↓onL_c, ↓Option.bind_some, ↓cond_true, ↓cond_false, decide_eq_true, decide_eq_false, Bool.not_true, Bool.not_false, Int.toNat_natCast, List.length_append, List.length_cons, List.length_nil, List.drop_zero, Nat.zero_add, Nat.add_zero, decT, decF, bneI_t, bneI_f, kinds_at, days_at, len_at, dayOf_at, back_at, i64_in]
theorem on_to {y m w d : Int} (hy : -2000000000 ≤ y ∧ y ≤ 2000000000) (hm : 1 ≤ m ∧ m ≤ 12) (hw : 0 ≤ w ∧ w ≤ 6) (hd : 1 ≤ d ∧ d ≤ 31) : F_dayform_On [.i y, .i m, .i 4, .i w, .i d] = some (if ln y m < d then [.i 0, .i 4] else [.i (dn y m 1 + d - 1 - (dn y m 1 + d - 1 + 4 - w) % 7), .i 0]) := by
  have hl := ln_bound y m
  have hb := dn_bound (m := m) (d := 1) hy (by omega)
  unfold F_dayform_On
  by_cases h : ln y m < d
  · rw [if_pos h]
    simp (disch := omega) only [onI_c, onS_c, onB_c, onN_c, onL_c, Option.bind_some, Option.map_some, cond_true, cond_false, ↓onI_c, ↓onS_c, ↓onB_c, ↓onN_c, ↓onL_c, ↓Option.bind_some, ↓cond_true, ↓cond_false, decide_eq_true, decide_eq_false, Bool.not_true, Bool.not_false, Int.toNat_natCast, List.length_append, List.length_cons, List.length_nil, List.drop_zero, Nat.zero_add, Nat.add_zero, decT, decF, bneI_t, bneI_f, kinds_at, days_at, len_at, dayOf_at, back_at, i64_in]
  · rw [if_neg h]
    simp (disch := omega) only [onI_c, onS_c, onB_c, onN_c, onL_c, Option.bind_some, Option.map_some, cond_true, cond_false, ↓onI_c, ↓onS_c, ↓onB_c, ↓onN_c, ↓onL_c, ↓Option.bind_some, ↓cond_true, ↓cond_false, decide_eq_true, decide_eq_false, Bool.not_true, Bool.not_false, Int.toNat_natCast, List.length_append, List.length_cons, List.length_nil, List.drop_zero, Nat.zero_add, Nat.add_zero, decT, decF, bneI_t, bneI_f, kinds_at, days_at, len_at, dayOf_at, back_at, i64_in]

/-- A form that isn't right. -/
def Bad (k w d : Int) : Prop := k < 1 ∨ 4 < k ∨ (k = 1 ∧ w ≠ 0) ∨ (k = 1 ∧ w = 0 ∧ d < 1) ∨ (k = 1 ∧ w = 0 ∧ 31 < d) ∨ (k = 2 ∧ w < 0) ∨ (k = 2 ∧ 6 < w) ∨ (k = 2 ∧ 0 ≤ w ∧ w ≤ 6 ∧ d ≠ 0) ∨
  (k = 3 ∧ w < 0) ∨ (k = 3 ∧ 6 < w) ∨ (k = 3 ∧ 0 ≤ w ∧ w ≤ 6 ∧ d < 1) ∨ (k = 3 ∧ 0 ≤ w ∧ w ≤ 6 ∧ 31 < d) ∨ (k = 4 ∧ w < 0) ∨ (k = 4 ∧ 6 < w) ∨ (k = 4 ∧ 0 ≤ w ∧ w ≤ 6 ∧ d < 1) ∨ (k = 4 ∧ 0 ≤ w ∧ w ≤ 6 ∧ 31 < d)
theorem on_bad {y m k w d : Int} (hy : -2000000000 ≤ y ∧ y ≤ 2000000000) (hm : 1 ≤ m ∧ m ≤ 12) (h : Bad k w d) : F_dayform_On [.i y, .i m, .i k, .i w, .i d] = some [.i 0, .i 2] := by
  have hl := ln_bound y m
  have hd := days_at (d := 1) hy hm (by omega)
  have hb := dn_bound (m := m) (d := 1) hy (by omega)
  generalize dn y m 1 = D at *
  unfold F_dayform_On
  clear hl hb
  rcases h with h | h | ⟨rfl, h⟩ | ⟨rfl, rfl, h⟩ | ⟨rfl, rfl, h⟩ | ⟨rfl, h⟩ | ⟨rfl, h⟩ | ⟨rfl, h0, h6, h⟩ | ⟨rfl, h⟩ | ⟨rfl, h⟩ | ⟨rfl, h0, h6, h⟩ | ⟨rfl, h0, h6, h⟩ | ⟨rfl, h⟩ | ⟨rfl, h⟩ | ⟨rfl, h0, h6, h⟩ | ⟨rfl, h0, h6, h⟩
  · simp (disch := omega) only [onI_c, onS_c, onB_c, onN_c, onL_c, Option.bind_some, Option.map_some, cond_true, cond_false, ↓onI_c, ↓onS_c, ↓onB_c, ↓onN_c, ↓onL_c, ↓Option.bind_some, ↓cond_true, ↓cond_false, decide_eq_true, decide_eq_false, Bool.not_true, Bool.not_false, Int.toNat_natCast, List.length_append, List.length_cons, List.length_nil, List.drop_zero, Nat.zero_add, Nat.add_zero, decT, decF, bneI_t, bneI_f, kinds_at, hd]
  · by_cases h1 : k < 1
    · omega
    · simp (disch := omega) only [onI_c, onS_c, onB_c, onN_c, onL_c, Option.bind_some, Option.map_some, cond_true, cond_false, ↓onI_c, ↓onS_c, ↓onB_c, ↓onN_c, ↓onL_c, ↓Option.bind_some, ↓cond_true, ↓cond_false, decide_eq_true, decide_eq_false, Bool.not_true, Bool.not_false, Int.toNat_natCast, List.length_append, List.length_cons, List.length_nil, List.drop_zero, Nat.zero_add, Nat.add_zero, decT, decF, bneI_t, bneI_f, kinds_at, hd]
  all_goals simp (disch := omega) only [onI_c, onS_c, onB_c, onN_c, onL_c, Option.bind_some, Option.map_some, cond_true, cond_false, ↓onI_c, ↓onS_c, ↓onB_c, ↓onN_c, ↓onL_c, ↓Option.bind_some, ↓cond_true, ↓cond_false, decide_eq_true, decide_eq_false, Bool.not_true, Bool.not_false, Int.toNat_natCast, List.length_append, List.length_cons, List.length_nil, List.drop_zero, Nat.zero_add, Nat.add_zero, decT, decF, bneI_t, bneI_f, kinds_at, hd]
theorem on_range {y m k w d : Int} (h : F_civil_Days [.i y, .i m, .i 1] = some [.i 0, .i 3]) : F_dayform_On [.i y, .i m, .i k, .i w, .i d] = some [.i 0, .i 3] := by
  unfold F_dayform_On
  simp (disch := omega) only [onI_c, onS_c, onB_c, onN_c, onL_c, Option.bind_some, Option.map_some, cond_true, cond_false, ↓onI_c, ↓onS_c, ↓onB_c, ↓onN_c, ↓onL_c, ↓Option.bind_some, ↓cond_true, ↓cond_false, decide_eq_true, decide_eq_false, Bool.not_true, Bool.not_false, Int.toNat_natCast, List.length_append, List.length_cons, List.length_nil, List.drop_zero, Nat.zero_add, Nat.add_zero, decT, decF, bneI_t, bneI_f, h]
/-- A right form. -/
structure Good (k w d : Int) : Prop where
  out : (k = 1 ∧ w = 0 ∧ 1 ≤ d ∧ d ≤ 31) ∨ (k = 2 ∧ 0 ≤ w ∧ w ≤ 6 ∧ d = 0) ∨ (k = 3 ∧ 0 ≤ w ∧ w ≤ 6 ∧ 1 ≤ d ∧ d ≤ 31) ∨ (k = 4 ∧ 0 ≤ w ∧ w ≤ 6 ∧ 1 ≤ d ∧ d ≤ 31)
theorem made_at {a b c : Int} (ha : 0 ≤ a ∧ a ≤ 255) (hb : 0 ≤ b ∧ b ≤ 255) (hc : 0 ≤ c ∧ c ≤ 255) : ∃ k w d, F__law02_Draft__Made [.i a, .i b, .i c] = some [.i k, .i w, .i d] ∧ Good k w d := by
  unfold F__law02_Draft__Made F_law02_fixed F_law02_last F_law02_from F_law02_to
  have h4 : a % 4 = 0 ∨ a % 4 = 1 ∨ a % 4 = 2 ∨ a % 4 = 3 := by omega
  rcases h4 with h4 | h4 | h4 | h4
  · refine ⟨1, 0, 1 + c % 31, ?_, ⟨.inl (by omega)⟩⟩
    simp (disch := omega) only [onI_c, onS_c, onB_c, onN_c, onL_c, Option.bind_some, Option.map_some, cond_true, cond_false, ↓onI_c, ↓onS_c, ↓onB_c, ↓onN_c, ↓onL_c, ↓Option.bind_some, ↓cond_true, ↓cond_false, decide_eq_true, decide_eq_false, Bool.not_true, Bool.not_false, i64_in, u8_in, u32_in, i32_in, u16_in, u64_in, Int.toNat_natCast, List.length_append, List.length_cons, List.length_nil, tdiv_nn, tmod_nn, List.drop_zero, Nat.zero_add, Nat.add_zero, decT, decF, bneI_t, bneI_f, bytesOf_nil, bytesOf_cons, Isym_v, Ilit_v]
  · refine ⟨2, b % 7, 0, ?_, ⟨.inr (.inl (by omega))⟩⟩
    simp (disch := omega) only [onI_c, onS_c, onB_c, onN_c, onL_c, Option.bind_some, Option.map_some, cond_true, cond_false, ↓onI_c, ↓onS_c, ↓onB_c, ↓onN_c, ↓onL_c, ↓Option.bind_some, ↓cond_true, ↓cond_false, decide_eq_true, decide_eq_false, Bool.not_true, Bool.not_false, i64_in, u8_in, u32_in, i32_in, u16_in, u64_in, Int.toNat_natCast, List.length_append, List.length_cons, List.length_nil, tdiv_nn, tmod_nn, List.drop_zero, Nat.zero_add, Nat.add_zero, decT, decF, bneI_t, bneI_f, bytesOf_nil, bytesOf_cons, Isym_v, Ilit_v]
  · refine ⟨3, b % 7, 1 + c % 31, ?_, ⟨.inr (.inr (.inl (by omega)))⟩⟩
    simp (disch := omega) only [onI_c, onS_c, onB_c, onN_c, onL_c, Option.bind_some, Option.map_some, cond_true, cond_false, ↓onI_c, ↓onS_c, ↓onB_c, ↓onN_c, ↓onL_c, ↓Option.bind_some, ↓cond_true, ↓cond_false, decide_eq_true, decide_eq_false, Bool.not_true, Bool.not_false, i64_in, u8_in, u32_in, i32_in, u16_in, u64_in, Int.toNat_natCast, List.length_append, List.length_cons, List.length_nil, tdiv_nn, tmod_nn, List.drop_zero, Nat.zero_add, Nat.add_zero, decT, decF, bneI_t, bneI_f, bytesOf_nil, bytesOf_cons, Isym_v, Ilit_v]
  · refine ⟨4, b % 7, 1 + c % 31, ?_, ⟨.inr (.inr (.inr (by omega)))⟩⟩
    simp (disch := omega) only [onI_c, onS_c, onB_c, onN_c, onL_c, Option.bind_some, Option.map_some, cond_true, cond_false, ↓onI_c, ↓onS_c, ↓onB_c, ↓onN_c, ↓onL_c, ↓Option.bind_some, ↓cond_true, ↓cond_false, decide_eq_true, decide_eq_false, Bool.not_true, Bool.not_false, i64_in, u8_in, u32_in, i32_in, u16_in, u64_in, Int.toNat_natCast, List.length_append, List.length_cons, List.length_nil, tdiv_nn, tmod_nn, List.drop_zero, Nat.zero_add, Nat.add_zero, decT, decF, bneI_t, bneI_f, bytesOf_nil, bytesOf_cons, Isym_v, Ilit_v]

theorem named_at (y : Int) : F_number_Named [.i y] = some [.b (decide (1850 ≤ y) && decide (y ≤ 2149))] := by
  unfold F_number_Named
  rw [onI_c]
  cases decide (1850 ≤ y) <;> cases decide (y ≤ 2149) <;> rfl
theorem clock_any (s b : Int) : ∃ e, F_clock_Check [.i s, .i b] = some [.i e] ∧ ((b < 0 ∨ 2 < b) → e ≠ 0) := by
  unfold F_clock_Check
  rw [onI_c, onI_c]
  by_cases h1 : s < -604799
  · exact ⟨2, by rw [decide_eq_true h1]; rfl, fun _ => by decide⟩
  · rw [decide_eq_false h1]
    by_cases h2 : 604799 < s
    · exact ⟨2, by rw [decide_eq_true h2]; rfl, fun _ => by decide⟩
    · rw [decide_eq_false h2]
      by_cases h3 : b < 0
      · exact ⟨2, by rw [decide_eq_true h3]; rfl, fun _ => by decide⟩
      · rw [decide_eq_false h3]
        by_cases h4 : 2 < b
        · exact ⟨2, by rw [decide_eq_true h4]; rfl, fun _ => by decide⟩
        · exact ⟨0, by rw [decide_eq_false h4]; rfl, fun q => by omega⟩
theorem nominal_no {is : Bool} {y m k w d s b v e : Int} (hOn : F_dayform_On [.i y, .i m, .i k, .i w, .i d] = some [.i v, .i e]) (hs : -9000000000 ≤ s ∧ s ≤ 9000000000)
    (h : e ≠ 0 ∨ (y < 1850 ∨ 2149 < y) ∨ (s < -86400 ∨ 172800 < s) ∨ (b < 0 ∨ 2 < b)) : ∃ v', F_until_nominal [.b is, .i y, .i m, .i k, .i w, .i d, .i s, .i b, .i 0] = some [.i v', .b false] := by
  obtain ⟨c, hc, hcb⟩ := clock_any s b
  have hn := named_at y
  have e0 : i64 (s + 0) = s := by rw [Int.add_zero]; exact i64_in _ (by omega)
  unfold F_until_nominal
  simp only [onB_c, onI_c, hOn, Option.bind_some]
  by_cases h1 : e = 0
  · rw [decide_eq_true h1, Bool.not_true, cond_false, hn, Option.bind_some, onB_c]
    by_cases h2 : 1850 ≤ y ∧ y ≤ 2149
    · rw [decide_eq_true h2.1, decide_eq_true h2.2, hc]
      simp only [Bool.and_self, Bool.not_true, cond_false, Option.bind_some, onI_c, e0]
      by_cases h3 : c = 0
      · have h4 : s < -86400 ∨ 172800 < s := by
          rcases h with q | q | q | q
          · exact absurd h1 q
          · omega
          · exact q
          · exact absurd h3 (hcb q)
        rw [decide_eq_true h3, Bool.not_true, cond_false]
        rcases h4 with q | q
        · rw [decide_eq_false (show ¬ (-86400 : Int) ≤ s by omega)]
          cases decide (b = 1) <;> exact ⟨_, rfl⟩
        · rw [decide_eq_true (show (-86400 : Int) ≤ s by omega), decide_eq_false (show ¬ s ≤ 172800 by omega)]
          cases decide (b = 1) <;> exact ⟨_, rfl⟩
      · rw [decide_eq_false h3]; exact ⟨_, rfl⟩
    · have : (decide (1850 ≤ y) && decide (y ≤ 2149)) = false := by
        by_cases q : 1850 ≤ y
        · rw [decide_eq_false (show ¬ y ≤ 2149 by omega), Bool.and_false]
        · rw [decide_eq_false q]; rfl
      rw [this]; exact ⟨_, rfl⟩
  · rw [decide_eq_false h1]; exact ⟨_, rfl⟩
/-- How an end is refused, by all three. -/
def Refused (is : Bool) (y m k w d s b W : Int) : Prop :=
  F_until_Nominal [.b is, .i y, .i m, .i k, .i w, .i d, .i s, .i b, .i 0] = some [.i 0, .i W] ∧ F_until_Check [.b is, .i y, .i m, .i k, .i w, .i d, .i s, .i b, .i 0] = some [.i W] ∧
  F_until_Instant [.i 0, .i 0, .i 0, .s [], .s [], .b is, .i y, .i m, .i k, .i w, .i d, .i s, .i b, .n 0, .l []] = some [.i 0, .i W]
theorem refused_of {is : Bool} {y m k w d s b W : Int} (hW : W ≠ 0) (h : F_until_Nominal [.b is, .i y, .i m, .i k, .i w, .i d, .i s, .i b, .i 0] = some [.i 0, .i W]) : Refused is y m k w d s b W := by
  refine ⟨h, ?_, ?_⟩
  · unfold F_until_Check
    simp only [onB_c, onI_c, h, Option.bind_some]
  · have hm : F_until_moderate [.i 0] = some [.b true] := rfl
    have hb : F_until_baseSave [.i 0, .i 0, .i 0, .s [], .s [], .b is, .i y, .i m, .i k, .i w, .i d, .i s, .i b, .n 0, .l []] = some [.i 0] := rfl
    have hd : decide (W = 0) = false := decide_eq_false hW
    have d1 : decide ((0 : Int) < 0) = false := rfl
    have d2 : decide ((2 : Int) < 0) = false := rfl
    have d3 : decide ((0 : Int) = 1) = false := rfl
    unfold F_until_Instant
    simp only [onB_c, onI_c, onS_c, onN_c, onL_c, hm, hb, h, hd, d1, d2, d3, Option.bind_some, cond_true, cond_false, Bool.not_true, Bool.not_false]
theorem none_ref (y m k w d s b : Int) : Refused false y m k w d s b 4 := refused_of (by decide) rfl
theorem range_ref {y m k w d s b v e : Int} (hOn : F_dayform_On [.i y, .i m, .i k, .i w, .i d] = some [.i v, .i e]) (hs : -9000000000 ≤ s ∧ s ≤ 9000000000)
    (h : e ≠ 0 ∨ (y < 1850 ∨ 2149 < y) ∨ (s < -86400 ∨ 172800 < s) ∨ (b < 0 ∨ 2 < b)) : Refused true y m k w d s b 3 := by
  obtain ⟨v', hv⟩ := nominal_no (is := true) (s := s) (b := b) hOn hs h
  refine refused_of (by decide) ?_
  unfold F_until_Nominal
  have d1 : decide ((0 : Int) < -10800) = false := rfl
  have d2 : decide ((0 : Int) < 0) = false := rfl
  simp only [onB_c, onI_c, d1, d2, hv, Option.bind_some, cond_true, cond_false, Bool.not_true, Bool.not_false]
/-! What is out of range in the eras. -/
theorem check_least {is : Bool} {y m k w d s b l : Int} (h : l < -10800 ∨ 0 < l) : F_until_Check [.b is, .i y, .i m, .i k, .i w, .i d, .i s, .i b, .i l] = some [.i 2] := by
  have hN : F_until_Nominal [.b is, .i y, .i m, .i k, .i w, .i d, .i s, .i b, .i l] = some [.i 0, .i 2] := by
    unfold F_until_Nominal
    rcases h with q | q
    · simp only [onB_c, onI_c, decide_eq_true q, Option.bind_some, cond_true]
    · by_cases p : l < -10800
      · simp only [onB_c, onI_c, decide_eq_true p, Option.bind_some, cond_true]
      · simp only [onB_c, onI_c, decide_eq_false p, decide_eq_true q, Option.bind_some, cond_true, cond_false]
  unfold F_until_Check
  simp only [onB_c, onI_c, hN, Option.bind_some]
theorem inst_kind {is : Bool} {o sv y m k w d s b kd : Int} (h : kd < 0 ∨ 2 < kd) : F_until_Instant [.i o, .i kd, .i sv, .s [], .s [], .b is, .i y, .i m, .i k, .i w, .i d, .i s, .i b, .n 0, .l []] = some [.i 0, .i 2] := by
  unfold F_until_Instant
  rcases h with q | q
  · simp only [onB_c, onI_c, onS_c, onN_c, onL_c, decide_eq_true q, Option.bind_some, cond_true]
  · by_cases p : kd < 0
    · simp only [onB_c, onI_c, onS_c, onN_c, onL_c, decide_eq_true p, Option.bind_some, cond_true]
    · simp only [onB_c, onI_c, onS_c, onN_c, onL_c, decide_eq_false p, decide_eq_true q, Option.bind_some, cond_true, cond_false]
theorem mod_no {x : Int} (h : x < -604799 ∨ 604799 < x) : F_until_moderate [.i x] = some [.b false] := by
  unfold F_until_moderate
  rw [onI_c]
  rcases h with q | q
  · rw [decide_eq_false (show ¬ (-604799 : Int) ≤ x by omega)]; rfl
  · by_cases p : (-604799 : Int) ≤ x
    · rw [decide_eq_true p, decide_eq_false (show ¬ x ≤ 604799 by omega)]; rfl
    · rw [decide_eq_false p]; rfl
theorem inst_off {is : Bool} {o sv y m k w d s b : Int} (h : o < -604799 ∨ 604799 < o) : F_until_Instant [.i o, .i 0, .i sv, .s [], .s [], .b is, .i y, .i m, .i k, .i w, .i d, .i s, .i b, .n 0, .l []] = some [.i 0, .i 3] := by
  have hm := mod_no h
  have d1 : decide ((0 : Int) < 0) = false := rfl
  have d2 : decide ((2 : Int) < 0) = false := rfl
  unfold F_until_Instant
  simp only [onB_c, onI_c, onS_c, onN_c, onL_c, d1, d2, hm, Option.bind_some, cond_true, cond_false, Bool.not_false]
theorem inst_save {is : Bool} {sv y m k w d s b : Int} (h : sv < -604799 ∨ 604799 < sv) : F_until_Instant [.i 0, .i 1, .i sv, .s [], .s [], .b is, .i y, .i m, .i k, .i w, .i d, .i s, .i b, .n 0, .l []] = some [.i 0, .i 3] := by
  have hm := mod_no h
  have h0 : F_until_moderate [.i 0] = some [.b true] := rfl
  have d1 : decide ((1 : Int) < 0) = false := rfl
  have d2 : decide ((2 : Int) < 1) = false := rfl
  unfold F_until_Instant
  simp only [onB_c, onI_c, onS_c, onN_c, onL_c, d1, d2, h0, hm, Option.bind_some, cond_true, cond_false, Bool.not_false, Bool.not_true, decide_true]
/-! The end by numbers. -/
theorem tmod_any (x : Int) : ∃ z, Int.tmod x 259201 = z ∧ -259200 ≤ z ∧ z ≤ 259200 := by
  refine ⟨_, rfl, ?_⟩
  have h := Int.emod_nonneg x (b := 259201) (by omega)
  have h2 := Int.emod_lt_of_pos x (b := 259201) (by omega)
  have h3 := Int.tmod_eq_emod (a := x) (b := 259201)
  split at h3 <;> omega
theorem mk_at {a0 a1 a2 a3 a4 a5 a6 : Int} (h0 : 0 ≤ a0 ∧ a0 ≤ 65535) (h1 : 0 ≤ a1 ∧ a1 ≤ 255) (h2 : 0 ≤ a2 ∧ a2 ≤ 255) (h3 : 0 ≤ a3 ∧ a3 ≤ 255) (h4 : 0 ≤ a4 ∧ a4 ≤ 255) (h5 : 0 ≤ a5 ∧ a5 ≤ 255) (h6 : -2147483648 ≤ a6 ∧ a6 ≤ 2147483647) :
    ∃ y m k w d s b : Int, F__law22_Draft__Made [.i a0, .i a1, .i a2, .i a3, .i a4, .i a5, .i a6, .i 0] = some [.b true, .i y, .i m, .i k, .i w, .i d, .i s, .i b] ∧ (1850 ≤ y ∧ y ≤ 2149) ∧ (1 ≤ m ∧ m ≤ 12) ∧ Good k w d ∧ (-9000000 ≤ s ∧ s ≤ 9000000) := by
  obtain ⟨k, w, d, hM, hG⟩ := made_at h3 h4 h5
  obtain ⟨z, hz, hz1, hz2⟩ := tmod_any a6
  have i6 : i64 a6 = a6 := i64_in _ (by omega)
  have t0 : Int.tmod a0 300 = a0 % 300 := tmod_nn h0.1
  have t1 : Int.tmod a1 12 = a1 % 12 := tmod_nn h1.1
  have t2 : Int.tmod a2 3 = a2 % 3 := tmod_nn h2.1
  have q0 : i64 (a0 % 300) = a0 % 300 := i64_in _ (by omega)
  have q1 : i64 (a1 % 12) = a1 % 12 := i64_in _ (by omega)
  have q2 : i64 (a2 % 3) = a2 % 3 := i64_in _ (by omega)
  have p0 : i64 (1850 + a0 % 300) = 1850 + a0 % 300 := i64_in _ (by omega)
  have p1 : i64 (1 + a1 % 12) = 1 + a1 % 12 := i64_in _ (by omega)
  have z1 : i64 (z + 259201) = z + 259201 := i64_in _ (by omega)
  have z2 : i64 (-86400 + (z + 259201)) = -86400 + (z + 259201) := i64_in _ (by omega)
  have z3 : i64 (-86400 + (z + 259201) - 0) = -86400 + (z + 259201) := by rw [Int.sub_zero]; exact z2
  have z4 : i64 (-86400 + z) = -86400 + z := i64_in _ (by omega)
  have z5 : i64 (-86400 + z - 0) = -86400 + z := by rw [Int.sub_zero]; exact z4
  have hG2 : 28 < d → Good k w 28 := fun q => ⟨by have := hG.out; omega⟩
  unfold F__law22_Draft__Made
  simp only [onI_c, hM, Option.bind_some, i6, t0, t1, t2, hz, q0, q1, q2, p0, p1, z1, z2, z3, z4, z5]
  by_cases c1 : 28 < d
  · rw [decide_eq_true c1, cond_true]
    by_cases c2 : z < 0
    · rw [decide_eq_true c2, cond_true]
      cases decide (a2 % 3 = 1) <;> exact ⟨_, _, _, _, _, _, _, rfl, by omega, by omega, hG2 c1, by omega⟩
    · rw [decide_eq_false c2, cond_false]
      cases decide (a2 % 3 = 1) <;> exact ⟨_, _, _, _, _, _, _, rfl, by omega, by omega, hG2 c1, by omega⟩
  · rw [decide_eq_false c1, cond_false]
    by_cases c2 : z < 0
    · rw [decide_eq_true c2, cond_true]
      cases decide (a2 % 3 = 1) <;> exact ⟨_, _, _, _, _, _, _, rfl, by omega, by omega, hG, by omega⟩
    · rw [decide_eq_false c2, cond_false]
      cases decide (a2 % 3 = 1) <;> exact ⟨_, _, _, _, _, _, _, rfl, by omega, by omega, hG, by omega⟩
theorem on_any {y m k w d : Int} (hy : -2000000000 ≤ y ∧ y ≤ 2000000000) (hm : 1 ≤ m ∧ m ≤ 12) (h : Good k w d) : ∃ v e, F_dayform_On [.i y, .i m, .i k, .i w, .i d] = some [.i v, .i e] := by
  rcases h.out with ⟨rfl, rfl, h1⟩ | ⟨rfl, h1, h2, rfl⟩ | ⟨rfl, h1, h2, h3⟩ | ⟨rfl, h1, h2, h3⟩
  · rw [on_fixed hy hm h1]; split <;> exact ⟨_, _, rfl⟩
  · exact ⟨_, _, on_last hy hm ⟨h1, h2⟩⟩
  · rw [on_from hy hm ⟨h1, h2⟩ h3]; split <;> exact ⟨_, _, rfl⟩
  · rw [on_to hy hm ⟨h1, h2⟩ h3]; split <;> exact ⟨_, _, rfl⟩
theorem on_year {y m k w d : Int} (hm : 1 ≤ m ∧ m ≤ 12) (h : Good k w d) : ∃ v e, F_dayform_On [.i y, .i m, .i k, .i w, .i d] = some [.i v, .i e] := by
  by_cases hy : -2000000000 ≤ y ∧ y ≤ 2000000000
  · exact on_any hy hm h
  · exact ⟨_, _, on_range (days_year (by omega))⟩
end Go.Proofs.YtcohbcdhcmajiaaDoor
