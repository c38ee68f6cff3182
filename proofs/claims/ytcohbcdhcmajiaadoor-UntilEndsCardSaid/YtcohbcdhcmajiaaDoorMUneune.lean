/-
  Ends of eras: by the code and by the document.
-/
import Derived.Test.YtcohbcdhcmajiaaDoorTune
import Derived.Test.YtcohbcdhcmajiaaDoorAx32
import Derived.KernelRfl
namespace Go.Proofs.YtcohbcdhcmajiaaDoor
open Go.Ax Go.Lib
set_option linter.all false
set_option maxHeartbeats 4000000
set_option maxRecDepth 100000
attribute [local congr] cond_cong bind_cong onI_cong onB_cong onS_cong onN_cong onL_cong
theorem tmod_zero (a : Int) (b : Nat) : (Int.tmod a b = 0) ↔ a % b = 0 := by
  rw [← Int.dvd_iff_emod_eq_zero, ← Int.dvd_iff_tmod_eq_zero]
/-- A leap year. -/
def lp (y : Int) : Bool := decide (y % 4 = 0 ∧ (y % 100 ≠ 0 ∨ y % 400 = 0))
theorem leap_at (y : Int) : F_civil_Leap [.i y] = some [.b (lp y)] := by
  have h4 : (Int.tmod y 4 = 0) ↔ y % 4 = 0 := tmod_zero y 4
  have h100 : (Int.tmod y 100 = 0) ↔ y % 100 = 0 := tmod_zero y 100
  have h400 : (Int.tmod y 400 = 0) ↔ y % 400 = 0 := tmod_zero y 400
  unfold F_civil_Leap lp
  by_cases a : y % 4 = 0 <;> by_cases b : y % 100 = 0 <;> by_cases c : y % 400 = 0 <;> simp [onI, h4, h100, h400, a, b, c]
def ln (y m : Int) : Int := if m = 2 then (if lp y = true then 29 else 28) else if m = 4 ∨ m = 6 ∨ m = 9 ∨ m = 11 then 30 else 31
theorem ln_bound (y m : Int) : 28 ≤ ln y m ∧ ln y m ≤ 31 := by unfold ln; split <;> (try split) <;> omega
theorem lenFeb (y : Int) : F_civil_Len [.i y, .i 2] = Option.bind (F_civil_Leap [.i y]) fun r => onB r fun b _ => bif b then some [.i 29] else some [.i 28] := by kernel_rfl
theorem len_at {y m : Int} (h : 1 ≤ m ∧ m ≤ 12) : F_civil_Len [.i y, .i m] = some [.i (ln y m)] := by
  have hm : m = 1 ∨ m = 2 ∨ m = 3 ∨ m = 4 ∨ m = 5 ∨ m = 6 ∨ m = 7 ∨ m = 8 ∨ m = 9 ∨ m = 10 ∨ m = 11 ∨ m = 12 := by omega
  rcases hm with rfl | rfl | rfl | rfl | rfl | rfl | rfl | rfl | rfl | rfl | rfl | rfl
  · rfl
  · rw [lenFeb, leap_at]; unfold ln; rw [if_pos rfl]; cases lp y <;> rfl
  all_goals rfl
theorem len_out {y m : Int} (h : m < 1 ∨ 12 < m) : F_civil_Len [.i y, .i m] = some [.i 0] := by
  unfold F_civil_Len
  rcases h with h | h
  · simp (disch := omega) only [onI_c, onS_c, onB_c, onN_c, onL_c, Option.bind_some, Option.map_some, cond_true, cond_false, ↓onI_c, ↓onS_c, ↓onB_c, ↓onN_c, ↓onL_c, ↓Option.bind_some, ↓cond_true, ↓cond_false, decide_eq_true, decide_eq_false, Bool.not_true, Bool.not_false, i64_in, u8_in, u32_in, i32_in, u16_in, u64_in, Int.toNat_natCast, List.length_append, List.length_cons, List.length_nil, tdiv_nn, tmod_nn, List.drop_zero, Nat.zero_add, Nat.add_zero, decT, decF, bneI_t, bneI_f, bytesOf_nil, bytesOf_cons, Isym_v, Ilit_v]
  · by_cases h1 : m < 1
    · omega
    · simp (disch := omega) only [onI_c, onS_c, onB_c, onN_c, onL_c, Option.bind_some, Option.map_some, cond_true, cond_false, ↓onI_c, ↓onS_c, ↓onB_c, ↓onN_c, ↓onL_c, ↓Option.bind_some, ↓cond_true, ↓cond_false, decide_eq_true, decide_eq_false, Bool.not_true, Bool.not_false, i64_in, u8_in, u32_in, i32_in, u16_in, u64_in, Int.toNat_natCast, List.length_append, List.length_cons, List.length_nil, tdiv_nn, tmod_nn, List.drop_zero, Nat.zero_add, Nat.add_zero, decT, decF, bneI_t, bneI_f, bytesOf_nil, bytesOf_cons, Isym_v, Ilit_v]
theorem floor4 {a : Int} (h : -4000000000 ≤ a ∧ a ≤ 4000000000) : F_civil_floor [.i a, .i 4] = some [.i (a / 4)] := by
  unfold F_civil_floor
  rcases Int.le_total 0 a with h0 | h0
  · simp (disch := omega) only [onI_c, onS_c, onB_c, onN_c, onL_c, Option.bind_some, Option.map_some, cond_true, cond_false, ↓onI_c, ↓onS_c, ↓onB_c, ↓onN_c, ↓onL_c, ↓Option.bind_some, ↓cond_true, ↓cond_false, decide_eq_true, decide_eq_false, Bool.not_true, Bool.not_false, i64_in, u8_in, u32_in, i32_in, u16_in, u64_in, Int.toNat_natCast, List.length_append, List.length_cons, List.length_nil, tdiv_nn, tmod_nn, List.drop_zero, Nat.zero_add, Nat.add_zero, decT, decF, bneI_t, bneI_f, bytesOf_nil, bytesOf_cons, Isym_v, Ilit_v]
  · obtain ⟨n, rfl⟩ : ∃ n : Nat, a = -(n : Int) := ⟨a.natAbs, by omega⟩
    have e1 : Int.tdiv (-(n : Int)) 4 = -((n : Int) / 4) := by rw [Int.neg_tdiv, tdiv_nn (by omega)]
    have e2 : Int.tmod (-(n : Int)) 4 = -((n : Int) % 4) := by rw [Int.neg_tmod, tmod_nn (by omega)]
    by_cases hz : (n : Int) % 4 = 0
    · simp (disch := omega) only [onI_c, onS_c, onB_c, onN_c, onL_c, Option.bind_some, Option.map_some, cond_true, cond_false, ↓onI_c, ↓onS_c, ↓onB_c, ↓onN_c, ↓onL_c, ↓Option.bind_some, ↓cond_true, ↓cond_false, decide_eq_true, decide_eq_false, Bool.not_true, Bool.not_false, Int.toNat_natCast, List.length_append, List.length_cons, List.length_nil, List.drop_zero, Nat.zero_add, Nat.add_zero, decT, decF, bneI_t, bneI_f, e1, e2, i64_in]
      simp; omega
    · simp (disch := omega) only [onI_c, onS_c, onB_c, onN_c, onL_c, Option.bind_some, Option.map_some, cond_true, cond_false, ↓onI_c, ↓onS_c, ↓onB_c, ↓onN_c, ↓onL_c, ↓Option.bind_some, ↓cond_true, ↓cond_false, decide_eq_true, decide_eq_false, Bool.not_true, Bool.not_false, Int.toNat_natCast, List.length_append, List.length_cons, List.length_nil, List.drop_zero, Nat.zero_add, Nat.add_zero, decT, decF, bneI_t, bneI_f, e1, e2, i64_in]
      simp; omega
theorem floor100 {a : Int} (h : -4000000000 ≤ a ∧ a ≤ 4000000000) : F_civil_floor [.i a, .i 100] = some [.i (a / 100)] := by
  unfold F_civil_floor
  rcases Int.le_total 0 a with h0 | h0
  · simp (disch := omega) only [onI_c, onS_c, onB_c, onN_c, onL_c, Option.bind_some, Option.map_some, cond_true, cond_false, ↓onI_c, ↓onS_c, ↓onB_c, ↓onN_c, ↓onL_c, ↓Option.bind_some, ↓cond_true, ↓cond_false, decide_eq_true, decide_eq_false, Bool.not_true, Bool.not_false, i64_in, u8_in, u32_in, i32_in, u16_in, u64_in, Int.toNat_natCast, List.length_append, List.length_cons, List.length_nil, tdiv_nn, tmod_nn, List.drop_zero, Nat.zero_add, Nat.add_zero, decT, decF, bneI_t, bneI_f, bytesOf_nil, bytesOf_cons, Isym_v, Ilit_v]
  · obtain ⟨n, rfl⟩ : ∃ n : Nat, a = -(n : Int) := ⟨a.natAbs, by omega⟩
    have e1 : Int.tdiv (-(n : Int)) 100 = -((n : Int) / 100) := by rw [Int.neg_tdiv, tdiv_nn (by omega)]
    have e2 : Int.tmod (-(n : Int)) 100 = -((n : Int) % 100) := by rw [Int.neg_tmod, tmod_nn (by omega)]
    by_cases hz : (n : Int) % 100 = 0
    · simp (disch := omega) only [onI_c, onS_c, onB_c, onN_c, onL_c, Option.bind_some, Option.map_some, cond_true, cond_false, ↓onI_c, ↓onS_c, ↓onB_c, ↓onN_c, ↓onL_c, ↓Option.bind_some, ↓cond_true, ↓cond_false, decide_eq_true, decide_eq_false, Bool.not_true, Bool.not_false, Int.toNat_natCast, List.length_append, List.length_cons, List.length_nil, List.drop_zero, Nat.zero_add, Nat.add_zero, decT, decF, bneI_t, bneI_f, e1, e2, i64_in]
      simp; omega
    · simp (disch := omega) only [onI_c, onS_c, onB_c, onN_c, onL_c, Option.bind_some, Option.map_some, cond_true, cond_false, ↓onI_c, ↓onS_c, ↓onB_c, ↓onN_c, ↓onL_c, ↓Option.bind_some, ↓cond_true, ↓cond_false, decide_eq_true, decide_eq_false, Bool.not_true, Bool.not_false, Int.toNat_natCast, List.length_append, List.length_cons, List.length_nil, List.drop_zero, Nat.zero_add, Nat.add_zero, decT, decF, bneI_t, bneI_f, e1, e2, i64_in]
      simp; omega
theorem floor400 {a : Int} (h : -4000000000 ≤ a ∧ a ≤ 4000000000) : F_civil_floor [.i a, .i 400] = some [.i (a / 400)] := by
  unfold F_civil_floor
  rcases Int.le_total 0 a with h0 | h0
  · simp (disch := omega) only [onI_c, onS_c, onB_c, onN_c, onL_c, Option.bind_some, Option.map_some, cond_true, cond_false, ↓onI_c, ↓onS_c, ↓onB_c, ↓onN_c, ↓onL_c, ↓Option.bind_some, ↓cond_true, ↓cond_false, decide_eq_true, decide_eq_false, Bool.not_true, Bool.not_false, i64_in, u8_in, u32_in, i32_in, u16_in, u64_in, Int.toNat_natCast, List.length_append, List.length_cons, List.length_nil, tdiv_nn, tmod_nn, List.drop_zero, Nat.zero_add, Nat.add_zero, decT, decF, bneI_t, bneI_f, bytesOf_nil, bytesOf_cons, Isym_v, Ilit_v]
  · obtain ⟨n, rfl⟩ : ∃ n : Nat, a = -(n : Int) := ⟨a.natAbs, by omega⟩
    have e1 : Int.tdiv (-(n : Int)) 400 = -((n : Int) / 400) := by rw [Int.neg_tdiv, tdiv_nn (by omega)]
    have e2 : Int.tmod (-(n : Int)) 400 = -((n : Int) % 400) := by rw [Int.neg_tmod, tmod_nn (by omega)]
    by_cases hz : (n : Int) % 400 = 0
    · simp (disch := omega) only [onI_c, onS_c, onB_c, onN_c, onL_c, Option.bind_some, Option.map_some, cond_true, cond_false, ↓onI_c, ↓onS_c, ↓onB_c, ↓onN_c, ↓onL_c, ↓Option.bind_some, ↓cond_true, ↓cond_false, decide_eq_true, decide_eq_false, Bool.not_true, Bool.not_false, Int.toNat_natCast, List.length_append, List.length_cons, List.length_nil, List.drop_zero, Nat.zero_add, Nat.add_zero, decT, decF, bneI_t, bneI_f, e1, e2, i64_in]
      simp; omega
    · simp (disch := omega) only [onI_c, onS_c, onB_c, onN_c, onL_c, Option.bind_some, Option.map_some, cond_true, cond_false, ↓onI_c, ↓onS_c, ↓onB_c, ↓onN_c, ↓onL_c, ↓Option.bind_some, ↓cond_true, ↓cond_false, decide_eq_true, decide_eq_false, Bool.not_true, Bool.not_false, Int.toNat_natCast, List.length_append, List.length_cons, List.length_nil, List.drop_zero, Nat.zero_add, Nat.add_zero, decT, decF, bneI_t, bneI_f, e1, e2, i64_in]
      simp; omega
def bef (m : Int) : Int := if m = 1 then 0 else if m = 2 then 31 else if m = 3 then 59 else if m = 4 then 90 else if m = 5 then 120 else if m = 6 then 151 else if m = 7 then 181 else if m = 8 then 212 else if m = 9 then 243 else if m = 10 then 273 else if m = 11 then 304 else 334
def tab : List AV := [(Ax.AV.int .i64 (Ax.I.lit 0)), (Ax.AV.int .i64 (Ax.I.lit 31)), (Ax.AV.int .i64 (Ax.I.lit 59)), (Ax.AV.int .i64 (Ax.I.lit 90)), (Ax.AV.int .i64 (Ax.I.lit 120)), (Ax.AV.int .i64 (Ax.I.lit 151)), (Ax.AV.int .i64 (Ax.I.lit 181)), (Ax.AV.int .i64 (Ax.I.lit 212)), (Ax.AV.int .i64 (Ax.I.lit 243)), (Ax.AV.int .i64 (Ax.I.lit 273)), (Ax.AV.int .i64 (Ax.I.lit 304)), (Ax.AV.int .i64 (Ax.I.lit 334)), (Ax.AV.int .i64 (Ax.I.lit 365))]
theorem tab_at {m : Int} (h : 1 ≤ m ∧ m ≤ 12) : asI .i64 (tab[(m - 1).toNat]?) = some (bef m) := by
  have hm : m = 1 ∨ m = 2 ∨ m = 3 ∨ m = 4 ∨ m = 5 ∨ m = 6 ∨ m = 7 ∨ m = 8 ∨ m = 9 ∨ m = 10 ∨ m = 11 ∨ m = 12 := by omega
  rcases hm with rfl | rfl | rfl | rfl | rfl | rfl | rfl | rfl | rfl | rfl | rfl | rfl <;> rfl
theorem bef_bound (m : Int) : 0 ≤ bef m ∧ bef m ≤ 334 := by unfold bef; repeat' split <;> omega
/-- The day of a date. -/
def dn (y m d : Int) : Int := 365 * y + (y - 1) / 4 - (y - 1) / 100 + (y - 1) / 400 + 1 + (bef m + d - 1) + (if 2 < m ∧ lp y = true then 1 else 0) - 719528
theorem dn_bound {y m d : Int} (hy : -2000000000 ≤ y ∧ y ≤ 2000000000) (hd : 1 ≤ d ∧ d ≤ 31) : -1000000000000 ≤ dn y m d ∧ dn y m d ≤ 1000000000000 := by
  have := bef_bound m
  unfold dn
  split <;> omega
theorem days_at {y m d : Int} (hy : -2000000000 ≤ y ∧ y ≤ 2000000000) (hm : 1 ≤ m ∧ m ≤ 12) (hd : 1 ≤ d ∧ d ≤ ln y m) : F_civil_Days [.i y, .i m, .i d] = some [.i (dn y m d), .i 0] := by
  have hl := ln_bound y m
  have hb := bef_bound m
  have e1 : i64 (y - 1) = y - 1 := i64_in _ (by omega)
  have e2 : i64 (m - 1) = m - 1 := i64_in _ (by omega)
  have f1 := floor4 (a := y - 1) (by omega)
  have f2 := floor100 (a := y - 1) (by omega)
  have f3 := floor400 (a := y - 1) (by omega)
  have ht := tab_at hm
  unfold tab at ht
  unfold F_civil_Days dn
  have q1 : -500000001 ≤ (y - 1) / 4 ∧ (y - 1) / 4 ≤ 500000001 := by omega
  have q2 : -20000001 ≤ (y - 1) / 100 ∧ (y - 1) / 100 ≤ 20000001 := by omega
  have q3 : -5000001 ≤ (y - 1) / 400 ∧ (y - 1) / 400 ≤ 5000001 := by omega
  generalize (y - 1) / 4 = a1 at *
  generalize (y - 1) / 100 = a2 at *
  generalize (y - 1) / 400 = a3 at *
  by_cases h2 : 2 < m
  · cases hl : lp y with
    | true =>
      rw [if_pos ⟨h2, rfl⟩]
      simp (disch := omega) only [onI_c, onS_c, onB_c, onN_c, onL_c, Option.bind_some, Option.map_some, cond_true, cond_false, ↓onI_c, ↓onS_c, ↓onB_c, ↓onN_c, ↓onL_c, ↓Option.bind_some, ↓cond_true, ↓cond_false, decide_eq_true, decide_eq_false, Bool.not_true, Bool.not_false, Int.toNat_natCast, List.length_append, List.length_cons, List.length_nil, List.drop_zero, Nat.zero_add, Nat.add_zero, decT, decF, bneI_t, bneI_f, len_at, e1, e2, f1, f2, f3, ht, leap_at, hl, i64_in]
      simp; omega
    | false =>
      rw [if_neg (by simp)]
      simp (disch := omega) only [onI_c, onS_c, onB_c, onN_c, onL_c, Option.bind_some, Option.map_some, cond_true, cond_false, ↓onI_c, ↓onS_c, ↓onB_c, ↓onN_c, ↓onL_c, ↓Option.bind_some, ↓cond_true, ↓cond_false, decide_eq_true, decide_eq_false, Bool.not_true, Bool.not_false, Int.toNat_natCast, List.length_append, List.length_cons, List.length_nil, List.drop_zero, Nat.zero_add, Nat.add_zero, decT, decF, bneI_t, bneI_f, len_at, e1, e2, f1, f2, f3, ht, leap_at, hl, i64_in]
      simp; omega
  · rw [if_neg (fun q => h2 q.1)]
    simp (disch := omega) only [onI_c, onS_c, onB_c, onN_c, onL_c, Option.bind_some, Option.map_some, cond_true, cond_false, ↓onI_c, ↓onS_c, ↓onB_c, ↓onN_c, ↓onL_c, ↓Option.bind_some, ↓cond_true, ↓cond_false, decide_eq_true, decide_eq_false, Bool.not_true, Bool.not_false, Int.toNat_natCast, List.length_append, List.length_cons, List.length_nil, List.drop_zero, Nat.zero_add, Nat.add_zero, decT, decF, bneI_t, bneI_f, len_at, e1, e2, f1, f2, f3, ht, i64_in]
    simp; omega
theorem days_year {y m d : Int} (hy : y < -2000000000 ∨ 2000000000 < y) : F_civil_Days [.i y, .i m, .i d] = some [.i 0, .i 3] := by
  unfold F_civil_Days
  by_cases h : y < -2000000000
  · simp (disch := omega) only [onI_c, onS_c, onB_c, onN_c, onL_c, Option.bind_some, Option.map_some, cond_true, cond_false, ↓onI_c, ↓onS_c, ↓onB_c, ↓onN_c, ↓onL_c, ↓Option.bind_some, ↓cond_true, ↓cond_false, decide_eq_true, decide_eq_false, Bool.not_true, Bool.not_false, Int.toNat_natCast, List.length_append, List.length_cons, List.length_nil, List.drop_zero, Nat.zero_add, Nat.add_zero, decT, decF, bneI_t, bneI_f]
  · simp (disch := omega) only [onI_c, onS_c, onB_c, onN_c, onL_c, Option.bind_some, Option.map_some, cond_true, cond_false, ↓onI_c, ↓onS_c, ↓onB_c, ↓onN_c, ↓onL_c, ↓Option.bind_some, ↓cond_true, ↓cond_false, decide_eq_true, decide_eq_false, Bool.not_true, Bool.not_false, Int.toNat_natCast, List.length_append, List.length_cons, List.length_nil, List.drop_zero, Nat.zero_add, Nat.add_zero, decT, decF, bneI_t, bneI_f]
theorem days_day {y m d : Int} (hy : -2000000000 ≤ y ∧ y ≤ 2000000000) (hm : 1 ≤ m ∧ m ≤ 12) (hd : d < 1 ∨ ln y m < d) : F_civil_Days [.i y, .i m, .i d] = some [.i 0, .i 3] := by
  unfold F_civil_Days
  by_cases h : d < 1
  · simp (disch := omega) only [onI_c, onS_c, onB_c, onN_c, onL_c, Option.bind_some, Option.map_some, cond_true, cond_false, ↓onI_c, ↓onS_c, ↓onB_c, ↓onN_c, ↓onL_c, ↓Option.bind_some, ↓cond_true, ↓cond_false, decide_eq_true, decide_eq_false, Bool.not_true, Bool.not_false, Int.toNat_natCast, List.length_append, List.length_cons, List.length_nil, List.drop_zero, Nat.zero_add, Nat.add_zero, decT, decF, bneI_t, bneI_f]
  · simp (disch := omega) only [onI_c, onS_c, onB_c, onN_c, onL_c, Option.bind_some, Option.map_some, cond_true, cond_false, ↓onI_c, ↓onS_c, ↓onB_c, ↓onN_c, ↓onL_c, ↓Option.bind_some, ↓cond_true, ↓cond_false, decide_eq_true, decide_eq_false, Bool.not_true, Bool.not_false, Int.toNat_natCast, List.length_append, List.length_cons, List.length_nil, List.drop_zero, Nat.zero_add, Nat.add_zero, decT, decF, bneI_t, bneI_f, len_at]
theorem days_month {y m d : Int} (hy : -2000000000 ≤ y ∧ y ≤ 2000000000) (hm : m < 1 ∨ 12 < m) : F_civil_Days [.i y, .i m, .i d] = some [.i 0, .i 3] := by
  unfold F_civil_Days
  by_cases h : d < 1
  · simp (disch := omega) only [onI_c, onS_c, onB_c, onN_c, onL_c, Option.bind_some, Option.map_some, cond_true, cond_false, ↓onI_c, ↓onS_c, ↓onB_c, ↓onN_c, ↓onL_c, ↓Option.bind_some, ↓cond_true, ↓cond_false, decide_eq_true, decide_eq_false, Bool.not_true, Bool.not_false, Int.toNat_natCast, List.length_append, List.length_cons, List.length_nil, List.drop_zero, Nat.zero_add, Nat.add_zero, decT, decF, bneI_t, bneI_f]
  · simp (disch := omega) only [onI_c, onS_c, onB_c, onN_c, onL_c, Option.bind_some, Option.map_some, cond_true, cond_false, ↓onI_c, ↓onS_c, ↓onB_c, ↓onN_c, ↓onL_c, ↓Option.bind_some, ↓cond_true, ↓cond_false, decide_eq_true, decide_eq_false, Bool.not_true, Bool.not_false, Int.toNat_natCast, List.length_append, List.length_cons, List.length_nil, List.drop_zero, Nat.zero_add, Nat.add_zero, decT, decF, bneI_t, bneI_f, len_out]
theorem weekday_at {x : Int} (h : -4000000000000000000 ≤ x ∧ x ≤ 4000000000000000000) : F_civil_Weekday [.i x] = some [.i ((x + 4) % 7)] := by
  unfold F_civil_Weekday
  rcases Int.le_total 0 x with h0 | h0
  · simp (disch := omega) only [onI_c, onS_c, onB_c, onN_c, onL_c, Option.bind_some, Option.map_some, cond_true, cond_false, ↓onI_c, ↓onS_c, ↓onB_c, ↓onN_c, ↓onL_c, ↓Option.bind_some, ↓cond_true, ↓cond_false, decide_eq_true, decide_eq_false, Bool.not_true, Bool.not_false, i64_in, u8_in, u32_in, i32_in, u16_in, u64_in, Int.toNat_natCast, List.length_append, List.length_cons, List.length_nil, tdiv_nn, tmod_nn, List.drop_zero, Nat.zero_add, Nat.add_zero, decT, decF, bneI_t, bneI_f, bytesOf_nil, bytesOf_cons, Isym_v, Ilit_v]
    simp; omega
  · obtain ⟨n, rfl⟩ : ∃ n : Nat, x = -(n : Int) := ⟨x.natAbs, by omega⟩
    have e2 : Int.tmod (-(n : Int)) 7 = -((n : Int) % 7) := by rw [Int.neg_tmod, tmod_nn (by omega)]
    simp (disch := omega) only [onI_c, onS_c, onB_c, onN_c, onL_c, Option.bind_some, Option.map_some, cond_true, cond_false, ↓onI_c, ↓onS_c, ↓onB_c, ↓onN_c, ↓onL_c, ↓Option.bind_some, ↓cond_true, ↓cond_false, decide_eq_true, decide_eq_false, Bool.not_true, Bool.not_false, Int.toNat_natCast, List.length_append, List.length_cons, List.length_nil, List.drop_zero, Nat.zero_add, Nat.add_zero, decT, decF, bneI_t, bneI_f, e2, i64_in, tmod_nn]
    simp; omega
theorem kinds_at : F_dayform_kinds [] = some [.b false, .b false, .b false, .b true, .b true, .b false, .b true, .b true, .b true, .b true] := by kernel_rfl
theorem dayOf_at {a b d x : Int} (hd : -4000000000 ≤ d ∧ d ≤ 4000000000) (hx : -2000000000000000000 ≤ x ∧ x ≤ 2000000000000000000) : F_dayform_dayOf [.i a, .i b, .i d, .i x] = some [.i (x + d - 1)] := by
  unfold F_dayform_dayOf
  simp (disch := omega) only [onI_c, onS_c, onB_c, onN_c, onL_c, Option.bind_some, Option.map_some, cond_true, cond_false, ↓onI_c, ↓onS_c, ↓onB_c, ↓onN_c, ↓onL_c, ↓Option.bind_some, ↓cond_true, ↓cond_false, decide_eq_true, decide_eq_false, Bool.not_true, Bool.not_false, Int.toNat_natCast, List.length_append, List.length_cons, List.length_nil, List.drop_zero, Nat.zero_add, Nat.add_zero, decT, decF, bneI_t, bneI_f, i64_in]
theorem back_at {w x : Int} (hw : 0 ≤ w ∧ w ≤ 6) (hx : -2000000000000000000 ≤ x ∧ x ≤ 2000000000000000000) : F_dayform_back [.i w, .i x] = some [.i ((x + 4 - w) % 7)] := by
  unfold F_dayform_back
  have := Int.emod_nonneg (x + 4) (b := 7) (by omega)
  have := Int.emod_lt_of_pos (x + 4) (b := 7) (by omega)
  simp (disch := omega) only [onI_c, onS_c, onB_c, onN_c, onL_c, Option.bind_some, Option.map_some, cond_true, cond_false, ↓onI_c, ↓onS_c, ↓onB_c, ↓onN_c, ↓onL_c, ↓Option.bind_some, ↓cond_true, ↓cond_false, decide_eq_true, decide_eq_false, Bool.not_true, Bool.not_false, Int.toNat_natCast, List.length_append, List.length_cons, List.length_nil, List.drop_zero, Nat.zero_add, Nat.add_zero, decT, decF, bneI_t, bneI_f, weekday_at, i64_in, tmod_nn]
  simp <;> omega
theorem on_fixed {y m d : Int} (hy : -2000000000 ≤ y ∧ y ≤ 2000000000) (hm : 1 ≤ m ∧ m ≤ 12) (hd : 1 ≤ d ∧ d ≤ 31) : F_dayform_On [.i y, .i m, .i 1, .i 0, .i d] = some (if ln y m < d then [.i 0, .i 4] else [.i (dn y m 1 + d - 1), .i 0]) := by
  have hl := ln_bound y m
  have hb := dn_bound (m := m) (d := 1) hy (by omega)
  unfold F_dayform_On
  by_cases h : ln y m < d
  · rw [if_pos h]
    simp (disch := omega) only [onI_c, onS_c, onB_c, onN_c, onL_c, Option.bind_some, Option.map_some, cond_true, cond_false, ↓onI_c, ↓onS_c, ↓onB_c, ↓onN_c, ↓onL_c, ↓Option.bind_some, ↓cond_true, ↓cond_false, decide_eq_true, decide_eq_false, Bool.not_true, Bool.not_false, Int.toNat_natCast, List.length_append, List.length_cons, List.length_nil, List.drop_zero, Nat.zero_add, Nat.add_zero, decT, decF, bneI_t, bneI_f, kinds_at, days_at, len_at, dayOf_at, back_at]
  · rw [if_neg h]
    simp (disch := omega) only [onI_c, onS_c, onB_c, onN_c, onL_c, Option.bind_some, Option.map_some, cond_true, cond_false, ↓onI_c, ↓onS_c, ↓onB_c, ↓onN_c, ↓onL_c, ↓Option.bind_some, ↓cond_true, ↓cond_false, decide_eq_true, decide_eq_false, Bool.not_true, Bool.not_false, Int.toNat_natCast, List.length_append, List.length_cons, List.length_nil, List.drop_zero, Nat.zero_add, Nat.add_zero, decT, decF, bneI_t, bneI_f, kinds_at, days_at, len_at, dayOf_at, back_at]
theorem on_last {y m w : Int} (hy : -2000000000 ≤ y ∧ y ≤ 2000000000) (hm : 1 ≤ m ∧ m ≤ 12) (hw : 0 ≤ w ∧ w ≤ 6) : F_dayform_On [.i y, .i m, .i 2, .i w, .i 0] = some [.i (dn y m 1 + ln y m - 1 - (dn y m 1 + ln y m - 1 + 4 - w) % 7), .i 0] := by
  have hl := ln_bound y m
  have hb := dn_bound (m := m) (d := 1) hy (by omega)
  unfold F_dayform_On
  simp (disch := omega) only [onI_c, onS_c, onB_c, onN_c, onL_c, Option.bind_some, Option.map_some, cond_true, cond_false, ↓onI_c, ↓onS_c, ↓onB_c, ↓onN_c, ↓onL_c, ↓Option.bind_some, ↓cond_true, ↓cond_false, decide_eq_true, decide_eq_false, Bool.not_true, Bool.not_false, Int.toNat_natCast, List.length_append, List.length_cons, List.length_nil, List.drop_zero, Nat.zero_add, Nat.add_zero, decT, decF, bneI_t, bneI_f, kinds_at, days_at, len_at, dayOf_at, back_at, i64_in]
theorem on_from {y m w d : Int} (hy : -2000000000 ≤ y ∧ y ≤ 2000000000) (hm : 1 ≤ m ∧ m ≤ 12) (hw : 0 ≤ w ∧ w ≤ 6) (hd : 1 ≤ d ∧ d ≤ 31) : F_dayform_On [.i y, .i m, .i 3, .i w, .i d] = some (if ln y m < d then [.i 0, .i 4] else [.i (dn y m 1 + d - 1 + 6 - (dn y m 1 + d - 1 + 6 + 4 - w) % 7), .i 0]) := by
  have hl := ln_bound y m
  have hb := dn_bound (m := m) (d := 1) hy (by omega)
  unfold F_dayform_On
  by_cases h : ln y m < d
  · rw [if_pos h]
    simp (disch := omega) only [onI_c, onS_c, onB_c, onN_c, onL_c, Option.bind_some, Option.map_some, cond_true, cond_false, ↓onI_c, ↓onS_c, ↓onB_c, ↓onN_c, ↓onL_c, ↓Option.bind_some, ↓cond_true, ↓cond_false, decide_eq_true, decide_eq_false, Bool.not_true, Bool.not_false, Int.toNat_natCast, List.length_append, List.length_cons, List.length_nil, List.drop_zero, Nat.zero_add, Nat.add_zero, decT, decF, bneI_t, bneI_f, kinds_at, days_at, len_at, dayOf_at, back_at, i64_in]
  · rw [if_neg h]
    simp (disch := omega) only [onI_c, onS_c, onB_c, onN_c, onL_c, Option.bind_some, Option.map_some, cond_true, cond_false, ↓onI_c, ↓onS_c, ↓onB_c, ↓onN_c, ↓onL_c, ↓Option.bind_some, ↓cond_true, ↓cond_false, decide_eq_true, decide_eq_false, Bool.not_true, Bool.not_false, Int.toNat_natCast, List.length_append, List.length_cons, List.length_nil, List.drop_zero, Nat.zero_add, Nat.add_zero, decT, decF, bneI_t, bneI_f, kinds_at, days_at, len_at, dayOf_at, back_at, i64_in]
theorem on_to {y m w d : Int} (hy : -2000000000 ≤ y ∧ y ≤ 2000000000) (hm : 1 ≤ m ∧ m ≤ 12) (hw : 0 ≤ w ∧ w ≤ 6) (hd : 1 ≤ d ∧ d ≤ 31) : F_dayform_On [.i y, .i m, .i 4, .i w, .i d] = some (if ln y m < d then [.i 0, .i 4] else [.i (dn y m 1 + d - 1 - (dn y m 1 + d - 1 + 4 - w) % 7), .i 0]) := by
  have hl := ln_bound y m
  have hb := dn_bound (m := m) (d := 1) hy (by omega)
  unfold F_dayform_On
  by_cases h : ln y m < d
  · rw [if_pos h]
    simp (disch := omega) only [onI_c, onS_c, onB_c, onN_c, onL_c, Option.bind_some, Option.map_some, cond_true, cond_false, ↓onI_c, ↓onS_c, ↓onB_c, ↓onN_c, ↓onL_c, ↓Option.bind_some, ↓cond_true, ↓cond_false, decide_eq_true, decide_eq_false, Bool.not_true, Bool.not_false, Int.toNat_natCast, List.length_append, List.length_cons, List.length_nil, List.drop_zero, Nat.zero_add, Nat.add_zero, decT, decF, bneI_t, bneI_f, kinds_at, days_at, len_at, dayOf_at, back_at, i64_in]
  · rw [if_neg h]
    simp (disch := omega) only [onI_c, onS_c, onB_c, onN_c, onL_c, Option.bind_some, Option.map_some, cond_true, cond_false, ↓onI_c, ↓onS_c, ↓onB_c, ↓onN_c, ↓onL_c, ↓Option.bind_some, ↓cond_true, ↓cond_false, decide_eq_true, decide_eq_false, Bool.not_true, Bool.not_false, Int.toNat_natCast, List.length_append, List.length_cons, List.length_nil, List.drop_zero, Nat.zero_add, Nat.add_zero, decT, decF, bneI_t, bneI_f, kinds_at, days_at, len_at, dayOf_at, back_at, i64_in]

/-- A form that isn't right. -/
def Bad (k w d : Int) : Prop := k < 1 ∨ 4 < k ∨ (k = 1 ∧ w ≠ 0) ∨ (k = 1 ∧ w = 0 ∧ d < 1) ∨ (k = 1 ∧ w = 0 ∧ 31 < d) ∨ (k = 2 ∧ w < 0) ∨ (k = 2 ∧ 6 < w) ∨ (k = 2 ∧ 0 ≤ w ∧ w ≤ 6 ∧ d ≠ 0) ∨
  (k = 3 ∧ w < 0) ∨ (k = 3 ∧ 6 < w) ∨ (k = 3 ∧ 0 ≤ w ∧ w ≤ 6 ∧ d < 1) ∨ (k = 3 ∧ 0 ≤ w ∧ w ≤ 6 ∧ 31 < d) ∨ (k = 4 ∧ w < 0) ∨ (k = 4 ∧ 6 < w) ∨ (k = 4 ∧ 0 ≤ w ∧ w ≤ 6 ∧ d < 1) ∨ (k = 4 ∧ 0 ≤ w ∧ w ≤ 6 ∧ 31 < d)
theorem on_bad {y m k w d : Int} (hy : -2000000000 ≤ y ∧ y ≤ 2000000000) (hm : 1 ≤ m ∧ m ≤ 12) (h : Bad k w d) : F_dayform_On [.i y, .i m, .i k, .i w, .i d] = some [.i 0, .i 2] := by
  have hl := ln_bound y m
  have hd := days_at (d := 1) hy hm (by omega)
  have hb := dn_bound (m := m) (d := 1) hy (by omega)
  generalize dn y m 1 = D at *
  unfold F_dayform_On
  clear hl hb
  rcases h with h | h | ⟨rfl, h⟩ | ⟨rfl, rfl, h⟩ | ⟨rfl, rfl, h⟩ | ⟨rfl, h⟩ | ⟨rfl, h⟩ | ⟨rfl, h0, h6, h⟩ | ⟨rfl, h⟩ | ⟨rfl, h⟩ | ⟨rfl, h0, h6, h⟩ | ⟨rfl, h0, h6, h⟩ | ⟨rfl, h⟩ | ⟨rfl, h⟩ | ⟨rfl, h0, h6, h⟩ | ⟨rfl, h0, h6, h⟩
  · simp (disch := omega) only [onI_c, onS_c, onB_c, onN_c, onL_c, Option.bind_some, Option.map_some, cond_true, cond_false, ↓onI_c, ↓onS_c, ↓onB_c, ↓onN_c, ↓onL_c, ↓Option.bind_some, ↓cond_true, ↓cond_false, decide_eq_true, decide_eq_false, Bool.not_true, Bool.not_false, Int.toNat_natCast, List.length_append, List.length_cons, List.length_nil, List.drop_zero, Nat.zero_add, Nat.add_zero, decT, decF, bneI_t, bneI_f, kinds_at, hd]
  · by_cases h1 : k < 1
    · omega
    · simp (disch := omega) only [onI_c, onS_c, onB_c, onN_c, onL_c, Option.bind_some, Option.map_some, cond_true, cond_false, ↓onI_c, ↓onS_c, ↓onB_c, ↓onN_c, ↓onL_c, ↓Option.bind_some, ↓cond_true, ↓cond_false, decide_eq_true, decide_eq_false, Bool.not_true, Bool.not_false, Int.toNat_natCast, List.length_append, List.length_cons, List.length_nil, List.drop_zero, Nat.zero_add, Nat.add_zero, decT, decF, bneI_t, bneI_f, kinds_at, hd]
  all_goals simp (disch := omega) only [onI_c, onS_c, onB_c, onN_c, onL_c, Option.bind_some, Option.map_some, cond_true, cond_false, ↓onI_c, ↓onS_c, ↓onB_c, ↓onN_c, ↓onL_c, ↓Option.bind_some, ↓cond_true, ↓cond_false, decide_eq_true, decide_eq_false, Bool.not_true, Bool.not_false, Int.toNat_natCast, List.length_append, List.length_cons, List.length_nil, List.drop_zero, Nat.zero_add, Nat.add_zero, decT, decF, bneI_t, bneI_f, kinds_at, hd]
theorem on_range {y m k w d : Int} (h : F_civil_Days [.i y, .i m, .i 1] = some [.i 0, .i 3]) : F_dayform_On [.i y, .i m, .i k, .i w, .i d] = some [.i 0, .i 3] := by
  unfold F_dayform_On
  simp (disch := omega) only [onI_c, onS_c, onB_c, onN_c, onL_c, Option.bind_some, Option.map_some, cond_true, cond_false, ↓onI_c, ↓onS_c, ↓onB_c, ↓onN_c, ↓onL_c, ↓Option.bind_some, ↓cond_true, ↓cond_false, decide_eq_true, decide_eq_false, Bool.not_true, Bool.not_false, Int.toNat_natCast, List.length_append, List.length_cons, List.length_nil, List.drop_zero, Nat.zero_add, Nat.add_zero, decT, decF, bneI_t, bneI_f, h]
/-- A right form. -/
structure Good (k w d : Int) : Prop where
  out : (k = 1 ∧ w = 0 ∧ 1 ≤ d ∧ d ≤ 31) ∨ (k = 2 ∧ 0 ≤ w ∧ w ≤ 6 ∧ d = 0) ∨ (k = 3 ∧ 0 ≤ w ∧ w ≤ 6 ∧ 1 ≤ d ∧ d ≤ 31) ∨ (k = 4 ∧ 0 ≤ w ∧ w ≤ 6 ∧ 1 ≤ d ∧ d ≤ 31)
theorem named_at (y : Int) : F_number_Named [.i y] = some [.b (decide (1850 ≤ y) && decide (y ≤ 2149))] := by
  unfold F_number_Named
  rw [onI_c]
  cases decide (1850 ≤ y) <;> cases decide (y ≤ 2149) <;> rfl

/-! The document's civil days. -/
theorem rleap_at (y : Int) : F_ref01_Leap [.i y] = some [.b (lp y)] := by
  have h4 : (Int.tmod y 4 = 0) ↔ y % 4 = 0 := tmod_zero y 4
  have h100 : (Int.tmod y 100 = 0) ↔ y % 100 = 0 := tmod_zero y 100
  have h400 : (Int.tmod y 400 = 0) ↔ y % 400 = 0 := tmod_zero y 400
  unfold F_ref01_Leap lp
  by_cases a : y % 4 = 0 <;> by_cases b : y % 100 = 0 <;> by_cases c : y % 400 = 0 <;> simp [onI, h4, h100, h400, a, b, c] <;> omega
theorem rlen_at {y m : Int} (h : 1 ≤ m ∧ m ≤ 12) : F_ref01_Len [.i y, .i m] = some [.i (ln y m)] := by
  have hl := rleap_at y
  have hm : m = 1 ∨ m = 2 ∨ m = 3 ∨ m = 4 ∨ m = 5 ∨ m = 6 ∨ m = 7 ∨ m = 8 ∨ m = 9 ∨ m = 10 ∨ m = 11 ∨ m = 12 := by omega
  have h2 : ln y 2 = (if lp y = true then 29 else 28) := rfl
  rcases hm with rfl | rfl | rfl | rfl | rfl | rfl | rfl | rfl | rfl | rfl | rfl | rfl
  · rfl
  · rw [h2]
    have : F_ref01_Len [.i y, .i 2] = Option.bind (F_ref01_Leap [.i y]) fun r => onB r fun b _ => bif b then some [.i 29] else some [.i 28] := by kernel_rfl
    rw [this, hl, Option.bind_some, onB_c]
    cases lp y <;> rfl
  all_goals rfl
def D1 (i : Int) : Int := 365 * i + (i - 1) / 4 - (i - 1) / 100 + (i - 1) / 400 + 1 - 719528
theorem rsize_at (y : Int) : F_ref01_size [.i y] = some [.i (D1 (y + 1) - D1 y)] := by
  unfold F_ref01_size
  rw [onI_c, rleap_at, Option.bind_some, onB_c]
  have : D1 (y + 1) - D1 y = (if lp y = true then 366 else 365) := by
    unfold D1 lp
    by_cases a : y % 4 = 0 ∧ (y % 100 ≠ 0 ∨ y % 400 = 0)
    · rw [if_pos (decide_eq_true a)]; omega
    · rw [if_neg (by rw [decide_eq_false a]; simp)]; omega
  rw [this]
  cases lp y <;> rfl
theorem D1_bound {y : Int} (hy : -2000000800 ≤ y ∧ y ≤ 2000000800) : -1000000000000 ≤ D1 y ∧ D1 y ≤ 1000000000000 := by unfold D1; omega
theorem first_run {y : Int} (hy : -2000000000 ≤ y ∧ y ≤ 2000000000) : ∀ (n : Nat) (i : Int), i + n = y → -2000000800 ≤ i → iter F_ref01_first_L0 [.i y, .i (D1 i), .i i] = some [.i (D1 y)]
  | 0, i, h, _ => by
    obtain rfl : i = y := by omega
    refine iter_end ?_
    unfold F_ref01_first_L0
    simp only [onI_c, decide_eq_false (show ¬ i < i by omega), cond_false, Option.map_some]
  | n + 1, i, h, hl => by
    have h1 : i < y := by omega
    have hb := D1_bound (y := i) (by omega)
    have hb2 := D1_bound (y := i + 1) (by omega)
    have e1 : i64 (D1 i + (D1 (i + 1) - D1 i)) = D1 (i + 1) := by rw [i64_in _ (by omega)]; omega
    have e2 : i64 (i + 1) = i + 1 := i64_in _ (by omega)
    rw [iter_next (y := [.i y, .i (D1 (i + 1)), .i (i + 1)])]
    · exact first_run hy n (i + 1) (by omega) (by omega)
    · unfold F_ref01_first_L0
      simp only [onI_c, decide_eq_true h1, cond_true, rsize_at, Option.bind_some, e1, e2]
theorem rfloor_at {a : Int} (h : -4000000000 ≤ a ∧ a ≤ 4000000000) : F_ref01_floor [.i a, .i 400] = some [.i (a / 400)] := by
  have := floor400 h
  have e : F_ref01_floor = F_civil_floor := rfl
  rw [e]; exact this
theorem first_at {y : Int} (hy : -2000000000 ≤ y ∧ y ≤ 2000000000) : F_ref01_first [.i y] = some [.i (D1 y)] := by
  have hf := rfloor_at (a := y) (by omega)
  have e1 : i64 (y / 400 * 146097) = y / 400 * 146097 := i64_in _ (by omega)
  have e2 : i64 (y / 400 * 146097 - 719528) = D1 (y / 400 * 400) := by
    rw [i64_in _ (by omega)]; unfold D1; omega
  have e3 : i64 (y / 400 * 400) = y / 400 * 400 := i64_in _ (by omega)
  unfold F_ref01_first
  rw [onI_c, hf, Option.bind_some, onI_c, e1, e2, e3]
  exact first_run hy (y - y / 400 * 400).toNat _ (by omega) (by omega)
def sm (y m : Int) : Int := bef m + (if 2 < m ∧ lp y = true then 1 else 0)
theorem sm_next {y m : Int} (h : 1 ≤ m ∧ m < 12) : sm y m + ln y m = sm y (m + 1) := by
  have hm : m = 1 ∨ m = 2 ∨ m = 3 ∨ m = 4 ∨ m = 5 ∨ m = 6 ∨ m = 7 ∨ m = 8 ∨ m = 9 ∨ m = 10 ∨ m = 11 := by omega
  unfold sm
  rcases hm with rfl | rfl | rfl | rfl | rfl | rfl | rfl | rfl | rfl | rfl | rfl <;> cases hl : lp y <;> simp [bef, ln, hl]
theorem sm_bound {y m : Int} : 0 ≤ sm y m ∧ sm y m ≤ 335 := by
  have := bef_bound m
  unfold sm; split <;> omega
theorem days_run {y m : Int} (hy : -2000000000 ≤ y ∧ y ≤ 2000000000) (hm : 1 ≤ m ∧ m ≤ 12) : ∀ (n : Nat) (i : Int), i + n = m → 1 ≤ i → iter F_ref01_Days_L0 [.i y, .i m, .i 1, .i (D1 y + sm y i), .i i] = some [.i (D1 y + sm y m), .i 0]
  | 0, i, h, h1 => by
    obtain rfl : i = m := by omega
    have hb := D1_bound (y := y) (by omega)
    have hs := sm_bound (y := y) (m := i)
    have e1 : i64 (D1 y + sm y i + 1) = D1 y + sm y i + 1 := i64_in _ (by omega)
    have e2 : i64 (D1 y + sm y i + 1 - 1) = D1 y + sm y i := by rw [i64_in _ (by omega)]; omega
    refine iter_end ?_
    unfold F_ref01_Days_L0
    simp only [onI_c, decide_eq_false (show ¬ i < i by omega), cond_false, Option.map_some, e1, e2]
  | n + 1, i, h, h1 => by
    have hlt : i < m := by omega
    have hb := D1_bound (y := y) (by omega)
    have hs := sm_bound (y := y) (m := i)
    have hs2 := sm_bound (y := y) (m := i + 1)
    have hn := sm_next (y := y) (m := i) (by omega)
    have e1 : i64 (D1 y + sm y i + ln y i) = D1 y + sm y (i + 1) := by rw [i64_in _ (by omega)]; omega
    have e2 : i64 (i + 1) = i + 1 := i64_in _ (by omega)
    rw [iter_next (y := [.i y, .i m, .i 1, .i (D1 y + sm y (i + 1)), .i (i + 1)])]
    · exact days_run hy hm n (i + 1) (by omega) (by omega)
    · unfold F_ref01_Days_L0
      simp only [onI_c, decide_eq_true hlt, cond_true, rlen_at (y := y) (m := i) (by omega), Option.bind_some, e1, e2]
theorem dn_sm {y m : Int} : dn y m 1 = D1 y + sm y m := by unfold dn D1 sm; omega
theorem rdays_at {y m : Int} (hy : -2000000000 ≤ y ∧ y ≤ 2000000000) (hm : 1 ≤ m ∧ m ≤ 12) : F_ref01_Days [.i y, .i m, .i 1] = some [.i (dn y m 1), .i 0] := by
  have hi : F_ref01_in [.i y] = some [.b true] := by
    unfold F_ref01_in
    rw [onI_c, decide_eq_true hy.1, decide_eq_true hy.2]; rfl
  have hl := ln_bound y m
  have d1 : decide ((1 : Int) < 1) = false := rfl
  have d2 : decide (ln y m < 1) = false := decide_eq_false (by omega)
  have hs1 : sm y 1 = 0 := by unfold sm; simp [bef]
  have hrun := days_run hy hm (m - 1).toNat 1 (by omega) (by omega)
  rw [hs1, Int.add_zero] at hrun
  unfold F_ref01_Days
  simp only [onI_c, hi, Option.bind_some, onB_c, Bool.not_true, cond_false, d1, rlen_at hm, d2, first_at hy]
  rw [hrun, dn_sm]
theorem rweek_at {x : Int} (h : -4000000000000000000 ≤ x ∧ x ≤ 4000000000000000000) : F_ref01_Weekday [.i x] = some [.i ((x + 4) % 7)] := by
  have hb : -6 ≤ Int.tmod x 7 ∧ Int.tmod x 7 ≤ 6 ∧ (Int.tmod x 7 + 11) % 7 = (x + 4) % 7 := by
    have h3 := Int.tmod_eq_emod (a := x) (b := 7)
    have := Int.emod_nonneg x (b := 7) (by omega)
    have := Int.emod_lt_of_pos x (b := 7) (by omega)
    split at h3 <;> omega
  have e1 : i64 (Int.tmod x 7 + 11) = Int.tmod x 7 + 11 := i64_in _ (by omega)
  have e2 : Int.tmod (Int.tmod x 7 + 11) 7 = (Int.tmod x 7 + 11) % 7 := tmod_nn (by omega)
  unfold F_ref01_Weekday
  rw [onI_c, e1, e2, hb.2.2]
theorem up_run {k w d : Int} (hw : 0 ≤ w ∧ w ≤ 6) : ∀ (n : Nat) (x : Int), (-2000000000000 ≤ x ∧ x + n ≤ 2000000000000) → (w - 4 - x) % 7 = n → iter F_ref02_On_L0 [.i x, .i k, .i w, .i d] = some [.i (x + n), .i 0]
  | 0, x, hx, hn => by
    have he : (x + 4) % 7 = w := by omega
    refine iter_end ?_
    unfold F_ref02_On_L0
    rw [show x + ((0 : Nat) : Int) = x by omega]
    simp only [onI_c, rweek_at (x := x) (by omega), Option.bind_some, he, decide_true, Bool.not_true, cond_false, Option.map_some]
  | n + 1, x, hx, hn => by
    have hne : ¬ (x + 4) % 7 = w := by omega
    have e1 : i64 (x + 1) = x + 1 := i64_in _ (by omega)
    rw [iter_next (y := [.i (x + 1), .i k, .i w, .i d]), up_run hw n (x + 1) (by omega) (by omega), show x + 1 + (n : Int) = x + ((n + 1 : Nat) : Int) by omega]
    unfold F_ref02_On_L0
    simp only [onI_c, rweek_at (x := x) (by omega), Option.bind_some, decide_eq_false hne, Bool.not_false, cond_true, e1]
theorem down_run {k w d : Int} (hw : 0 ≤ w ∧ w ≤ 6) : ∀ (n : Nat) (x : Int), (-2000000000000 ≤ x - n ∧ x ≤ 2000000000000) → (x + 4 - w) % 7 = n → iter F_ref02_On_L1 [.i x, .i k, .i w, .i d] = some [.i (x - n), .i 0]
  | 0, x, hx, hn => by
    have he : (x + 4) % 7 = w := by omega
    refine iter_end ?_
    unfold F_ref02_On_L1
    rw [show x - ((0 : Nat) : Int) = x by omega]
    simp only [onI_c, rweek_at (x := x) (by omega), Option.bind_some, he, decide_true, Bool.not_true, cond_false, Option.map_some]
  | n + 1, x, hx, hn => by
    have hne : ¬ (x + 4) % 7 = w := by omega
    have e1 : i64 (x - 1) = x - 1 := i64_in _ (by omega)
    rw [iter_next (y := [.i (x - 1), .i k, .i w, .i d]), down_run hw n (x - 1) (by omega) (by omega), show x - 1 - (n : Int) = x - ((n + 1 : Nat) : Int) by omega]
    unfold F_ref02_On_L1
    simp only [onI_c, rweek_at (x := x) (by omega), Option.bind_some, decide_eq_false hne, Bool.not_false, cond_true, e1]
theorem L2_eq : F_ref02_On_L2 = F_ref02_On_L1 := rfl
theorem in_at (n a b : Int) : F_ref02_in [.i n, .i a, .i b] = some [.b (decide (a ≤ n) && decide (n ≤ b))] := by
  unfold F_ref02_in
  rw [onI_c, onI_c, onI_c]
  cases decide (a ≤ n) <;> cases decide (n ≤ b) <;> rfl
theorem rcheck_good {k w d : Int} (h : Good k w d) : F_ref02_Check [.i k, .i w, .i d] = some [.i 0] := by
  unfold F_ref02_Check
  simp only [onI_c, in_at, Option.bind_some, onB_c]
  rcases h.out with ⟨rfl, rfl, h1, h2⟩ | ⟨rfl, h1, h2, rfl⟩ | ⟨rfl, h1, h2, h3, h4⟩ | ⟨rfl, h1, h2, h3, h4⟩
  · rw [decide_eq_true h1, decide_eq_true h2]; rfl
  · rw [decide_eq_true h1, decide_eq_true h2]; rfl
  · rw [decide_eq_true h1, decide_eq_true h2, decide_eq_true h3, decide_eq_true h4]; rfl
  · rw [decide_eq_true h1, decide_eq_true h2, decide_eq_true h3, decide_eq_true h4]; rfl
theorem rcheck_bad {k w d : Int} (h : ¬ ((k = 1 ∧ w = 0 ∧ 1 ≤ d ∧ d ≤ 31) ∨ (k = 2 ∧ 0 ≤ w ∧ w ≤ 6 ∧ d = 0) ∨ (k = 3 ∧ 0 ≤ w ∧ w ≤ 6 ∧ 1 ≤ d ∧ d ≤ 31) ∨ (k = 4 ∧ 0 ≤ w ∧ w ≤ 6 ∧ 1 ≤ d ∧ d ≤ 31))) : F_ref02_Check [.i k, .i w, .i d] = some [.i 2] := by
  unfold F_ref02_Check
  simp only [onI_c, in_at, Option.bind_some, onB_c]
  by_cases k1 : k = 1
  · subst k1
    by_cases q : w = 0
    · subst q
      have : (decide (1 ≤ d) && decide (d ≤ 31)) = false := by
        rw [Bool.and_eq_false_iff]
        by_cases p : 1 ≤ d
        · exact .inr (decide_eq_false (by omega))
        · exact .inl (decide_eq_false p)
      rw [this]; rfl
    · rw [decide_eq_false q]; rfl
  · rw [decide_eq_false k1, cond_false]
    have hwk : ∀ X : Bool, (k = 2 ∨ k = 3 ∨ k = 4) → (decide (0 ≤ w) && decide (w ≤ 6)) = X → X = false ∨ (0 ≤ w ∧ w ≤ 6) := by
      intro X _ hX
      by_cases p : 0 ≤ w ∧ w ≤ 6
      · exact .inr p
      · refine .inl ?_
        rw [← hX, Bool.and_eq_false_iff]
        by_cases p1 : 0 ≤ w
        · exact .inr (decide_eq_false (by omega))
        · exact .inl (decide_eq_false p1)
    have hdk : ∀ X : Bool, (decide (1 ≤ d) && decide (d ≤ 31)) = X → X = false ∨ (1 ≤ d ∧ d ≤ 31) := by
      intro X hX
      by_cases p : 1 ≤ d ∧ d ≤ 31
      · exact .inr p
      · refine .inl ?_
        rw [← hX, Bool.and_eq_false_iff]
        by_cases p1 : 1 ≤ d
        · exact .inr (decide_eq_false (by omega))
        · exact .inl (decide_eq_false p1)
    generalize hB : (decide (1 ≤ d) && decide (d ≤ 31)) = B at *
    generalize hA : (decide (0 ≤ w) && decide (w ≤ 6)) = A at *
    have hd2 := hdk B rfl
    by_cases k2 : k = 2
    · have ha2 := hwk A (.inl k2) rfl
      subst k2
      rcases ha2 with rfl | p
      · rfl
      · have : decide (d = 0) = false := decide_eq_false (by omega)
        rw [this]; cases A <;> rfl
    · rw [decide_eq_false k2, cond_false]
      by_cases k3 : k = 3
      · have ha2 := hwk A (.inr (.inl k3)) rfl
        subst k3
        rcases ha2 with rfl | p
        · rfl
        · rcases hd2 with rfl | p2
          · cases A <;> rfl
          · omega
      · rw [decide_eq_false k3, cond_false]
        by_cases k4 : k = 4
        · have ha2 := hwk A (.inr (.inr k4)) rfl
          subst k4
          rcases ha2 with rfl | p
          · rfl
          · rcases hd2 with rfl | p2
            · cases A <;> rfl
            · omega
        · rw [decide_eq_false k4]; rfl
theorem bad_of {k w d : Int} (h : ¬ ((k = 1 ∧ w = 0 ∧ 1 ≤ d ∧ d ≤ 31) ∨ (k = 2 ∧ 0 ≤ w ∧ w ≤ 6 ∧ d = 0) ∨ (k = 3 ∧ 0 ≤ w ∧ w ≤ 6 ∧ 1 ≤ d ∧ d ≤ 31) ∨ (k = 4 ∧ 0 ≤ w ∧ w ≤ 6 ∧ 1 ≤ d ∧ d ≤ 31))) : Bad k w d := by
  by_cases a1 : k < 1
  · exact .inl a1
  by_cases a2 : 4 < k
  · exact .inr (.inl a2)
  have hk : k = 1 ∨ k = 2 ∨ k = 3 ∨ k = 4 := by omega
  rcases hk with rfl | rfl | rfl | rfl
  · by_cases q : w = 0
    · by_cases p : d < 1
      · exact .inr (.inr (.inr (.inl ⟨rfl, q, p⟩)))
      · exact .inr (.inr (.inr (.inr (.inl ⟨rfl, q, by omega⟩))))
    · exact .inr (.inr (.inl ⟨rfl, q⟩))
  · by_cases q : w < 0
    · exact .inr (.inr (.inr (.inr (.inr (.inl ⟨rfl, q⟩)))))
    by_cases q2 : 6 < w
    · exact .inr (.inr (.inr (.inr (.inr (.inr (.inl ⟨rfl, q2⟩))))))
    exact .inr (.inr (.inr (.inr (.inr (.inr (.inr (.inl ⟨rfl, by omega, by omega, by omega⟩)))))))
  · by_cases q : w < 0
    · exact .inr (.inr (.inr (.inr (.inr (.inr (.inr (.inr (.inl ⟨rfl, q⟩))))))))
    by_cases q2 : 6 < w
    · exact .inr (.inr (.inr (.inr (.inr (.inr (.inr (.inr (.inr (.inl ⟨rfl, q2⟩)))))))))
    by_cases q3 : d < 1
    · exact .inr (.inr (.inr (.inr (.inr (.inr (.inr (.inr (.inr (.inr (.inl ⟨rfl, by omega, by omega, q3⟩))))))))))
    exact .inr (.inr (.inr (.inr (.inr (.inr (.inr (.inr (.inr (.inr (.inr (.inl ⟨rfl, by omega, by omega, by omega⟩)))))))))))
  · by_cases q : w < 0
    · exact .inr (.inr (.inr (.inr (.inr (.inr (.inr (.inr (.inr (.inr (.inr (.inr (.inl ⟨rfl, q⟩))))))))))))
    by_cases q2 : 6 < w
    · exact .inr (.inr (.inr (.inr (.inr (.inr (.inr (.inr (.inr (.inr (.inr (.inr (.inr (.inl ⟨rfl, q2⟩)))))))))))))
    by_cases q3 : d < 1
    · exact .inr (.inr (.inr (.inr (.inr (.inr (.inr (.inr (.inr (.inr (.inr (.inr (.inr (.inr (.inl ⟨rfl, by omega, by omega, q3⟩))))))))))))))
    exact .inr (.inr (.inr (.inr (.inr (.inr (.inr (.inr (.inr (.inr (.inr (.inr (.inr (.inr (.inr ⟨rfl, by omega, by omega, by omega⟩))))))))))))))
end Go.Proofs.YtcohbcdhcmajiaaDoor
