/-
  Day forms: the day has the weekday, and is near.
-/
import Derived.Test.YtljbgkfoljjgbaaDoorMRefusesday
namespace Go.Proofs.YtljbgkfoljjgbaaDoor
open Go.Ax Go.Lib
set_option linter.all false
set_option maxHeartbeats 8000000
attribute [local congr] cond_cong bind_cong onI_cong onB_cong onS_cong onN_cong onL_cong

theorem law_DayformWeekdays {a b c y m : Int} (ha : 0 ≤ a ∧ a ≤ 255) (hb : 0 ≤ b ∧ b ≤ 255) (hc : 0 ≤ c ∧ c ≤ 255) (hy : -2147483648 ≤ y ∧ y ≤ 2147483647) (hm : 0 ≤ m ∧ m ≤ 255) : F_law02_DayformWeekdays [.i a, .i b, .i c, .i y, .i m] = some [.b true] := by
  obtain ⟨k, w, d, hmade, ⟨hg⟩⟩ := made_at ha hb hc
  obtain ⟨z, hyear, hz⟩ := year_at hy
  have E : i64 (1 + i64 (Int.tmod m 12)) = 1 + m % 12 := by rw [tmod_nn hm.1, i64_in (m % 12) (by omega), i64_in _ (by omega)]
  have hM : 1 ≤ 1 + m % 12 ∧ 1 + m % 12 ≤ 12 := by omega
  generalize 1 + m % 12 = M at *
  clear ha hb hc hy hm
  have hl := ln_bound z M
  have hD := dn_bound (m := M) (d := 1) hz (by omega)
  have hd := days_at (d := 1) hz hM (by omega)
  have hn := len_at (y := z) hM
  unfold F_law02_DayformWeekdays
  rcases hg with ⟨rfl, rfl, hg⟩ | ⟨rfl, hg1, hg2, rfl⟩ | ⟨rfl, hw1, hw2, hg⟩ | ⟨rfl, hw1, hw2, hg⟩
  · have ho := on_fixed hz hM hg
    have hk := check_fixed hg
    generalize dn z M 1 = D at *
    generalize ln z M = n at *
    by_cases h : n < d
    · rw [if_pos h] at ho
      simp (disch := omega) only [onI_c, onS_c, onB_c, onN_c, onL_c, Option.bind_some, Option.map_some, cond_true, cond_false, ↓onI_c, ↓onS_c, ↓onB_c, ↓onN_c, ↓onL_c, ↓Option.bind_some, ↓cond_true, ↓cond_false, decide_eq_true, decide_eq_false, Bool.not_true, Bool.not_false, Int.toNat_natCast, List.length_append, List.length_cons, List.length_nil, List.drop_zero, Nat.zero_add, Nat.add_zero, decT, decF, bneI_t, bneI_f, hmade, hyear, E, ho, hd, hn, hk, dworks_at, i64_in]
    · rw [if_neg h] at ho
      simp (disch := omega) only [onI_c, onS_c, onB_c, onN_c, onL_c, Option.bind_some, Option.map_some, cond_true, cond_false, ↓onI_c, ↓onS_c, ↓onB_c, ↓onN_c, ↓onL_c, ↓Option.bind_some, ↓cond_true, ↓cond_false, decide_eq_true, decide_eq_false, Bool.not_true, Bool.not_false, Int.toNat_natCast, List.length_append, List.length_cons, List.length_nil, List.drop_zero, Nat.zero_add, Nat.add_zero, decT, decF, bneI_t, bneI_f, hmade, hyear, E, ho, hd, hn, hk, dworks_at, i64_in]
  · have ho := on_last hz hM ⟨hg1, hg2⟩
    have hk := check_last ⟨hg1, hg2⟩
    generalize dn z M 1 = D at *
    generalize ln z M = n at *
    simp (disch := omega) only [onI_c, onS_c, onB_c, onN_c, onL_c, Option.bind_some, Option.map_some, cond_true, cond_false, ↓onI_c, ↓onS_c, ↓onB_c, ↓onN_c, ↓onL_c, ↓Option.bind_some, ↓cond_true, ↓cond_false, decide_eq_true, decide_eq_false, Bool.not_true, Bool.not_false, Int.toNat_natCast, List.length_append, List.length_cons, List.length_nil, List.drop_zero, Nat.zero_add, Nat.add_zero, decT, decF, bneI_t, bneI_f, hmade, hyear, E, ho, hd, hn, hk, dworks_at, i64_in, weekday_at]
  · have ho := on_from hz hM ⟨hw1, hw2⟩ hg
    have hk := check_from ⟨hw1, hw2⟩ hg
    generalize dn z M 1 = D at *
    generalize ln z M = n at *
    by_cases h : n < d
    · rw [if_pos h] at ho
      simp (disch := omega) only [onI_c, onS_c, onB_c, onN_c, onL_c, Option.bind_some, Option.map_some, cond_true, cond_false, ↓onI_c, ↓onS_c, ↓onB_c, ↓onN_c, ↓onL_c, ↓Option.bind_some, ↓cond_true, ↓cond_false, decide_eq_true, decide_eq_false, Bool.not_true, Bool.not_false, Int.toNat_natCast, List.length_append, List.length_cons, List.length_nil, List.drop_zero, Nat.zero_add, Nat.add_zero, decT, decF, bneI_t, bneI_f, hmade, hyear, E, ho, hd, hn, hk, dworks_at, i64_in]
    · rw [if_neg h] at ho
      simp (disch := omega) only [onI_c, onS_c, onB_c, onN_c, onL_c, Option.bind_some, Option.map_some, cond_true, cond_false, ↓onI_c, ↓onS_c, ↓onB_c, ↓onN_c, ↓onL_c, ↓Option.bind_some, ↓cond_true, ↓cond_false, decide_eq_true, decide_eq_false, Bool.not_true, Bool.not_false, Int.toNat_natCast, List.length_append, List.length_cons, List.length_nil, List.drop_zero, Nat.zero_add, Nat.add_zero, decT, decF, bneI_t, bneI_f, hmade, hyear, E, ho, hd, hn, hk, dworks_at, i64_in, weekday_at]
  · have ho := on_to hz hM ⟨hw1, hw2⟩ hg
    have hk := check_to ⟨hw1, hw2⟩ hg
    generalize dn z M 1 = D at *
    generalize ln z M = n at *
    by_cases h : n < d
    · rw [if_pos h] at ho
      simp (disch := omega) only [onI_c, onS_c, onB_c, onN_c, onL_c, Option.bind_some, Option.map_some, cond_true, cond_false, ↓onI_c, ↓onS_c, ↓onB_c, ↓onN_c, ↓onL_c, ↓Option.bind_some, ↓cond_true, ↓cond_false, decide_eq_true, decide_eq_false, Bool.not_true, Bool.not_false, Int.toNat_natCast, List.length_append, List.length_cons, List.length_nil, List.drop_zero, Nat.zero_add, Nat.add_zero, decT, decF, bneI_t, bneI_f, hmade, hyear, E, ho, hd, hn, hk, dworks_at, i64_in]
    · rw [if_neg h] at ho
      simp (disch := omega) only [onI_c, onS_c, onB_c, onN_c, onL_c, Option.bind_some, Option.map_some, cond_true, cond_false, ↓onI_c, ↓onS_c, ↓onB_c, ↓onN_c, ↓onL_c, ↓Option.bind_some, ↓cond_true, ↓cond_false, decide_eq_true, decide_eq_false, Bool.not_true, Bool.not_false, Int.toNat_natCast, List.length_append, List.length_cons, List.length_nil, List.drop_zero, Nat.zero_add, Nat.add_zero, decT, decF, bneI_t, bneI_f, hmade, hyear, E, ho, hd, hn, hk, dworks_at, i64_in, weekday_at]
theorem lawP_DayformWeekdays {dats : List Dat} (h : DatOk tau [.int .u8, .int .u8, .int .u8, .int .i32, .int .u8] dats) : F_law02_DayformWeekdays dats = some [.b true] := by
  obtain ⟨a, r, rfl, ha, b, r, rfl, hb, c, r, rfl, hc, t, r, rfl, ht, f, r, rfl, hf, rfl⟩ := h
  exact law_DayformWeekdays (wf_u8 ha) (wf_u8 hb) (wf_u8 hc) (wf_i32 ht) (wf_u8 hf)
end Go.Proofs.YtljbgkfoljjgbaaDoor
