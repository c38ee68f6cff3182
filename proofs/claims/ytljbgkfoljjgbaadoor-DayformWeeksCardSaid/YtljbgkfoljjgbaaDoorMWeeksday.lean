/-
  Day forms: the weeks of a month.
-/
import Derived.Test.YtljbgkfoljjgbaaDoorMRefusesday
namespace Go.Proofs.YtljbgkfoljjgbaaDoor
open Go.Ax Go.Lib
set_option linter.all false
set_option maxHeartbeats 8000000
attribute [local congr] cond_cong bind_cong onI_cong onB_cong onS_cong onN_cong onL_cong

/-- The days that are found, a week after each other. -/
def wk (f : Int) : Nat → List AV
  | 0 => []
  | j + 1 => wk f j ++ [.int .i64 (.sym (f + 7 * (j : Int)))]
theorem wk_len (f : Int) : ∀ j, (wk f j).length = j
  | 0 => rfl
  | j + 1 => by unfold wk; rw [List.length_append, wk_len f j]; rfl
theorem wk_closed (f : Int) : ∀ j, (wk f j).all (closedN 20) = true
  | 0 => rfl
  | j + 1 => by unfold wk; rw [List.all_append, wk_closed f j]; rfl
theorem weeks_run {w m z D n f : Int} (hw : 0 ≤ w ∧ w ≤ 6) (hn : 28 ≤ n ∧ n ≤ 31) (hD : -1000000000000 ≤ D ∧ D ≤ 1000000000000) (hf : (f + 4) % 7 = w) (hf0 : D ≤ f ∧ f ≤ D + 6) :
    ∀ (k j : Nat) (x : Int), x + k = D + n → x ≤ f + 7 * (j : Int) → f + 7 * (j : Int) ≤ x + 6 → D ≤ x → ∃ J : Nat, D + n ≤ f + 7 * (J : Int) ∧ f + 7 * (J : Int) ≤ D + n + 6 ∧
      iter F_law02_DayformWeeks_L0 [.i w, .i m, .i z, .i D, .i n, .n j, .i x, .l (wk f j)] = iter F_law02_DayformWeeks_L0 [.i w, .i m, .i z, .i D, .i n, .n J, .i (D + n), .l (wk f J)]
  | 0, j, x, hx, h1, h2, h3 => ⟨j, by omega, by omega, by rw [show x = D + n by omega]⟩
  | k + 1, j, x, hx, h1, h2, h3 => by
    by_cases hg : x = f + 7 * (j : Int)
    · obtain ⟨J, q1, q2, q3⟩ := weeks_run hw hn hD hf hf0 k (j + 1) (x + 1) (by omega) (by omega) (by omega) (by omega)
      refine ⟨J, q1, q2, ?_⟩
      rw [← q3]
      have hc : (wk f j ++ [AV.int .i64 (.sym x)]).all (closedN 20) = true := by rw [List.all_append, wk_closed]; rfl
      have hl := wk_len f j
      have hday : (x + 4) % 7 = w := by omega
      have e : wk f (j + 1) = wk f j ++ [AV.int .i64 (.sym x)] := by rw [hg]; rfl
      rw [e]
      apply iter_next
      unfold F_law02_DayformWeeks_L0
      clear e hg
      simp (disch := omega) only [onI_c, onS_c, onB_c, onN_c, onL_c, Option.bind_some, Option.map_some, cond_true, cond_false, ↓onI_c, ↓onS_c, ↓onB_c, ↓onN_c, ↓onL_c, ↓Option.bind_some, ↓cond_true, ↓cond_false, decide_eq_true, decide_eq_false, Bool.not_true, Bool.not_false, Int.toNat_natCast, List.length_append, List.length_cons, List.length_nil, List.drop_zero, Nat.zero_add, Nat.add_zero, decT, decF, bneI_t, bneI_f, i64_in, weekday_at, hday, hl, hc]
    · obtain ⟨J, q1, q2, q3⟩ := weeks_run hw hn hD hf hf0 k j (x + 1) (by omega) (by omega) (by omega) (by omega)
      refine ⟨J, q1, q2, ?_⟩
      rw [← q3]
      have hc := wk_closed f j
      have hday : ¬ (x + 4) % 7 = w := by omega
      apply iter_next
      unfold F_law02_DayformWeeks_L0
      simp (disch := omega) only [onI_c, onS_c, onB_c, onN_c, onL_c, Option.bind_some, Option.map_some, cond_true, cond_false, ↓onI_c, ↓onS_c, ↓onB_c, ↓onN_c, ↓onL_c, ↓Option.bind_some, ↓cond_true, ↓cond_false, decide_eq_true, decide_eq_false, Bool.not_true, Bool.not_false, Int.toNat_natCast, List.length_append, List.length_cons, List.length_nil, List.drop_zero, Nat.zero_add, Nat.add_zero, decT, decF, bneI_t, bneI_f, i64_in, weekday_at, hday, hc]
theorem weeks_end {w m z f : Int} (J : Nat) (hw : 0 ≤ w ∧ w ≤ 6) (hz : -2000000000 ≤ z ∧ z ≤ 2000000000) (hM : 1 ≤ m ∧ m ≤ 12) (hf : (f + 4) % 7 = w) (hf0 : dn z m 1 ≤ f ∧ f ≤ dn z m 1 + 6)
    (h1 : dn z m 1 + ln z m ≤ f + 7 * (J : Int)) (h2 : f + 7 * (J : Int) ≤ dn z m 1 + ln z m + 6) :
    F_law02_DayformWeeks_L0 [.i w, .i m, .i z, .i (dn z m 1), .i (ln z m), .n J, .i (dn z m 1 + ln z m), .l (wk f J)] = some (.inr [.b true]) := by
  have hl := ln_bound z m
  have hD := dn_bound (m := m) (d := 1) hz (by omega)
  have o1 := on_from (d := 1) hz hM hw (by omega)
  have o2 := on_from (d := 8) hz hM hw (by omega)
  have o3 := on_from (d := 15) hz hM hw (by omega)
  have o4 := on_from (d := 22) hz hM hw (by omega)
  have o5 := on_last hz hM hw
  have o6 := on_to (d := ln z m) hz hM hw (by omega)
  generalize dn z m 1 = D at *
  generalize ln z m = n at *
  rw [if_neg (by omega), show D + 1 - 1 + 6 - (D + 1 - 1 + 6 + 4 - w) % 7 = f by omega] at o1
  rw [if_neg (by omega), show D + 8 - 1 + 6 - (D + 8 - 1 + 6 + 4 - w) % 7 = f + 7 by omega] at o2
  rw [if_neg (by omega), show D + 15 - 1 + 6 - (D + 15 - 1 + 6 + 4 - w) % 7 = f + 14 by omega] at o3
  rw [if_neg (by omega), show D + 22 - 1 + 6 - (D + 22 - 1 + 6 + 4 - w) % 7 = f + 21 by omega] at o4
  rw [show D + n - 1 - (D + n - 1 + 4 - w) % 7 = f + 7 * ((J : Int) - 1) by omega] at o5
  rw [if_neg (by omega), show D + n - 1 - (D + n - 1 + 4 - w) % 7 = f + 7 * ((J : Int) - 1) by omega] at o6
  have hJ : J = 4 ∨ J = 5 := by omega
  have g : ∀ x : Int, asI .i64 (some (AV.int .i64 (.sym x))) = some x := fun x => rfl
  clear hf hf0 h1 h2
  unfold F_law02_DayformWeeks_L0
  rcases hJ with rfl | rfl
  · have k0 : (wk f 4)[0]? = some (.int .i64 (.sym (f + 7 * ((0 : Nat) : Int)))) := rfl
    have k1 : (wk f 4)[1]? = some (.int .i64 (.sym (f + 7 * ((1 : Nat) : Int)))) := rfl
    have k2 : (wk f 4)[2]? = some (.int .i64 (.sym (f + 7 * ((2 : Nat) : Int)))) := rfl
    have k3 : (wk f 4)[3]? = some (.int .i64 (.sym (f + 7 * ((3 : Nat) : Int)))) := rfl
    have e3 : (((4 : Nat) : Int) - 1).toNat = 3 := rfl
    simp (disch := omega) only [onI_c, onS_c, onB_c, onN_c, onL_c, Option.bind_some, Option.map_some, cond_true, cond_false, ↓onI_c, ↓onS_c, ↓onB_c, ↓onN_c, ↓onL_c, ↓Option.bind_some, ↓cond_true, ↓cond_false, decide_eq_true, decide_eq_false, Bool.not_true, Bool.not_false, Int.toNat_natCast, List.length_append, List.length_cons, List.length_nil, List.drop_zero, Nat.zero_add, Nat.add_zero, decT, decF, bneI_t, bneI_f, i64_in, from_at, last_at, to_at, o1, o2, o3, o4, o5, o6, k0, k1, k2, k3, g, e3, dworks_at]
  · have k0 : (wk f 5)[0]? = some (.int .i64 (.sym (f + 7 * ((0 : Nat) : Int)))) := rfl
    have k1 : (wk f 5)[1]? = some (.int .i64 (.sym (f + 7 * ((1 : Nat) : Int)))) := rfl
    have k2 : (wk f 5)[2]? = some (.int .i64 (.sym (f + 7 * ((2 : Nat) : Int)))) := rfl
    have k3 : (wk f 5)[3]? = some (.int .i64 (.sym (f + 7 * ((3 : Nat) : Int)))) := rfl
    have k4 : (wk f 5)[4]? = some (.int .i64 (.sym (f + 7 * ((4 : Nat) : Int)))) := rfl
    have e3 : (((5 : Nat) : Int) - 1).toNat = 4 := rfl
    simp (disch := omega) only [onI_c, onS_c, onB_c, onN_c, onL_c, Option.bind_some, Option.map_some, cond_true, cond_false, ↓onI_c, ↓onS_c, ↓onB_c, ↓onN_c, ↓onL_c, ↓Option.bind_some, ↓cond_true, ↓cond_false, decide_eq_true, decide_eq_false, Bool.not_true, Bool.not_false, Int.toNat_natCast, List.length_append, List.length_cons, List.length_nil, List.drop_zero, Nat.zero_add, Nat.add_zero, decT, decF, bneI_t, bneI_f, i64_in, from_at, last_at, to_at, o1, o2, o3, o4, o5, o6, k0, k1, k2, k3, k4, g, e3, dworks_at]
theorem law_DayformWeeks {a y m : Int} (ha : 0 ≤ a ∧ a ≤ 255) (hy : -2147483648 ≤ y ∧ y ≤ 2147483647) (hm : 0 ≤ m ∧ m ≤ 255) : F_law02_DayformWeeks [.i a, .i y, .i m] = some [.b true] := by
  obtain ⟨z, hyear, hz⟩ := year_at hy
  have E : i64 (1 + i64 (Int.tmod m 12)) = 1 + m % 12 := by rw [tmod_nn hm.1, i64_in (m % 12) (by omega), i64_in _ (by omega)]
  have hM : 1 ≤ 1 + m % 12 ∧ 1 + m % 12 ≤ 12 := by omega
  have E7 : i64 (Int.tmod a 7) = a % 7 := by rw [tmod_nn ha.1, i64_in _ (by omega)]
  have hw : 0 ≤ a % 7 ∧ a % 7 ≤ 6 := by omega
  generalize a % 7 = w at *
  generalize 1 + m % 12 = M at *
  clear ha hy hm
  have hl := ln_bound z M
  have hD := dn_bound (m := M) (d := 1) hz (by omega)
  have hd := days_at (d := 1) hz hM (by omega)
  have hn := len_at (y := z) hM
  have hf : ((dn z M 1 + (w - (dn z M 1 + 4)) % 7) + 4) % 7 = w := by omega
  have hf0 : dn z M 1 ≤ dn z M 1 + (w - (dn z M 1 + 4)) % 7 ∧ dn z M 1 + (w - (dn z M 1 + 4)) % 7 ≤ dn z M 1 + 6 := by omega
  generalize dn z M 1 + (w - (dn z M 1 + 4)) % 7 = f at *
  obtain ⟨J, q1, q2, q3⟩ := weeks_run (m := M) (z := z) hw hl hD hf hf0 (ln z M).toNat 0 (dn z M 1) (by omega) (by omega) (by omega) (by omega)
  have q4 := weeks_end J hw hz hM hf hf0 q1 q2
  unfold F_law02_DayformWeeks
  clear hf hf0
  simp (disch := omega) only [onI_c, onS_c, onB_c, onN_c, onL_c, Option.bind_some, Option.map_some, cond_true, cond_false, ↓onI_c, ↓onS_c, ↓onB_c, ↓onN_c, ↓onL_c, ↓Option.bind_some, ↓cond_true, ↓cond_false, decide_eq_true, decide_eq_false, Bool.not_true, Bool.not_false, Int.toNat_natCast, List.length_append, List.length_cons, List.length_nil, List.drop_zero, Nat.zero_add, Nat.add_zero, decT, decF, bneI_t, bneI_f, hyear, E, E7, hd, hn]
  exact q3.trans (iter_end q4)
theorem lawP_DayformWeeks {dats : List Dat} (h : DatOk tau [.int .u8, .int .i32, .int .u8] dats) : F_law02_DayformWeeks dats = some [.b true] := by
  obtain ⟨a, r, rfl, ha, t, r, rfl, ht, f, r, rfl, hf, rfl⟩ := h
  exact law_DayformWeeks (wf_u8 ha) (wf_i32 ht) (wf_u8 hf)
end Go.Proofs.YtljbgkfoljjgbaaDoor
